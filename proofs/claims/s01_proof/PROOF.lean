import PyProof.Rows.All
import Wide.All
import OpenK.AllK
import Wide.FinOn
import PyProof.EqAt
import PyProof.EqKinds
import PyProof.TupleCall
import KE.BitLaws
import KE.KDictList
import Open.SpecLaws
import KE.OsHead
import KE.OsGo
import PySem.Challenge.RW_coarserflows_s01_answers
set_option hygiene false
section
open Lean Parser
def mP:Nat->Syntax->Option Syntax
 |0,_=>none
 |n+1,s=>let N:=`Lean.Parser.Tactic
  if s.isIdent then some (mkNode (N++`rcasesPat.one) #[s])
  else if s.isOfKind ``Term.hole then some (mkNode (N++`rcasesPat.ignore) #[mkAtom "_"])
  else if s.isOfKind ``Term.anonymousCtor then do
   let x<-s[1].getSepArgs.mapM (mP n)
   some (mkNode (N++`rcasesPat.tuple) #[mkAtom "⟨",mkNullNode (mkSepArray (x.map λx=>mkNode (N++`rcasesPatLo) #[mkNode (N++`rcasesPatMed) #[mkNullNode #[x]],mkNullNode]) (mkAtom ",")),mkAtom "⟩"])
  else none
def mN(s:Syntax):Nat:=Id.run do
 let mut n:=0
 for x in s.topDown do if x.isOfKind ``Term.syntheticHole then n:=n+1
 return n
def mF(k:Nat):Nat->Syntax->Option (Syntax×Syntax×Syntax×Syntax)
 |0,_=>none
 |n+1,s=>
  if s.isOfKind ``Term.byTactic then none
  else if s.isOfKind ``Term.fun&&s[1].isOfKind ``Term.basicFun&&mN s==k&&s[1][0].getArgs.any (·.isOfKind ``Term.anonymousCtor) then do
   let c:=s[1][0].getArgs
   let i<-c.findIdx? (·.isOfKind ``Term.anonymousCtor)
   let p<-mP 9 c[i]!
   some (s,p,if i+1==c.size then s[1][3] else s.setArg 1 (s[1].setArg 0 (mkNullNode (c.extract (i+1) c.size))),s.setArg 1 ((s[1].setArg 0 (mkNullNode ((c.extract 0 i).push (mkIdent `hG_)))).setArg 3 (mkNode ``Term.syntheticHole #[mkAtom "?",mkAtom "_"])))
  else s.getArgs.findSome? (mF k n)
def mM(q:Syntax):TSyntax `Lean.Parser.Tactic.rcasesPatMed:=⟨mkNode `Lean.Parser.Tactic.rcasesPatMed #[mkNullNode #[q]]⟩
def mR(w:Bool)(t:Term):MacroM (TSyntax `tactic):=do
 let some (s,p,b,f):=mF (mN t) 99 t|Macro.throwUnsupported
 let t:Term:=⟨<-t.raw.replaceM λx=>pure (if x.isOfKind ``Term.fun&&x.getPos? ==s.getPos? then some f else none)⟩
 let p:=mM p
 let b:Term:=⟨b⟩
 if b.raw.isOfKind ``Term.syntheticHole then `(tactic|(refine $t;obtain $p :=hG_))
 else if w then `(tactic|(refine $t;obtain $p :=hG_;exact $b))
 else `(tactic|(refine $t;obtain $p :=hG_;refine $b))
def mL(p e:Term):MacroM (TSyntax `tactic):=do
 if p.raw.isIdent then Macro.throwUnsupported
 let some q:=mP 9 p|Macro.throwUnsupported
 let p:=mM q
 `(tactic|obtain $p :=$e)
def mC:Nat->Syntax->Nat
 |0,_=>0
 |n+1,s=>
  if s.isOfKind ``Term.paren then mC n s[1]
  else if s.isOfKind ``Term.app&&s[0].getId==`ar then 1+mC n s[1].getArgs.back!
  else 0
def mT(a b:Term):MacroM (TSyntax `tactic):=do
 let v(i:Nat):=mkIdent (.mkSimple s!"T_{i}")
 let n:=mC 99 b
 let x:=v 0
 let mut t:Term<-`((?_ : L2.Ig _ $x _ _ _))
 for i in [0:n] do
  let x:=v i
  let y:=v (i+1)
  t<-`(let $x : L2.TS:=L2.Ig _ $y;$t)
 let x:=v n
 t<-`(let $x : L2.TS:=_;$t)
 `(tactic|(refine⟨_,(L2.ar $a $b), ?_⟩;(try dsimp only [L2.xK,L2.xP,L2.xW]);refine $t))
end
local macro_rules
 |`(tactic|obtain⟨$a,$b,$c,$ps,*⟩:=$e)=>`(tactic|(refine Classical.byContradiction λnG_=> ?_;rcases $e:term with⟨$a,$b,$c,$ps,*⟩<;>(refine nG_ ?_;clear nG_)))
 |`(tactic|rintro $ps*)=>do
  match ps.back! with
  |`(rintroPat|⟨$a,$b,$c,$qs,*⟩)=>`(tactic|(rintro $(ps.pop)* hG_;obtain⟨$a,$b,$c,$qs,*⟩:=hG_))
  |_=>Lean.Macro.throwUnsupported
 |`(tactic|refine⟨_,ar $a $b, ?_⟩)=>mT a b
 |`(tactic|refine $t)=>mR false t
 |`(tactic|exact $t)=>mR true t
 |`(tactic|let $p:term :=$e)=>mL p e
 |`(tactic|rw [$rs,*]at $k:ident)=>`(tactic|(refine (?_ : _->_) $k;(try clear $k);intro $k:ident;rewrite [$rs,*]at $k:ident;(try (with_reducible rfl))))
 |`(tactic|cases $h:term)=>`(tactic|first|(injection $h;done)|(injection $h with hG_;injection hG_;done))
local macro_rules(kind:=Lean.Parser.Command.declaration)
 |s=>do
  let d:=s[1]
  if d[0].getAtomVal !="def"||s[0][4].getNumArgs !=0 then Lean.Macro.throwUnsupported
  if d[3][1].isOfKind `Lean.Parser.Term.byTactic then return s.setArg 1 (Lean.mkNode `Lean.Parser.Command.theorem #[Lean.mkAtom "theorem",d[1],Lean.mkNode `Lean.Parser.Command.declSig #[d[2][0],d[2][1][0]],d[3]])
  return s.setArg 0 (s[0].setArg 4 (Lean.mkNullNode #[Lean.mkNode `Lean.Parser.Command.noncomputable #[Lean.mkAtom "noncomputable"]]))
local macro_rules|`(tactic|exists $e,*)=>`(tactic|refine⟨$e,*⟩)
local macro_rules
 |`(f_ $x*)=>`(aV m p K L P aE $x*)
 |`(g_ $x*)=>`(bz m p K L P aE $x*)
 |`(h_ $x*)=>`(cC m p K L P aE $x*)
 |`(k_ $x*)=>`(aV m p K L P (bA m p) $x*)
 |`(q_ $x*)=>`(bz m p K L P (bA m p) $x*)
 |`(r_ $x*)=>`(cC m p K L P (bA m p) $x*)
noncomputable section
set_option bootstrap.genMatcherCode false
set_option backward.eqns.nonrecursive false
set_option backward.eqns.deepRecursiveSplit false
set_option tactic.hygienic false
set_option linter.all false
set_option maxRecDepth 100000
set_option maxHeartbeats 8000000
theorem S.{u}{a:Sort u}{x:a}:x=x:=rfl
def N:=@if_neg
def ai:=@if_pos
def bD:=@congrArg
def bU:=@decide_eq_false
def cq:=@decide_eq_true
def eB:=@of_decide_eq_true
def eQ:=@if_true
def g8:=@or_false
def hb:=@decide_eq_decide
def ie:=@if_false
def iK:=@beq_eq_false_iff_ne
def iM:=@beq_iff_eq
def j5:=@decide_eq_true_eq
def n0:=@decide_eq_true_iff
def p3:=@not_or
def rL:=@or_congr
def u9:=@bne_iff_ne
def vb:=@false_or
def G4:=@beq_self_eq_true
open Array renaming getElem?_eq_getElem->zq,getElem?_eq_none->Sl,getElem?_toList->R5,isEmpty_iff->SR,length_toList->rx,mem_toList_iff->RL,toList->Gd
open Bool renaming and_assoc->TH,and_eq_true->bx,and_eq_true_iff->T7,and_true->Ti,eq_iff_iff->ic,false->ao,false_and->ux,false_eq_true->nL,false_ne_true->d5,false_or->zj,noConfusion->ih,not_true->SY,or_eq_true->zi,true->I,true_and->rX
open Classical renaming byContradiction->GX,propDecidable->Hc
open False renaming elim->g5
open ForIn renaming forIn->uG
open ForInStep renaming yield->p4
open Iff renaming rfl->rO
open Int renaming ofNat->zS,toNat_natCast->uD
open List renaming all_append->zM,all_cons->iN,all_eq_true->js,all_map->TF,all_nil->Th,any_cons->uE,any_eq_true->Hl,append_assoc->ck,append_inj->md,append_nil->b0,append_of_mem->Hq,cons_append->dg,contains_cons->SE,contains_iff_mem->gQ,countP->Ht,countP_append->Tu,countP_eq_length_filter->Tr,countP_le_length->T1,countP_map->vf,drop_drop->HD,drop_eq_getElem_cons->TM,drop_eq_nil_of_le->zY,ext_getElem?->TU,filter->TR,filterMap->TJ,filterMap_append->vh,filterMap_cons->kR,filterMap_nil->zU,filter_append->nV,filter_congr->kY,filter_cons->ig,filter_eq_nil_iff->SK,filter_eq_self->Hb,filter_map->rM,filter_nil->vg,filter_sublist->Hk,find?_append->TX,find?_cons->gc,find?_eq_none->nP,find?_some->mc,flatMap_append->k4,flatMap_cons->b3,flatMap_nil->ep,flatten_append->uY,foldl_cons->Tn,forIn_cons->GC,forIn_nil->uH,getD_eq_getElem?_getD->Hz,getElem?_append_left->uC,getElem?_append_right->hu,getElem?_drop->HC,getElem?_eq_getElem->gf,getElem?_eq_none->GG,getElem?_eq_some_iff->cF,getElem?_inj->Hi,getElem?_map->bh,getElem?_modify->vm,getElem?_replicate->RR,getElem?_set->TV,getElem?_set_ne->ur,getElem?_set_self->uq,head?_cons->Tj,length->cN,length_append->br,length_cons->dn,length_drop->l7,length_eq_one_iff->TK,length_eq_zero_iff->kX,length_filterMap_le->iU,length_filter_le->iX,length_flatMap->Ha,length_map->z,length_modify->rY,length_nil->iP,length_range'->qe,length_range->qk,length_replicate->RT,length_reverse->TN,length_take->dU,lookup->nG,lookup_cons->p1,map->rV,map_append->aT,map_congr_left->gE,map_cons->aZ,map_filterMap->zT,map_flatMap->qb,map_id'->rQ,map_id->nW,map_map->d6,map_nil->hP,map_take->TQ,mem_append->bR,mem_append_left->gN,mem_append_right->eH,mem_cons->bg,mem_cons_of_mem->bC,mem_cons_self->bE,mem_eraseDups->S6,mem_filter->dz,mem_filterMap->j0,mem_flatMap->di,mem_iff_getElem?->hR,mem_map->bH,mem_map_of_mem->dY,mem_of_find?_eq_some->fq,mem_of_getElem?->cG,mem_range'_1->ve,mem_range->lZ,mem_singleton->bb,nil_append->dh,nodup_append->gC,nodup_cons->eh,nodup_nil->gd,nodup_range->Hd,not_mem_nil->gR,of_mem_zip->Gr,perm_ext_iff_of_nodup->vc,range'->cj,range'_append_1->kc,range'_succ->nR,range->eY,range_eq_range'->zK,range_succ->qg,replicate->Gu,reverse_cons->zZ,set_set->n8,size_toArray->eZ,sum_append->vd,sum_cons->eC,sum_nil->Hh,take_add_one->dq,take_append_drop->vk,take_append_of_le_length->TZ,take_length->dB,take_nil->TY,take_of_length_le->j4,take_zero->mi,toList_toArray->GS
open List.Nodup renaming sublist->Hj
open List.Pairwise renaming nil->Vb
open List.Perm renaming length_eq->Vy,of_eq->VD,trans->VC
open List.Sublist renaming refl->Vq
open List.cons renaming inj->p7
open Min renaming min->jw
open Nat renaming add_assoc->qd,add_comm->zJ,add_le_add_right->qj,add_sub_cancel->SO,add_zero->j9,le_of_eq->uz,le_of_lt->y1,le_of_not_lt->GV,le_of_succ_le->uJ,le_refl->aR,le_succ_of_le->HA,le_trans->cu,le_zero->Tf,lt_irrefl->jY,lt_of_lt_of_le->gM,lt_of_not_le->p8,lt_succ_iff_lt_or_eq->kg,lt_succ_of_lt->GD,lt_succ_self->pW,min_eq_left->ik,min_eq_right->n7,ne_of_gt->RJ,ne_of_lt->fB,not_lt_zero->k8,strongRecOn->Tc,sub_self->kd,sub_zero->SN,succ_mul->Ta,zero_add->uQ,zero_le->cP,zero_lt_one->Tw
open Nat.succ renaming inj->Ub
open Ne renaming symm->eP
open NeutralIO renaming bytes->Tv
open Option renaming bind_eq_some_iff->ft,bind_some->gh,getD_none->RZ,getD_some->zP,isSome_iff_exists->rB,isSome_map->kU,isSome_some->R9,map_eq_none_iff->Tq,map_eq_some_iff->cv,map_some->l9,none->O,some->Y,toList_some->Hs
open Option.some renaming inj->aS,injEq->zr
open Or renaming inl->zx,inr->GW
open PUnit renaming unit->nQ
open Prod renaming ext->kf
open Prod.mk renaming injEq->uW
open Pure renaming pure->dA
open PyFlat renaming call->qh,calls->zV,played->Hw,row->Tx,rows->vj,told->Hv
open PyProof.Rows renaming AllBare->jZ,Constant_none->Rz,IntsAre->rE,Subscript_->Gy,callWith_builtin1->UN,callWith_type1->Ge,envOfC->eI,iadd_int->RK,isTrue_plain->RG,isnot_none_gen->RD,join_list->U7,join_tuple->U8,notIn_str->U9,subscriptTail->RV,subscriptTail_builtinR->RW
open PySem renaming Addr->Z,Around->bZ,BindsTo->rA,CmpOp->nD,DictEntry->g6,Env->dS,ExceptHandler->rI,Expr->a7,FuncData->bc,GenState->F9,Heap->aD,Keyword->rD,MeetsIn->G3,Model->kS,NameKind->ht,Obj->aL,Operator->uv,Paired->cE,Params->j7,Pos->b2,Program->aw,PyData->l8,Scope->eA,Sem->fC,Shared->ak,Stmt->a8,Str->aa,Tok->dD,Value->J,Within->F7,World->au,assignEach->pR,atKey->fO,atKey_none_of_get->zB,atKey_of_get->zC,attributeBase->j3,backTo->fp,backToKw->l3,behindInMarks->nE,beq_builtin_none->T2,binaryOp->y5,bindArgs->y9,bindC->l6,bindL->l5,bootBuiltins->uo,boot_len->dE,builtinsNs->F8,cLine->cK,call->gO,callWith->rz,call_list_seq->R1,call_meets->GB,call_meetsIn->uL,callerA->p6,cellsFrom->fE,codeAny->pV,codeAny_mono->za,compEnvC->iO,compPost->GH,compareOp->fD,dictSetDefault->G5,dictSetHashed->G0,entryOfKey->jX,entry_at->zD,eval->iR,evalArgs_none->R3,evalPart_none->RU,excClassObj->zz,firstArgMember->Sx,foldedSetIterable->y4,getAttr->Gg,getItem->nJ,getMethod->pU,hashInt->F6,holding->nF,inplaceOp->uw,isSubtype_dict_dict->SX,keywordEach->l4,leaving->Gv,letOwnedTupleGo->y2,mainGlobals->fo,mem_of_lookup->hO,model->aM,newFunctionEnv->R8,not_mem_keys_of_get->SH,notedBy->rG,nums_intItems->R7,operate->Gz,placesWithHash->T3,pushCells->nK,pushCells_keeps->zg,pyIter->y3,pyNext->pT,rawInt->ry,recursionLimit->RO,sizeLine->aU,sizeLine_eq->y6,size_of_entries->ma,sliceBounds->pY,slot_dict_contains->HE,slot_list_getitem->RY,standAt->pQ,starEach->cA,storeName->Ga,storedH->hQ,storedH_new->uO,storedH_old->G1,subscripted->zb,swapsWith->l1,sysModules->eo,tupleKind->iL,tupleKind_room_in1->nN,typeIs_str->zc,typeLookup->Gx,typeOf->zd,valueAt->nM,wpAny->aI,wpAny_Assign_Subscript->Sh,wpAny_Call_Name_kw->uB,wpAny_Call_method->GK,wpAny_Compare1->RE,wpAny_Dict_empty->Si,wpAny_Name->Gb,wpAny_assign_Name->RI,wpAny_attempt->Sm,wpAny_bind->aH,wpAny_callSpecial?_slot->GP,wpAny_call_entry->rH,wpAny_dictEntries->j6,wpAny_dictEpoch->uM,wpAny_dictFind_heap->SG,wpAny_execs_cons->RH,wpAny_execs_nil->uu,wpAny_fieldsOf->Sq,wpAny_getItem_heap->GI,wpAny_getItem_of->Se,wpAny_holding->nO,wpAny_isInstance->GQ,wpAny_isOneOf_keyiter->Ss,wpAny_isSubtype_exc->SF,wpAny_isTrue_Compare1->RF,wpAny_loadName_cell->Ry,wpAny_loadName_local->Rx,wpAny_loadPart_at->GZ,wpAny_mono->g4,wpAny_newObj_type->zh,wpAny_notIn_of->Sf,wpAny_notOrdered_dict->zm,wpAny_passesOwn->pS,wpAny_pure->bu,wpAny_pyIter_enum->Sy,wpAny_pyIter_slot->GN,wpAny_rule->uP,wpAny_setField->Su,wpAny_setItem_heap->Sg,wpAny_specialOf->uK,wpAny_standAt->Sb,wpAny_truthy_bool->pP,wpAny_typeNameOfWhole_keyiter->zo,wpAny_typeNameOf_keyiter->zp,wpAny_typeOf->SU,wpAny_updateDictKeys->SI
open PySem.Around renaming under->Gn
open PySem.Builtin renaming len->Vi
open PySem.Builtin.Dict renaming dictSlotNone->U6,entriesForEmpty->SM,keyAndDefault->Vj,merge->SV,mergeDict->G2,quietEq->Vd,readDirectly->SW,selfAndRest->SS,showsAll->GO,updateFrom->zE
open PySem.Builtin.Dict_items renaming ownsTuple->Sr
open PySem.Builtin.List renaming listTooLong->GA
open PySem.Builtin.Range renaming rangeSize->Ul
open PySem.Builtin.Tuple renaming tupleHashOf->VI
open PySem.Calls renaming Name_function_global->RA,callWith_builtin->pZ,evalArgs_plain->uF,spliced_cons->pX,spliced_nil->uA
open PySem.Challenge renaming pw_coarserflows_s01_answers->VH
open PySem.CmpOp renaming In->RB,NotIn->RC
open PySem.Code renaming frames->RP,isFrame->Gp
open PySem.DictEntry renaming refKey->UK
open PySem.EqMixed renaming eq_bool_str->Us,eq_int_str->Uu,eq_str_bool->Uw,eq_str_int->Ux,ne_bool_str->UD,ne_int_str->UG,ne_str_bool->UI,ne_str_int->UJ
open PySem.EqNone renaming eq_bool_none->Ur,eq_int_none->Ut,eq_none_bool->Uo,eq_none_int->Up,eq_none_none->Um,eq_none_str->Uq,eq_str_none->Uv,ne_bool_none->UC,ne_int_none->UE,ne_none_bool->Uz,ne_none_int->UA,ne_none_none->Uy,ne_none_str->UB,ne_str_none->UH
open PySem.F renaming args_dict_get_3->Sk,args_dict_keyiterator_iter_1->S5,args_dict_keyiterator_next_1->So,entry_dict_get->Sj,entry_dict_keyiterator_iter->S4,entry_dict_keyiterator_next->Sn,excBase_Exception->j8,plainAttrs_dict->GL,plainAttrs_list->fu,plainAttrs_str->Sz,slot_dict_get->GJ,slot_dict_getitem->zk,slot_dict_iter->zl,slot_dict_keyiterator_iter->zF,slot_dict_keyiterator_next->p5,slot_dict_len->S2,slot_dict_setdefault->S3,slot_dict_update->S1,slot_list_append->gb,slot_list_extend->ze,slot_list_pop->R6,type_list_append->gF,type_list_extend->HB
open PySem.Heap renaming FlyingW->zy,SameBut->ib,get?_push_of_some->e8,get?_push_size->gB,get?_update_self->uN,lt_size->dN,size_push->jr
open PySem.Heap.DictOf renaming new->U5
open PySem.Heap.DictOfH renaming new->Vh
open PySem.Heap.IsSliceOf renaming new->UO
open PySem.Heap.SameBut renaming refl->SQ,update->iQ
open PySem.Heap.UpToSlots renaming of_keeps->Vc
open PySem.IsL renaming update->U4
open PySem.IsTupleKey renaming typeIs->Ve
open PySem.NameKind renaming cell->Sa,free->uI
open PySem.Obj renaming data_mapDict->SJ,data_mapDictKeys->rJ,data_mapFields->Sw,isFreed_of_dict->zA,mapFields->Sv,mapSeq->R4
open PySem.Paired renaming length->bO,snoc->Sd
open PySem.PassesOwn renaming leaving->z0,never->dZ
open PySem.PyData renaming eqv->zf
open PySem.SeqAt renaming EqAt->R0,shaped->rF
open PySem.SeqAt.EqAt renaming bool_bool->UU,bool_int->UW,bool_none->UT,bool_str->UX,int_bool->UZ,int_int->U0,int_none->UY,int_str->Rr,none_bool->UQ,none_int->UR,none_str->US,same->UP,str_bool->U2,str_int->Rt,str_none->U1,str_str->U3
open PySem.Str renaming join->GR,ofString->dO
open PySem.StrLaws renaming found_one->Va
open PySem.Txt renaming isalpha->zv,isdigit->zu,join->zt
open PySem.Unicode renaming isAlpha->TC,isDigit->TB
open PySem.Value renaming bool->Ru,bytes->Rv,float->Rw,int->pM,isInt->Rp,isStrOf->Rq,none->kQ,ref->cp,str->yZ,type->pN
open PySem.Value.type renaming inj->T8
open PySem.W renaming Frag->af,OpenLaw->GU,WData->eJ,WRecords->T4,WalkOS->Ua,WellAll->kW,callWith_K->Gq,callWith_K0->RQ,cellsFrom_some->Gw,codeIn->rC,emptyDict->l2,enter_call->SD,excIn->gP,findIn->j1,fnOf->nH,funFrames_hide->GY,handedIn->RM,hasDictIn->Gf,hideAll->pO,hideAll_get->uk,hideAll_none->um,instObj->nC,isFn->uy,keepIn->kT,length_le_weightAllW->T6,lookIn->y7,makesIn->Gj,methodCall_KW->Gm,mg_of->mm,nsIn->ml,of_hideAll->y0,plainGet->y8,plainGet_of->Gh,plainOver->RN,takerIn->Gi
open PySem.W.Codec renaming app->vn,denoteAll->z2,encAll->r0,withinAll->T9
open PySem.W.Looks renaming here->UL
open PySem.W.ReadsAllW renaming cons->VL,nil->VJ
open PySem.W.WData renaming int->zw,weightAll->T5
open PySem.W.WShape renaming has->SA
open PySem.Within renaming cons->UM
open PyVacfaf renaming answers->vl,answers_asked->Hx,shape->jv,whole->mh
open SizeOf renaming sizeOf->gg
open Std.Legacy.Range renaming forIn_eq_forIn_range'->Vf,size->Vg
open Sum renaming inl->nB,inr->kO
open True renaming intro->j2
open UInt8 renaming le_iff_toNat_le->Tg,ofNat->e0,ofNat_toNat->zW,toNat->il,toNat_inj->uZ,toNat_lt->zX,toNat_ofNat'->zL
open Vacfaa renaming Abs->cw,Arrow->Tt,Expr->ae,INPUT->du,LONG->Vm,NUMBER->Vn,Name->dr,RESERVED->nZ,Text->aj,ascii->az,binderOf->g7,bindersIn->qc,bindersOf->uX,closing->Te,decimal->d8,deepOf->dH,funsOf->zO,gluedBy->Hg,inBrackets->Hf,isClosed->hS,isDigit->iT,isName->gD,isProgram->nY,isSmall->kZ,labelOf->ag,labelsOf->bJ,nodeAt->mb,nodesOf->aG,numberOf->zI,programOf->hT,read->g9,spaced->va,textOf->bq,tokensOf->dt,valueOf->hU
open Vacfaa.Abs renaming fn->G8,pair->Vl,ref->Vk
open Vacfaa.Abs.fn renaming injEq->Vz
open Vacfaa.Abs.pair renaming injEq->VA
open Vacfaa.Abs.ref renaming injEq->VB
open Vacfaa.Expr renaming app->Tp,fn->p9,fst->Vt,get->Vv,letE->S8,new->G7,num->Vo,pair->G6,snd->Vu,var->hV
open Vacfaa.Expr.var renaming injEq->Vp
open Vacfab renaming Fact->hv,Place->aA,Table->iS,Way->ka,arrowsIn->rT,bodyOf->uR,broughtBy->S7,has->zH,inOrder->zG,labelled->b5,leastOf->d7,mostFacts->qa,neededBy->nT,placesOf->aq,roundsFrom->uU,seedsIn->uT,seedsOf->rK,setAt->nS,sortsOf->bp,waysIn->kb,waysOf->uS
open Vacfab.Fact.mk renaming injEq->S9
open Vacfab.Place renaming first->Vw,inside->Vx,name->Td,node->G9
open Vacfaf renaming Call->k7,Classes->nX,Look->qf,Out_->mj,Shift->me,State->n6,allOf->nU,aloneAt->ke,askedFor->e9,changedTo->rR,changesOf->k6,classOf->cH,classesFrom->rP,classesOf->ha,does->fF,exprOf->He,funPlaces->Hn,isTold->bo,joined->ij,lookFor->To,lookFrom->zN,lookOn->jt,lookedFor->ju,moved->er,movedAbs->zR,movedFact->iV,movedPlace->rS,onNode->rZ,onRung->z1,putAt->cQ,refPlaces->Ho,roundOf->Hm,rungOf->mf,sameKind->uV,shiftOf->e1,sizeAt->zQ,start->Hy,step->iW,tableBy->rN,toldPlaces->Ts,toldSet->Hr
open Vacfaf.Look renaming places->Vr,table->Vs
open VacfafNeutral renaming asked->VG,asked1->Tz,callOf->VF,encode->VE,natural->rW,step->qi,text?->Hu,whole60->vi
open PySem PySem.Spec PyProof.Rows
section
universe u0 u1 u2 u3 u4 u5 u6 u7 u8
end
namespace L2
inductive A3 (a z c:Prop):Prop|mk (_:a) (_:z) (_:c)
inductive A4 (a z c d:Prop):Prop|mk (_:a) (_:z) (_:c) (_:d)
inductive A5 (a z c d A:Prop):Prop|mk (_:a) (_:z) (_:c) (_:d) (_:A)
inductive A6 (a z c d A D:Prop):Prop|mk (_:a) (_:z) (_:c) (_:d) (_:A) (_:D)
inductive A7 (a z c d A D G:Prop):Prop|mk (_:a) (_:z) (_:c) (_:d) (_:A) (_:D) (_:G)
inductive A8 (a z c d A D G M:Prop):Prop|mk (_:a) (_:z) (_:c) (_:d) (_:A) (_:D) (_:G) (_:M)
inductive A9 (a z c d A D G M i:Prop):Prop|mk (_:a) (_:z) (_:c) (_:d) (_:A) (_:D) (_:G) (_:M) (_:i)
inductive A10 (a z c d A D G M i N:Prop):Prop|mk (_:a) (_:z) (_:c) (_:d) (_:A) (_:D) (_:G) (_:M) (_:i) (_:N)
inductive X2 {A:Sort c} {z:Sort d} (p:A->z->Prop):Prop|mk (a:A) (b:z) (_:p a b)
inductive X3 {A:Sort d} {z:Sort e} {D:Sort f} (p:A->z->D->Prop):Prop|mk (a:A) (b:z) (c:D) (_:p a b c)
inductive X4 {A:Sort e} {z:Sort f} {D:Sort g} {G:Sort h} (p:A->z->D->G->Prop):Prop|mk (a:A) (b:z) (c:D) (d:G) (_:p a b c d)
inductive X5 {A:Sort f} {z:Sort g} {D:Sort h} {G:Sort i} {M:Sort j} (p:A->z->D->G->M->Prop):Prop|mk (a:A) (b:z) (c:D) (d:G) (e:M) (_:p a b c d e)
inductive X6 {A:Sort g} {z:Sort h} {D:Sort i} {G:Sort j} {M:Sort k} {N:Sort l} (p:A->z->D->G->M->N->Prop):Prop|mk (a:A) (b:z) (c:D) (d:G) (e:M) (f:N) (_:p a b c d e f)
inductive X8 {A:Sort i} {z:Sort j} {D:Sort k} {G:Sort l} {M:Sort m} {N:Sort n} {S:Sort o} {H:Sort q} (p:A->z->D->G->M->N->S->H->Prop):Prop|mk (a:A) (b:z) (c:D) (d:G) (e:M) (f:N) (g:S) (h:H) (_:p a b c d e f g h)
abbrev Key:=Sum Int aa
def n9:Key->J->Bool
 |.inl k,v=>Rp k v
 |.inr x,v=>Rq x v
def HF(z:au):Key->Int
 |.inl k=>F6 k
 |.inr x=>hashStr z x
theorem kh:∀{G:Key} {v:J},n9 G v=I->(∃A z,G=nB A/\v=pM A z)\/(∃D z,G=kO D/\v=yZ D z)
 |.inl A,v,a=>by let⟨z,M⟩:=Value.isInt_shape (k:=A) (v:=v) a;exact .inl ⟨A,z,S,M⟩
 |.inr D,v,a=>by let⟨z,M⟩:=Value.isStrOf_shape (x:=D) (v:=v) a;exact .inr ⟨D,z,S,M⟩
def HG(z:Int)(A:dD):n9 (.inl z) (.int z A)=I:=by simp [n9,Rp]
def HH(z:aa)(A:dD):n9 (.inr z) (.str z A)=I:=by simp [n9,Rq]
def HI(z A:Int):decide ((nB z:Key)=nB A)=(z==A):=by
 by_cases D:z=A
 .subst D;simp
 .have G:¬(nB z:Key)=nB A:=λM=>D (Sum.inl.inj M);rw [bU G];exact(iK.mpr D).symm
def HJ(z A:aa):decide ((kO z:Key)=kO A)=decide (z=A):=by
 by_cases D:z=A
 .subst D;simp
 .have G:¬(kO z:Key)=kO A:=λM=>D (Sum.inr.inj M);rw [bU G,bU D]
theorem HK(z:Int)(A:aa):decide ((nB z:Key)=kO A)=ao:=bU (λD=>nomatch D)
theorem HL(z:aa)(A:Int):decide ((kO z:Key)=nB A)=ao:=bU (λD=>nomatch D)
def eK(c:aw)(U:au):PySem.KeyKind c U Key where
 is:=n9
 hash:=HF U
 inj:=λv g h d b=>by
  rcases kh d with⟨G,D,rfl,rfl⟩|⟨M,D,rfl,rfl⟩
  .rcases kh b with⟨N,u,rfl,A⟩|⟨y,u,rfl,A⟩
   .injection A with a _;rw [a]
   .exact nomatch A
  .rcases kh b with⟨N,u,rfl,A⟩|⟨y,u,rfl,A⟩
   .exact nomatch A
   .injection A with a _;rw [a]
 byValue:=λe v z=>by rcases kh z with⟨G,D,rfl,rfl⟩|⟨M,D,rfl,rfl⟩<;>rfl
 pyHash:=λT z=>by
  rcases kh T with⟨G,D,rfl,rfl⟩|⟨M,D,rfl,rfl⟩
  .exact wpAny_pyHash_int z
  .exact wpAny_pyHash_str z
 eqBool:=λf T z=>by
  rcases kh f with⟨G,D,rfl,rfl⟩|⟨M,D,rfl,rfl⟩
  .rcases kh T with⟨N,u,rfl,rfl⟩|⟨y,u,rfl,rfl⟩
   .rw [HI]at z;exact wpAny_eqBool_int z
   .rw [HK]at z;exact Rr G D y u _ _ _ _ z
  .rcases kh T with⟨N,u,rfl,rfl⟩|⟨y,u,rfl,rfl⟩
   .rw [HL]at z;exact Rt M D N u _ _ _ _ z
   .rw [HJ]at z;exact wpAny_eqBool_str z
 «strs»:=λe M D v z=>by
  rcases kh z with⟨G,u,rfl,A⟩|⟨y,u,rfl,A⟩
  .exact nomatch A
  .injection A with a _;subst a;cases v<;>rfl
theorem HM(D:aw)(G:au)(z:Int)(A:dD):(eK D G).is (.inl z) (.int z A)=I:=HG z A
theorem HN(D:aw)(G:au)(z:aa)(A:dD):(eK D G).is (.inr z) (.str z A)=I:=HH z A
inductive V where
 |bw|bl (z:Bool)|int (i:Int)|str (x:aa)|fP (z:Array UInt8)|ql (z:UInt64)|ref (a:Z)|ty (n:String)
 deriving DecidableEq
def RelV:V->J->Prop
 |.bw,u=>u=kQ
 |.bl b,u=>u=Ru b
 |.int i,u=>∃z,u=pM i z
 |.str x,u=>∃z,u=yZ x z
 |.fP b,u=>∃z,u=Rv b z
 |.ql b,u=>∃z,u=Rw b z
 |.ref a,u=>u=cp a
 |.ty n,u=>u=pN n
abbrev Vals:List V->List J->Prop:=cE RelV
variable{ul:List V}{t1:List J}
theorem Vals.length(D:Vals ul t1):ul.length=t1.length:=bO D
theorem Vals.get:∀{z:List V} {A:List J} {i:Nat} {x:V},Vals z A->z[i]?=Y x->∃u,A[i]?=Y u/\RelV x u
 |_,_,_,_,.nil,a=>by simp at a
 |_,_,0,_,.cons b _,a=>by simp at a;subst a;exists _,S,b
 |_,_,i+1,x,.cons _ c,a=>by let⟨u,D,G⟩:=Vals.get (i:=i) (x:=x) c (by simpa using a);exists u,by simpa using D,G
theorem Vals.append:∀{z A:List V} {D G:List J},Vals z D->Vals A G->Vals (z++A) (D++G)
 |_,_,_,_,.nil,a=>a
 |_,_,_,_,.cons b c,a=>.cons b (Vals.append c a)
theorem Vals.take:∀{A:List V} {D:List J} (z:Nat),Vals A D->Vals (A.take z) (D.take z)
 |_,_,0,_=>.nil
 |_,_,_+1,.nil=>.nil
 |_,_,z+1,.cons a b=>.cons a (Vals.take z b)
theorem Vals.drop:∀{A:List V} {D:List J} (z:Nat),Vals A D->Vals (A.drop z) (D.drop z)
 |_,_,0,a=>a
 |_,_,_+1,.nil=>.nil
 |_,_,z+1,.cons _ b=>Vals.drop z b
def fv:Option V->Option J->Prop
 |some v,Y u=>RelV v u
 |none,O=>True
 |_,_=>False
variable{sK:Type}
def KV:List (sK×V)->List (sK×J)->Prop:=cE λ(A:sK×V) (D:sK×J)=>A.1=D.1/\RelV A.2 D.2
def kV:Key->V
 |.inl i=>.int i
 |.inr x=>.str x
inductive HO where
 |lst (z:List V)
 |tup (z:List V)
 |dK (A:List (Key×V))|dT (A:List (List Key×V))
 |set (D:Int->Bool) (n:Nat)
 |ins (G M:Z) (fs:List (aa×V))
 |own (x:Z)
 |xd (fs:List (aa×V))
 |met (N x:Z)
 |r1 (S T:Int)
 |bP (o:aL) (u:HO)
 |k9 (ps:Array J)
 |ext (U:aD->Prop)
abbrev U:=Z->Option HO
def upd(H:U)(A:Z)(o:HO):U:=λz=>if z=A then Y o else H z
variable{d:Z}
def M{H:U}{o:HO}:upd H d o d=Y o:=by unfold upd;rw [ai S]
variable{q:Z}
def ah{H:U}{o:HO}(D:d≠q):upd H q o d=H d:=by unfold upd;rw [N D]
def gS{H:U}{o u:HO}:upd (upd H d o) d u=upd H d u:=by funext a;unfold upd;split<;>rfl
def cW{H:U}{o u:HO}(G:H d=Y o)(D:H q=Y u)(M:o≠u):d≠q:=by intro N;subst N;rw [G]at D;exact M (aS D)
def cB{H:U}{o:HO}(G:H d=Y o)(D:H q=O):d≠q:=by intro M;subst M;rw [G]at D;cases D
section
variable (P:aw) (w:au)
def d2(H:U)(A:aD)(z:Z):HO->Prop
 |.lst D=>D.length<=aU/\∃(N:List J) (S:Nat),Vals D N/\A.get? z=Y {cls:=.type "list",data:=.seq N.toArray S}
 |.tup D=>D.length<=aU/\∃N:List J,Vals D N/\IsTup A z N.toArray
 |.dK a=>a.length<=aU/\(z==eo)=ao/\∃e,KV a e/\A.DictOf (eK P w) z e
 |.dT a=>a.length<=aU/\(z==eo)=ao/\∃D:List (List Key×Z×J),
   cE (λ(T:List Key×V) (c:List Key×Z×J)=>T.1=c.1/\H c.2.1=Y (.tup (T.1.map kV))/\RelV T.2 c.2.2) a D/\
   ∃o f i,A.get? z=Y o/\o.ExactDict/\o.data=.dict f i/\f.toList=D.map (jX (iL (eK P w)))/\(D.map (·.1)).Nodup
 |.set j S=>A.SetOf (intKind P w) z j S
 |.ins k b fs=>H b=Y (.own z)/\fs.length<=1000/\b≠z/\A.get? z=Y (nC k b)/\
   ∃M,A.Ns1 b M/\(∀G,fv (fs.lookup G) (M G))/\F7 M (fs.map (·.1))
 |.own _=>∃o,A.get? z=Y o
 |.xd fs=>∃M,A.Ns1 z M/\∀G,fv (fs.lookup G) (M G)
 |.r1 lo l=>∃m u v,A.get? z=Y {cls:=.type "range",data:=.fields #[.int lo m,.int l u,.int 1 v]}
 |.bP o u=>A.get? z=Y o/\d2 H A z u
 |.k9 ps=>A.get? z=Y {cls:=.none,data:=.fields ps}
 |.met G x=>A.get? z=Y (PySem.W.methodObj (.ref G) (.ref x))
 |.ext d=>d A/\(∃o,A.get? z=Y o)/\∀g h:aD,d g->(∀o,g.get? z=Y o->h.get? z=Y o)->d h
def dv(H:U)(A:aD):Prop:=∀z o,H z=Y o->d2 P w H A z o
end
variable{P:aD}{m:aw}{p:au}{H:U}{o:HO}
def d2.lt(A:d2 m p H P d o):d<P.objs.size:=by
 cases o with
 |lst b=>let⟨_,_,_,_,z⟩:=A;exact dN z
 |tup b=>let⟨_,_,_,D⟩:=A;exact D.lt
 |dK c=>let⟨_,_,_,_,o,_,_,z,_⟩:=A;exact dN z
 |dT c=>let⟨_,_,_,_,o,_,_,z,_⟩:=A;exact dN z
 |set h n=>let⟨o,_,_,_,z,_⟩:=A;exact dN z
 |ins e f fs=>let⟨_,_,_,z,_⟩:=A;exact dN z
 |own y=>let⟨_,z⟩:=A;exact dN z
 |xd fs=>let⟨_,⟨_,_,_,z,_⟩,_⟩:=A;exact dN z
 |r1 lo g=>let⟨_,_,_,z⟩:=A;exact dN z
 |bP i u=>let⟨z,_⟩:=A;exact dN z
 |k9 ps=>exact dN (show P.get? d=Y _ from A)
 |met j y=>exact dN (show P.get? d=Y _ from A)
 |ext k=>let⟨_,⟨_,z⟩,_⟩:=A;exact dN z
variable{AC:Type}
theorem Paired.b9{D G:sK->AC->Prop}:∀{M:List sK} {N:List AC},cE D M N->(∀d S,D d S->G d S)->cE G M N
 |_,_,.nil,_=>.nil
 |_,_,.cons c a,b=>.cons (b _ _ c) (Paired.b9 a b)
variable{r:U}{LT:aD}
def d2.iY(D:d2 m p H P d o)(A:∀N u,(N=d\/H N=Y (.own d))->P.get? N=Y u->LT.get? N=Y u)(h:∀N,H N=Y (.own d)->r N=Y (.own d)) (q:∀N a,H N=Y (.tup a)->r N=Y (.tup a)):d2 m p r LT d o:=by
 induction o with
 |lst a=>let⟨G,f,k,M,z⟩:=D;exists G,f,k,M,A _ _ (.inl S) z
 |tup a=>let⟨G,f,M,T,z,c⟩:=D;exists G,f,M,T,A _ _ (.inl S) z,c
 |dK H'=>let⟨G,y,s,M,T,U,b,z,c⟩:=D;exists G,y,s,M,T,U,b,A _ _ (.inl S) z,c
 |dT H'=>
  let⟨G,y,a,M,T,U,b,z,c⟩:=D;exists G,y,a,Paired.b9 M λl e G=>⟨G.1,q _ _ G.2.1,G.2.2⟩,T,U,b,A _ _ (.inl S) z,c
 |set C k=>let⟨T,U,b,g,z,c⟩:=D;exists T,U,b,g,A _ _ (.inl S) z,c
 |ins E F fs=>
  let⟨w,G,t,z,i,⟨j,U,b,x,c⟩,M⟩:=D;exists h _ w,G,t,A _ _ (.inl S) z,i,⟨j,U,b,A _ _ (.inr w) x,c⟩,M
 |own y=>let⟨T,z⟩:=D;exists T,A _ _ (.inl S) z
 |xd fs=>let⟨i,⟨j,U,b,z,c⟩,M⟩:=D;exists i,⟨j,U,b,A _ _ (.inl S) z,c⟩,M
 |r1 lo K=>let⟨g,u,v,z⟩:=D;exists g,u,v,A _ _ (.inl S) z
 |bP T u B=>let⟨z,e⟩:=D;exists A _ _ (.inl S) z,B e
 |k9 ps=>
  have z:=D;exact A d _ (.inl S) z
 |met L y=>
  have z:=D;exact A d _ (.inl S) z
 |ext Q=>let⟨l,⟨o,z⟩,n⟩:=D;exists n _ _ l λo e=>A _ _ (.inl S) e,⟨o,A _ _ (.inl S) z⟩,n
theorem dv.lt(z:dv m p H P)(A:H d=Y o):d<P.objs.size:=(z d o A).lt
def dv.fresh(z:dv m p H P)(A:P.objs.size<=d):H d=O:=by
 cases b:H d with
 |none=>rfl
 |some u=>exact absurd (gM (z.lt b) A) (jY _)
theorem dv.kept(D:dv m p H P)(G:∀A u,P.get? A=Y u->LT.get? A=Y u):dv m p H LT:=λd o M=>
 (D d o M).iY (λA u _ z=>G A u z) (λ_ z=>z) λ_ _ z=>z
variable{h':aD}{a:Z}
theorem dv.laid(G:dv m p H P)(T:∀A u,P.get? A=Y u->h'.get? A=Y u)(U:P.objs.size<=a)(b:d2 m p (upd H a o) h' a o):dv m p (upd H a o) h':=λA u D=>by
 have N:=G.fresh U;by_cases S:A=a
 .subst S;rw [M]at D;cases D;exact b
 .rw [ah S]at D;exact(G A u D).iY (λc v _ z=>T c v z) (λc z=>ah (cB z N)▸z) λc d z=>ah (cB z N)▸z
def Rd(H:U)(z:Z)(u:HO):Prop:=H z=Y u\/∃o,H z=Y (.bP o u)
def Rd.ok{H:U}{u:HO}(z:Rd H d u)(N:dv m p H P):d2 m p H P d u:=by
 rcases z with z|⟨o,z⟩
 .exact N d u z
 .obtain⟨_,S⟩:=N d _ z;exact S
def cX:Option HO->Prop
 |some (.lst _)=>True
 |some (.dK _)=>True
 |some (.dT _)=>True
 |some (.set _ _)=>True
 |some (.ins _ _ _)=>True
 |some (.ext _)=>True
 |_=>False
variable{Ev:HO}{x e:Z}
theorem dv.write(i:dv m p H P)(N:cX (H x))(d:e=x\/H e=Y (.own x))(j:∀D u,D≠e->P.get? D=Y u->h'.get? D=Y u)(k:∃u,h'.get? e=Y u)(l:d2 m p (upd H x Ev) h' x Ev):dv m p (upd H x Ev) h':=λD u G=>by
 have f:∀c y,H c=Y (.own y)->c≠x:=λc y z A=>by subst A;rw [z]at N;exact N
 have w:∀c T,H c=Y (.tup T)->c≠x:=λc T z A=>by subst A;rw [z]at N;exact N
 by_cases U:D=x
 .subst U;rw [M]at G;cases G;exact l
 .rw [ah U]at G;by_cases a:D=e
  .have g:H D=Y (.own x):=by
    rcases d with A|A
    .exact absurd (a.trans A) U
    .rwa [a]
   rw [G]at g;cases g;let⟨v,n⟩:=k;exists v,a▸n
  .refine(i D u G).iY (λc v b z=>j c v ?_ z) (λc z=>ah (f c D z)▸z) λc T z=>ah (w c T z)▸z;rcases b with rfl|b
   .exact a
   .rintro rfl;rcases d with A|A
    .exact f c D b A
    .rw [b]at A;cases A;exact U S
structure Un(fs ex:List Z)(H A:U)(D G:aD):Prop where
 keep:∀z o,D.get? z=Y o->H z=O->z∉fs->z∉ex->G.get? z=Y o
 slot:∀z o,D.get? z=Y o->H z=O->z∈fs->z∉ex->∃N,G.get? z=Y {o with slots:=N}
 free:∀z o,D.get? z=Y o->H z=O->z∉ex->A z=O
 there:∀z o,D.get? z=Y o->z∉ex->∃S,G.get? z=Y S
 ki:∀z M,H z=Y (.tup M)->A z=Y (.tup M)
 iZ:∀z o u,H z=Y (.bP o u)->A z=Y (.bP o u)
 kj:∀z ps,H z=Y (.k9 ps)->∃T,A z=Y (.k9 (ps++T))
variable{SL:aL}{wf VS:List Z}
def Un.any(u:Un wf VS H r P LT)(D:P.get? d=Y SL)(G:H d=O)(M:d∉VS):∃S,LT.get? d=Y {SL with slots:=S}:=by
 by_cases N:d∈wf
 .exact u.slot d SL D G N M
 .exact⟨SL.slots,u.keep d SL D G N M⟩
theorem Un.kept(G:∀A u,P.get? A=Y u->LT.get? A=Y u):Un wf VS H H P LT:=
 ⟨λA D z _ _ _=>G A D z,λA D z _ _ _=>⟨D.slots,G A D z⟩,λ_ _ _ M _=>M,λA D z _=>⟨D,G A D z⟩,λ_ _ z=>z,λ_ _ _ z=>z,λ_ N z=>⟨#[],by rw [z];simp⟩⟩
theorem Un.refl:Un wf VS H H P P:=Un.kept λ_ _ z=>z
theorem Un.laid(D:∀A u,P.get? A=Y u->h'.get? A=Y u)(M:P.objs.size<=a)(G:H a=O):Un wf VS H (upd H a o) P h' where
 keep:=λA u z _ _ _=>D A u z
 slot:=λA u z _ _ _=>⟨u.slots,D A u z⟩
 free:=λA u z N _=>ah (fB (gM (dN z) M))▸N
 there:=λA u z _=>⟨u,D A u z⟩
 ki:=λA S z=>ah (cB z G)▸z
 iZ:=λA u S z=>ah (cB z G)▸z
 kj:=λA T z=>⟨#[],by rw [ah (cB z G),z];simp⟩
def Un.write(M:cX (H x))(d:e=x\/H e=Y (.own x))(S:∀z u,z≠e->P.get? z=Y u->h'.get? z=Y u)(f:∃u,h'.get? e=Y u):Un wf VS H (upd H x o) P h':=by
 have U:∀z,H z=O->z≠x:=λz D G=>by subst G;rw [D]at M;exact M
 have b:∀z,H z=O->z≠e:=λz D G=>by
  subst G;rcases d with N|N
  .exact U z D N
  .rw [D]at N;cases N
 have T:∀z u,H z=Y u->¬cX (Y u)->z≠x:=λz u A g G=>by subst G;rw [A]at M;exact g M
 exists λz u A D _ _=>S z u (b z D) A,λz u A D _ _=>⟨u.slots,S z u (b z D) A⟩,λz u A D _=>ah (U z D)▸D,λz u A _=>?_,λz i A=>by rwa [ah (T z _ A λG=>G)],λz u i A=>by rwa [ah (T z _ A λG=>G)],λz j A=>⟨#[],by rw [ah (T z _ A λG=>G),A];simp⟩;by_cases c:z=e
 .subst c;exact f
 .exact⟨u,S z u c A⟩
def r2(z:aD)(H:U):List Z:=(eY z.objs.size).filter λA=>(H A).isSome
def kl(z:aD)(H:U):aD:=pO z (r2 z H)
theorem HQ(z:aD)(H:U):(kl z H).objs.size=z.objs.size:=PySem.W.hideAll_size _ _
theorem HR{H:U}{o:aL}(G:P.get? d=Y o)(M:H d=O):(kl P H).get? d=Y o:=
 uk _ G λN=>by have D:=(dz.mp N).2;rw [M]at D;simp at D
def HS{H:U}{o:aL}(D:(kl P H).get? d=Y o):P.get? d=Y o/\H d=O:=by
 have G:=y0 (r2 P H) D;exists G,?_;cases a:H d with
 |none=>rfl
 |some x=>
  have M:d∈r2 P H:=dz.mpr ⟨lZ.mpr (dN G),by simp [a]⟩;have N:(kl P H).get? d=O:=um (r2 P H) M
  rw [N]at D;cases D
def HU(D A:aD)(G:Z):List (Z×aL):=(eY A.objs.size).filterMap λz=>if z=G\/(D.get? z).isSome=I then O else(A.get? z).map λo=>(z,o)
def rest(z A:aD)(D G:Z):List (Z×aL):=(HU z A D).filter λM=>decide (M.1≠G)
structure Mod(K:af)(G:aa->Option J)(base:aD):Prop where
 qm:K.In base
 glob:base.Ns fo G
 blt:∃z,base.Ns F8 z/\∀x:aa,x≠"__name__"->z x=uo x
 nolimit:base.NoLimit
structure Cx where
 prog:aw
 w:au
 K:af
 G:aa->Option J
 base:aD
 A:bZ
 N:List aa
 d9:ak
 jx:U
 env:dS
 outer:List dS
 stack:List dS
 ex:List Z
 fn:aa->Bool
 calm:Bool
 pn:List (Z×aL)
 xe:J->ak->Prop
def ea(z:List dS):List Z:=z.filterMap (·.frame)
abbrev Cx.fs(z:Cx):List Z:=ea z.outer
def qn(z:eA)(A:aa):Prop:=z.names.lookup A=Y .local\/z.names.lookup A=Y .cell\/z.names.lookup A=Y .free
def Loc(z:eA)(A:aa):Prop:=z.names.lookup A=Y .local\/z.names.lookup A=Y .cell
def Look(A:dS)(D:aD)(G:aa->Option J)(z:aa)(u:J):Prop:=
 (A.kindOf z=Y .local/\G z=Y u)\/((A.kindOf z=Y .cell\/A.kindOf z=Y .free)/\∃c,A.cells.lookup z=Y c/\D.IsCell c (Y u))
structure Cx.Ok(z:Cx):Prop where
 mod:Mod z.K z.G z.base
 kind:z.env.scope.kind=.function
 glob:z.env.globals=fo
 blt:z.env.builtins=F8
 above:z.d9.heap.objs.size<=z.env.locals
 inj:∀x y c,z.env.cells.lookup x=Y c->z.env.cells.lookup y=Y c->x=y
 has:∀x,(z.env.kindOf x=Y .cell\/z.env.kindOf x=Y .free)->∃c,z.env.cells.lookup x=Y c
 mn:∀x c,z.fn x=I->z.env.cells.lookup x=Y c->z.d9.heap.objs.size<=c
 hd:z.calm=I->z.A.handled=O
 frames:z.A.frames=Y z.stack
 ob:z.stack=z.outer\/(z.stack=z.env::z.outer/\z.env.frame=Y z.env.locals)
 oe:∀A∈z.ex,A≠z.env.locals/\∀x c,z.env.cells.lookup x=Y c->c≠A
 bs:∀A o,z.base.get? A=Y o->z.d9.heap.get? A=Y o/\z.jx A=O
 ip:z.base.objs.size<=z.d9.heap.objs.size
 mq:∀A o,z.base.get? A=Y o->A∉z.ex
 mr:∀A∈z.ex,A∉z.fs
 funs:z.d9.heap.FunFrames z.base z.outer
 km:∀A∈z.fs,z.jx A=O
structure Inv(z:Cx)(G:List (Z×aL))(D:List (Option V))(H:U)(A:ak):Prop where
 ok:z.Ok
 os:A.os=z.d9.os
 bare:jZ A.gens
 base:Un z.fs z.ex z.jx H z.d9.heap A.heap
 loc:∃m,A.heap.Ns z.env.locals m/\∀(i:Nat) (x:aa) (v:V),z.N[i]?=Y x->D[i]?=Y (Y v)->qn z.env.scope x->∃u,RelV v u/\Look z.env A.heap m x u
 cell:∀x c,z.env.cells.lookup x=Y c->∃v,A.heap.IsCell c v
 free:H z.env.locals=O
 gG:∀x c,z.env.cells.lookup x=Y c->H c=O
 pin:∀p∈z.pn++G,A.heap.get? p.1=Y p.2/\H p.1=O/\p.1≠z.env.locals/\p.1∉z.fs/\∀v,p.2.data≠.cell v
 bf:dv z.prog z.w H A.heap
 len:D.length=z.N.length
variable{h:Cx}
theorem Cx.Ok.HV(A:h.Ok){o:aL}(D:h.base.get? d=Y o):d∉h.fs:=λG=>by have:=(A.funs.mem G).1;rw [D]at this;cases this
variable{B:ak}{pr:List (Z×aL)}{GM:List (Option V)}
theorem Inv.bs(A:Inv h pr GM H B):∀z o,h.base.get? z=Y o->B.heap.get? z=Y o/\H z=O:=λz o D=>
 ⟨A.base.keep z o (A.ok.bs z o D).1 (A.ok.bs z o D).2 (A.ok.HV D) (A.ok.mq z o D),A.base.free z o (A.ok.bs z o D).1 (A.ok.bs z o D).2 (A.ok.mq z o D)⟩
theorem Inv.bk(A:Inv h pr GM H B):∀z o,h.base.get? z=Y o->B.heap.get? z=Y o:=λz o D=>(A.bs z o D).1
theorem Inv.mod(z:Inv h pr GM H B):Mod h.K h.G h.base:=z.ok.mod
theorem Inv.fb(z:Inv h pr GM H B):h.K.In B.heap:=z.ok.mod.qm.keeps z.bk
theorem Inv.fr(z:Inv h pr GM H B):∃A,Fr h.base h.env.locals B.heap A:=
 let⟨A,D,_⟩:=z.loc
 ⟨A,D,z.bk,cu z.ok.ip z.ok.above⟩
theorem Inv.lt(z:Inv h pr GM H B):h.env.locals<B.heap.objs.size:=let⟨_,A,_⟩:=z.loc;A.lt
theorem Inv.sz(z:Inv h pr GM H B):h.d9.heap.objs.size<=B.heap.objs.size:=cu z.ok.above (y1 z.lt)
theorem Inv.HW(z:Inv h pr GM H B)(D:B.heap.objs.size<=d):d∉h.fs:=λG=>by let⟨_,o,M,_⟩:=z.ok.funs.mem G;exact absurd (gM (dN M) (cu z.sz D)) (jY _)
theorem Inv.vo(A:Inv h pr GM H B):∀z c,h.env.cells.lookup z=Y c->c≠h.env.locals:=λz c M N=>by let⟨v,o,D,G⟩:=A.cell z c M;let⟨U,⟨a,b,d,S,T,_⟩,_⟩:=A.loc;rw [N,S]at D;cases D;rw [T]at G;cases G
def Inv.funs(D:Inv h pr GM H B):B.heap.FunFrames h.base h.outer:=by
 have U:∀(z:List dS),(∀G∈ea z,G∈h.fs)->h.d9.heap.FunFrames h.base z->B.heap.FunFrames h.base z:=by
  intro z;induction z with
  |nil=>intro _ _;trivial
  |cons env j a=>
   intro T b;let⟨c,⟨A,o,M,d,e,f⟩,g⟩:=b;have N:=T A (by unfold ea;rw [kR,M];exact bE)
   let⟨k,X⟩:=D.base.slot A o e (D.ok.km A N) N λi=>D.ok.mr A i N;exists c,⟨A,_,M,d,X,f⟩,a (λG S=>T G (by unfold ea;rw [kR,M];exact bC _ S)) g
 exact U h.outer (λ_ S=>S) D.ok.funs
def Inv.stack(z:Inv h pr GM H B):B.heap.FunFrames h.base h.stack:=by
 rcases z.ok.ob with A|⟨A,a⟩
 .rw [A];exact z.funs
 .rw [A];let⟨G,D,_⟩:=z.loc;refine .cons (by rw [z.ok.kind];decide) a D ?_ z.funs;exact Heap.get?_none_of_le (cu z.ok.ip z.ok.above)
theorem Inv.r3(G:Inv h pr GM H B):∀D∈ea h.stack,D∈h.env.locals::h.fs:=λD z=>by
 rcases G.ok.ob with A|⟨A,a⟩
 .rw [A]at z;exact bC _ z
 .rw [A]at z;unfold ea at z;rw [kR,a]at z;exact z
theorem Inv.r4(z:Inv h pr GM H B):∀A∈ea h.stack,H A=O:=λA D=>by
 rcases bg.mp (z.r3 A D)with G|D
 .rw [G];exact z.free
 .obtain⟨_,o,M,_⟩:=z.ok.funs.mem D;exact z.base.free A o M (z.ok.km A D) λN=>z.ok.mr A N D
def Inv.step{g':Array F9}{K:Nat}{d':Drawn}{ch:List Z}(D:Inv h pr GM H B)(g:∀z∈ch,(z∈h.ex\/h.d9.heap.objs.size<=z)/\z≠h.env.locals/\(∀G c,h.env.cells.lookup G=Y c->c≠z)/\∀T∈h.pn++pr,T.1≠z)(p:∀z o,z≠h.env.locals->z∉h.fs->z∉ch->B.heap.get? z=Y o->H z=O->P.get? z=Y o)(w:∀z o,z≠h.env.locals->z∈h.fs->z∉ch->B.heap.get? z=Y o->H z=O->∃q,P.get? z=Y {o with slots:=q}) (l:∀z o,z∉ch->B.heap.get? z=Y o->H z=O->r z=O)(L:∀z o,z∉ch->B.heap.get? z=Y o->∃σ,P.get? z=Y σ)(s:∀z b,H z=Y (.tup b)->r z=Y (.tup b)) (Q:∀z o u,H z=Y (.bP o u)->r z=Y (.bP o u)) (R:∀z m,H z=Y (.k9 m)->∃V,r z=Y (.k9 (m++V)))(W:∀e,B.heap.Ns h.env.locals e->P.Ns h.env.locals e) (ab:dv h.prog h.w r P) (ad:jZ g'):Inv h pr GM r {B with heap:=P,gens:=g',drawn:=d',toks:=K}:=by
 have x:∀z o,h.d9.heap.get? z=Y o->z≠h.env.locals:=λz o A=>fB (gM (dN A) D.ok.above);have n:∀z o,h.d9.heap.get? z=Y o->z∉h.ex->z∉ch:=λz o A M d=>by
  rcases(g z d).1 with N|N
  .exact M N
  .exact absurd (gM (dN A) N) (jY _)
 have y:∀G c,h.env.cells.lookup G=Y c->∀v,B.heap.IsCell c v->P.IsCell c v:=λG c A v ⟨o,f,h'⟩=>by
  have i:c∉ch:=λN=>(g c N).2.2.1 G c A S;by_cases X:c∈h.fs
  .obtain⟨q,al⟩:=w c o (D.vo G c A) X i f (D.gG G c A);exists _,al,h'
  .exact⟨o,p c o (D.vo G c A) X i f (D.gG G c A),h'⟩
 exists D.ok,D.os,ad,⟨λz o A U d M=>?_,λz o A U d M=>?_,λz o A U M=>?_,λz o A M=>?_,λz b A=>s z b (D.base.ki z b A),λz o b A=>Q z o b (D.base.iZ z o b A),λz m A=>?_⟩,?_,λG c A=>?_,?_,λG c A=>?_,λT C=>?_,ab,D.len
 .exact p z o (x z o A) d (n z o A M) (D.base.keep z o A U d M) (D.base.free z o A U M)
 .obtain⟨q,a⟩:=D.base.slot z o A U d M;let⟨am,j⟩:=w z _ (x z o A) d (n z o A M) a (D.base.free z o A U M);exists am,j
 .obtain⟨σ,a⟩:=D.base.there z o A M;exact l z σ (n z o A M) a (D.base.free z o A U M)
 .obtain⟨σ,a⟩:=D.base.there z o A M;exact L z σ (n z o A M) a
 .obtain⟨an,a⟩:=D.base.kj z m A;let⟨ap,j⟩:=R z _ a;exact⟨an++ap,by rw [j,Array.append_assoc]⟩
 .obtain⟨e,as,a0⟩:=D.loc;exists e,W e as,λa1 G v a j a2=>?_;let⟨u,a3,t⟩:=a0 a1 G v a j a2;exists u,a3,?_;rcases t with t|⟨k,c,A,N⟩
  .exact .inl t
  .exact .inr ⟨k,c,A,y G c A _ N⟩
 .obtain⟨v,N⟩:=D.cell G c A;exists v,y G c A v N
 .obtain⟨e,⟨o,_,_,f,_⟩,_⟩:=D.loc;exact l _ o (λN=>(g _ N).2.1 rfl) f D.free
 .obtain⟨v,o,f,h'⟩:=D.cell G c A;exact l c o (λN=>(g c N).2.2.1 G c A S) f (D.gG G c A)
 .obtain⟨A,U,E,F,a4⟩:=D.pin T C;have i:T.1∉ch:=λN=>(g T.1 N).2.2.2 T C S
  exists p T.1 T.2 E F i A U,l T.1 T.2 i A U,E,F,a4
def Inv.un{t':Nat}(G:Inv h pr GM H B)(u:Un h.fs [] H r B.heap h')(T:dv h.prog h.w r h'):Inv h pr GM r {B with heap:=h',toks:=t'}:=by
 let⟨f,⟨o,g,X,N,i⟩,_⟩:=id G.loc;let⟨j,U⟩:=u.any N G.free (by simp);exact G.step (g':=B.gens) (d':=B.drawn) (ch:=[]) (λ_ a=>nomatch a) (λz o _ M _ A D=>u.keep z o A D M (by simp)) (λz o _ M _ A D=>u.slot z o A D M (by simp)) (λz o _ A D=>u.free z o A D (by simp)) (λz o _ A=>u.there z o A (by simp)) u.ki u.iZ u.kj (λk b=>by let⟨l,c,d,S,e⟩:=b;rw [N]at S;cases S;exists _,c,d,U,e) T G.bare
def Inv.call{g':Array F9}{t':Nat}{d':Drawn}{ch:List Z}(M:Inv h pr GM H B)(u:Un (ea h.stack) ch H r B.heap h')(d:dv h.prog h.w r h')(e:jZ g')(U:∀z∈ch,(z∈h.ex\/h.d9.heap.objs.size<=z)/\z≠h.env.locals/\(∀f c,h.env.cells.lookup f=Y c->c≠z)/\∀g∈h.pn++pr,g.1≠z):Inv h pr GM r {B with heap:=h',gens:=g',drawn:=d',toks:=t'}:=by
 let⟨m,⟨o,n,p,a,q⟩,_⟩:=id M.loc;let⟨s,N⟩:=u.any a M.free λT=>(U _ T).2.1 rfl;exact M.step (ch:=ch) U (λz o N X A D G=>u.keep z o D G (λT=>(bg.mp (M.r3 z T)).elim N X) A) (λz o _ _ A D G=>u.any D G A) (λz o A D G=>u.free z o D G A) (λz o A D=>u.there z o D A) u.ki u.iZ u.kj (λt i=>by let⟨v,j,k,b,l⟩:=i;rw [a]at b;cases b;exists _,j,k,N,l) d e
def Inv.turned{t':Nat}(T:Inv h pr GM H B)(N:∀z o,z≠d->B.heap.get? z=Y o->P.get? z=Y o)(b:H d=O)(U:d≠h.env.locals)(G:d∈h.ex\/h.d9.heap.objs.size<=d) (e:∀f c,h.env.cells.lookup f=Y c->c≠d) (g:∀X∈h.pn++pr,X.1≠d):Inv h pr GM H {B with heap:=P,toks:=t'}:=by
 have a:∀z u,H z=Y u->z≠d:=λz u A D=>by rw [D,b]at A;cases A
 refine T.step (g':=B.gens) (d':=B.drawn) (ch:=[d]) (λz i=>?_) (λz o _ _ M A _=>N z o (λD=>M (by simp [D])) A) (λz o _ _ M A _=>⟨o.slots,N z o (λD=>M (by simp [D])) A⟩) (λ_ _ _ _ j=>j)
  (λz o M A=>⟨o,N z o (λD=>M (by simp [D])) A⟩) (λ_ _ A=>A) (λ_ _ _ A=>A) (λz q A=>⟨#[],by rw [A];simp⟩) (λr k=>?_) (λz u A=>?_) T.bare
 .have A:z=d:=by simpa using i
  subst A;exists G,U,e,g
 .obtain⟨o,l,m,n,p⟩:=k;exists o,l,m,N _ o (eP U) n,p
 .refine(T.bf z u A).iY (λc v M S=>N c v ?_ S) (λ_ S=>S) λ_ _ S=>S;rcases M with D|D
  .rw [D];exact a z u A
  .exact a c _ D
theorem Inv.tok(z:Inv h pr GM H B)(A:Nat):Inv h pr GM H {B with toks:=A}:=z.un (h':=B.heap) (t':=A) Un.refl z.bf
theorem Inv.kept{t':Nat}(z:Inv h pr GM H B)(A:∀D u,B.heap.get? D=Y u->P.get? D=Y u):Inv h pr GM H {B with heap:=P,toks:=t'}:=z.un (Un.kept A) (z.bf.kept A)
theorem Inv.laid{a:Z}{o:HO}{t':Nat}(z:Inv h pr GM H B)(D:∀G u,B.heap.get? G=Y u->h'.get? G=Y u)(A:B.heap.objs.size<=a)(M:d2 h.prog h.w (upd H a o) h' a o):Inv h pr GM (upd H a o) {B with heap:=h',toks:=t'}:=z.un (Un.laid D A (z.bf.fresh A)) (z.bf.laid D A M)
theorem Inv.write{x e:Z}{o:HO}{t':Nat}(A:Inv h pr GM H B)(D:cX (H x))(G:e=x\/H e=Y (.own x))(M:∀z u,z≠e->B.heap.get? z=Y u->h'.get? z=Y u)(N:∃u,h'.get? e=Y u)(S:d2 h.prog h.w (upd H x o) h' x o):Inv h pr GM (upd H x o) {B with heap:=h',toks:=t'}:=A.un (Un.write D G M N) (A.bf.write D G M N S)
variable{WG:List (Option V)}
theorem Inv.weak(z:Inv h pr WG H B)(G:GM.length=WG.length)(M:∀(A:Nat) v,GM[A]?=Y (Y v)->WG[A]?=Y (Y v)):Inv h pr GM H B:=
 ⟨z.ok,z.os,z.bare,z.base,let⟨N,S,T⟩:=z.loc;⟨N,S,λA U v a b c=>T A U v a (M A v b) c⟩,z.cell,z.free,z.gG,z.pin,z.bf,G.trans z.len⟩
variable{WH:List (Z×aL)}
theorem Inv.z3(z:Inv h WH GM H B)(G:∀A∈pr,B.heap.get? A.1=Y A.2/\H A.1=O/\A.1≠h.env.locals/\A.1∉h.fs/\∀v,A.2.data≠.cell v):Inv h pr GM H B:=
 ⟨z.ok,z.os,z.bare,z.base,z.loc,z.cell,z.free,z.gG,λA M=>(bR.mp M).elim (λN=>z.pin A (gN _ N)) (G A),z.bf,z.len⟩
variable{tz:List aa}{t wP:Nat}{nw:aa}
def vp(M:tz.Nodup)(N:tz[t]?=Y nw)(S:tz[wP]?=Y nw):t=wP:=by let⟨a,T⟩:=cF.mp N;let⟨b,U⟩:=cF.mp S;exact(List.getElem_inj M).mp (T.trans U.symm)
variable{KF:Unit->ak->Prop}{LE:kS}{ss:bZ}{s5:J->ak->Prop}
def z4{v:V}{u:J}(z:Inv h pr GM H B)(ad:h.N.Nodup)(k:h.N[t]?=Y nw)(U:Loc h.env.scope nw)(al:RelV v u)(am:∀w,Inv h pr (GM.set t (Y v)) H w->(∃f,ib f B.heap w.heap/\(f=h.env.locals\/h.env.cells.lookup nw=Y f))->KF () w) (be:h.fn nw=I\/h.env.scope.names.lookup nw=Y .local:=by first|exact .inl rfl|exact .inr rfl|assumption):aI LE ss (Ga h.env nw u) KF s5 B:=by
 let⟨bi,x,an⟩:=id z.loc;have bk:(h.env.scope.kind==.class||(h.env.scope.kind==.module&&h.env.locals !=h.env.globals))=ao:=by rw [z.ok.kind];rfl
 have ap:t<GM.length:=z.len▸(cF.mp k).1;have X:=z.vo
 have as:∀{f:Z} {P:aD},(∃o,B.heap.get? f=Y o/\H f=O)->ib f B.heap P->dv h.prog h.w H P:=λ{f P} bl D G bm A=>by
  let⟨_,_,a0⟩:=bl;refine(z.bf G bm A).iY (λc p T a=>(D.2 c ?_).trans a) (λ_ a=>a) λ_ _ a=>a;rintro rfl;rcases T with rfl|T
  .rw [a0]at A;cases A
  .rw [a0]at T;cases T
 rcases U with g|g
 .refine wpAny_storeName_local g x (λP bn D=>?_) bk;let⟨bs,_,_,bt,_⟩:=id x;refine am _ ⟨z.ok,z.os,z.bare,⟨λG o A b s U=>?_,λG o A b s U=>?_,z.base.free,λG o A U=>?_,z.base.ki,z.base.iZ,z.base.kj⟩,⟨_,bn,λl y C M e E=>?_⟩,λy c A=>?_,z.free,z.gG,λm F=>?_,as ⟨bs,bt,z.free⟩ D,by simpa using z.len⟩ ⟨_,D,.inl S⟩
  .exact(D.2 G (fB (gM (dN A) z.ok.above))).trans (z.base.keep G o A b s U)
  .obtain⟨K,M⟩:=z.base.slot G o A b s U;exists K,(D.2 G (fB (gM (dN A) z.ok.above))).trans M
  .obtain⟨L,M⟩:=z.base.there G o A U;exists L,(D.2 G (fB (gM (dN A) z.ok.above))).trans M
  .by_cases i:l=t
   .subst i;rw [k]at M;cases M;rw [uq ap]at e;cases e;exists u,al,.inl ⟨g,by simp⟩
   .rw [ur (eP i)]at e;let⟨N,Q,a⟩:=an l y C M e E;exists N,Q,?_;rcases a with⟨n,A⟩|⟨n,c,A,d⟩
    .refine .inl ⟨n,?_⟩;have:y≠nw:=λA=>i (vp ad M (A▸k))
     simp [this,A]
    .exact .inr ⟨n,c,A,d.sameBut D (X y c A)⟩
  .obtain⟨p,d⟩:=z.cell y c A;exists p,d.sameBut D (X y c A)
  .obtain⟨A,b,q,R,r⟩:=z.pin m F;exists (D.2 m.1 q).trans A,b,q,R,r
 .have W:h.fn nw=I:=by
   rcases be with d|d
   .exact d
   .rw [d]at g;cases g
  let⟨c,T⟩:=z.ok.has nw (.inl g);let⟨p,d⟩:=z.cell nw c T;refine wpAny_storeName_cell z.ok.kind g T d (λP a1 D=>?_);let⟨bv,a2,ca⟩:=id d;refine am {B with heap:=P} ⟨z.ok,z.os,z.bare,⟨λG o A b s U=>?_,λG o A b s U=>?_,z.base.free,λG o A U=>?_,z.base.ki,z.base.iZ,z.base.kj⟩,⟨bi,x.sameBut D (eP (X nw c T)),λl y C M e E=>?_⟩,λy j A=>?_,z.free,z.gG,λm F=>?_,as ⟨bv,a2,z.gG nw c T⟩ D,by simpa using z.len⟩ ⟨c,D,.inr T⟩
  .exact(D.2 G (fB (gM (dN A) (z.ok.mn nw c W T)))).trans (z.base.keep G o A b s U)
  .obtain⟨K,M⟩:=z.base.slot G o A b s U;exists K,(D.2 G (fB (gM (dN A) (z.ok.mn nw c W T)))).trans M
  .obtain⟨L,M⟩:=z.base.there G o A U;exists L,(D.2 G (fB (gM (dN A) (z.ok.mn nw c W T)))).trans M
  .by_cases i:l=t
   .subst i;rw [k]at M;cases M;rw [uq ap]at e;cases e;exists u,al,.inr ⟨.inl g,c,T,a1⟩
   .rw [ur (eP i)]at e;let⟨N,Q,a⟩:=an l y C M e E;exists N,Q,?_;rcases a with a|⟨n,j,A,cd⟩
    .exact .inl a
    .refine .inr ⟨n,j,A,cd.sameBut D ?_⟩;rintro rfl;exact i (vp ad M (z.ok.inj _ _ _ A T▸k))
  .by_cases a3:j=c
   .subst a3;exists _,a1
   .obtain⟨ce,ch⟩:=z.cell y j A;exists ce,ch.sameBut D a3
  .obtain⟨A,b,q,R,r⟩:=z.pin m F;exists (D.2 m.1 ?_).trans A,b,q,R,r;intro a;rw [a,a2]at A;have ci:=aS A
   exact r p (ci▸ca)
theorem vq{v:V}{u:J}(U:Inv h pr GM H B)(a:h.N.Nodup)(b:h.N[t]?=Y nw)(c:Loc h.env.scope nw)(d:RelV v u)(e:∀A,Inv h pr (GM.set t (Y v)) H A->KF () A) (f:h.fn nw=I\/h.env.scope.names.lookup nw=Y .local:=by first|exact .inl rfl|exact .inr rfl|assumption):aI LE ss (Ga h.env nw u) KF s5 B:=
 z4 U a b c d (λA g _=>e A g) f
def Inv.qo{s':ak}{ch:List Z}(A:Inv h pr GM H B)(D:s'.os=B.os)(u:Un (ea h.stack) ch H r B.heap s'.heap)(G:dv h.prog h.w r s'.heap)(M:jZ s'.gens)(N:∀z∈ch,(z∈h.ex\/h.d9.heap.objs.size<=z)/\z≠h.env.locals/\(∀S c,h.env.cells.lookup S=Y c->c≠z)/\∀T∈h.pn++pr,T.1≠z):Inv h pr GM r s':=by
 let⟨P,U,a,b,e⟩:=s';have d:=D
 subst d;exact A.call (g':=U) (t':=b) (d':=a) u G M N
abbrev XK:=J->Option Z->U->Prop
abbrev St:=List (Option V)
abbrev VK:=V->U->Prop
abbrev VLx:=Nat->St->U->Prop
abbrev VCx:=Nat->U->Prop
abbrev TE:=St->U->VK->Prop
abbrev TT:=St->U->(Bool->U->Prop)->Prop
abbrev TA:=St->U->(List V->U->Prop)->Prop
structure Ends where
 nx:St->U->Prop
 rt:VK
 bk:St->U->Prop:=λ_ _=>False
 ct:St->U->Prop:=λ_ _=>False
abbrev Ends.aN(z:Ends)(A:St->U->Prop):Ends:={z with nx:=A}
abbrev Ends.lp(z:Ends)(A:St->U->Prop):Ends:={z with nx:=A,ct:=A,bk:=z.nx}
abbrev Ends.fn(z:VK):Ends:=⟨λ_ A=>z .bw A,z,λ_ _=>False,λ_ _=>False⟩
abbrev TS:=Ends->St->U->Prop
inductive EP (z:Cx) (A:List (Z×aL)) (D:St) (G:VK) (u:J) (M:ak):Prop
 |mk(v a:_)(_:Inv z A D a M)(_:RelV v u)(_:G v a)
def TP(A:Cx)(D:List (Z×aL))(G:St)(M:Bool->U->Prop)(N:Bool)(S:ak):Prop:=∃z,Inv A D G z S/\M N z
inductive AP (z:Cx) (A:List (Z×aL)) (D:St) (G:List V->U->Prop) (M:List J) (N:ak):Prop
 |mk(a b:_)(_:Inv z A D b N)(_:Vals a M)(_:G a b)
def SP(D:Cx)(G:List (Z×aL))(M:Ends)(S:Flow)(N:ak):Prop:=
 match S with
 |.next=>∃A z,Inv D G A z N/\M.nx A z
 |.brk=>∃A z,Inv D G A z N/\M.bk A z
 |.cont=>∃A z,Inv D G A z N/\M.ct A z
 |.ret u=>∃v A z,Inv D G A z N/\RelV v u/\M.rt v z
def PE(z:Cx)(N:a7)(S:TE):Prop:=
 ∀(D:List (Z×aL)) (G:ak) (A:St) (H:U) (M:VK),Inv z D A H G->S A H M->aI (aM z.prog z.w) z.A (eval N z.env) (EP z D A M) z.xe G
def PT(z:Cx)(D:a7)(S:TT):Prop:=
 ∀(G:List (Z×aL)) (M:ak) (A:St) (H:U) (N:Bool->U->Prop),Inv z G A H M->S A H N->aI (aM z.prog z.w) z.A (isTrue D z.env (eval D z.env)) (TP z G A N) z.xe M
def PW(z:Cx)(N:a7)(S:TT):Prop:=
 ∀(T:fC J) (D:List (Z×aL)) (G:ak) (A:St) (H:U) (M:Bool->U->Prop),Inv z D A H G->S A H M->aI (aM z.prog z.w) z.A (isTrue N z.env T) (TP z D A M) z.xe G
variable{op:a7}{Is:TT}
theorem PW.pt(G:PW h op Is):PT h op Is:=G _
def PA(z:Cx)(N:List a7)(S:TA):Prop:=
 ∀(T:b2) (D:List (Z×aL)) (G:ak) (A:St) (H:U) (M:List V->U->Prop),Inv z D A H G->S A H M->aI (aM z.prog z.w) z.A (spliced (fp T (cA N z.env))) (AP z D A M) z.xe G
def PS(z:Cx)(N:a8)(S:TS):Prop:=
 ∀(A:List (Z×aL)) (D:ak) (G:St) (H:U) (M:Ends),Inv z A G H D->S M G H->aI (aM z.prog z.w) z.A (exec N z.env) (SP z A M) z.xe D
def gi(z:Cx)(N:List a8)(S:TS):Prop:=
 ∀(A:List (Z×aL)) (D:ak) (G:St) (H:U) (M:Ends),Inv z A G H D->S M G H->aI (aM z.prog z.w) z.A (execs N z.env) (SP z A M) z.xe D
theorem aN{D:fC sK}{G M:sK->ak->Prop}(a:aI LE ss D G s5 B)(b:∀U B,G U B->M U B):aI LE ss D M s5 B:=g4 a b λ_ _ c=>c
inductive jy (i:Nat) (z:St) (H:U) (A:VK):Prop
 |mk(v:_)(_:z[i]?=Y (Y v))(_:A v H)
def tC(v:V):TE:=λ_ H z=>z v H
variable{pv:b2}
def HX(U:h.N[t]?=Y nw)(d:qn h.env.scope nw)(M:(nw==("__debug__":aa))=ao:=by decide)(e:(nw==("__classdict__":aa))=ao:=by decide):PE h (.Name nw pv) (jy t):=by
 intro f g A H i D N;let⟨v,j,N⟩:=N;let⟨p,k,l⟩:=D.loc;let⟨u,m,n⟩:=l t nw v U j d;have S:EP h f A i u g:=⟨v,H,D,m,N⟩
 rcases n with⟨z,o⟩|⟨z,c,a,b⟩
 .exact Gb (Rx D.ok.kind z k o S) M
 .rcases z with z|z
  .exact Gb (Ry D.ok.kind z a b S) M
  .exact Gb (wpAny_loadName_free D.ok.kind z a b S e) M
theorem cL{i a b}:PE h (.Constant (.int i) a b) (tC (.int i)):=λ_ _ _ H _ z A=>wpAny_Constant_int ⟨.int i,H,z.tok _,⟨_,S⟩,A⟩
theorem hx{a b c}:PE h (.Constant (.bool a) b c) (tC (.bl a)):=λ_ _ _ H _ z A=>Constant_bool ⟨.bl a,H,z,S,A⟩
theorem vr{a b}:PE h (.Constant .none a b) (tC .bw):=λ_ _ _ H _ z A=>Rz ⟨.bw,H,z,S,A⟩
theorem dP{x a b}:PE h (.Constant (.str x) a b) (tC (.str x)):=λ_ _ _ H _ z A=>Calls.Constant_str ⟨.str x,H,z.tok _,⟨_,S⟩,A⟩
def Gl(X:Cx)(z:aa):Prop:=X.env.kindOf z=Y .globalImplicit
variable{IR:J->ak->Prop}{py:St}
theorem og{H:U}{u:J}(A:Inv h pr py H B)(a:Gl h nw)(b:h.G nw=Y u)(c:s5 u B)(d:(nw==("__debug__":aa))=ao:=by decide):aI (aM h.prog h.w) h.A (eval (.Name nw pv) h.env) s5 IR B:=
 RA A.ok.kind a (Calls.loadGlobal_global (A.ok.glob▸A.mod.glob.keeps A.bk) b c) d
def r5{H:U}{u:J}(A:Inv h pr py H B)(a:Gl h nw)(b:h.G nw=O)(c:uo nw=Y u)(d:s5 u B)(e:nw≠"__name__":=by decide) (f:(nw==("__debug__":aa))=ao:=by decide):aI (aM h.prog h.w) h.A (eval (.Name nw pv) h.env) s5 IR B:=by let⟨i,g,z⟩:=A.mod.blt;exact RA A.ok.kind a (Calls.loadGlobal_builtin (A.ok.glob▸A.mod.glob.keeps A.bk) b (A.ok.blt▸g.keeps A.bk) ((z nw e).trans c) d) f
theorem ei{v:V}{u:J}(G:Gl h nw)(M:h.G nw=Y u)(N:RelV v u)(S:(nw==("__debug__":aa))=ao:=by decide):PE h (.Name nw pv) (tC v):=
 λ_ _ _ H _ A T=>og A G M ⟨v,H,A,N,T⟩ S
def PC(X:Cx)(M:nD)(a b:a7)(N:TE):Prop:=
 ∀(A:List (Z×aL)) (D:ak) (z:St) (H:U) (G:VK),Inv X A z H D->N z H G->
  aI (aM X.prog X.w) X.A (eval a X.env) (λv S=>aI (aM X.prog X.w) X.A (eval b X.env) (λu T=>aI (aM X.prog X.w) X.A (fD M v u) (EP X A z G) X.xe T) X.xe S) X.xe D
def z5(b:a7){z:nD}(A:z≠.In)(D:z≠.NotIn):nE z b=ao:=by
 have G:(z==RB)=ao:=by cases z<;>first|rfl|exact absurd rfl A
 have M:(z==RC)=ao:=by cases z<;>first|rfl|exact absurd rfl D
 cases b<;>simp [nE,G,M]
def HY(ta:TE):TE:=λz H A=>ta z H λD G=>A (.bl (!decide (D=.bw))) G
variable{v1:V}
def RelV.HZ{v:J}(z:RelV v1 v):(v==kQ)=decide (v1=.bw):=by
 cases v1 with
 |bw=>cases z;rfl
 |bl _=>cases z;rfl
 |int _=>let⟨D,rfl⟩:=z;rfl
 |str _=>let⟨D,rfl⟩:=z;rfl
 |fP _=>let⟨D,rfl⟩:=z;rfl
 |ql _=>let⟨D,rfl⟩:=z;rfl
 |ref _=>cases z;rfl
 |ty _=>cases z;rfl
variable{sw:TE}
def H3{c d}(z:PE h op sw):PC h .IsNot op (.Constant .none c d) (HY sw):=by intro A D G H g M N;refine aN (z A D G H _ M N) λv X ⟨i,T,U,e,f⟩=>?_;exact Rz (RD ⟨.bl _,T,U,by rw [e.HZ];rfl,f⟩)
inductive H4 (z:Bool->U->Prop) (x:V) (A:U):Prop
 |mk(c:_)(_:x=.bl c)(_:z c A)
def tB(z:TE):TT:=λA H D=>z A H λG M=>H4 D G M
variable{s2:a7}
theorem H5{z:nD}(D:PC h z s2 op sw)(G:nE z op=ao:=by first|exact z5 _ (by decide) (by decide)|rfl):PE h (.Compare s2 [z] [op] pv) sw:=λM N T H U c hw=>RE (D M N T H U c hw) G
def i0{z:nD}(G:PC h z s2 op sw)(A:nE z op=ao:=by first|exact z5 _ (by decide) (by decide)|rfl):PT h (.Compare s2 [z] [op] pv) (tB sw):=by intro M N T H j U hw;refine RF (aN (G M N T H _ U hw) λv k A=>aN A λu l d=>aN d λc m ⟨n,e,f,g,b⟩=>?_) A;let⟨o,rfl,i⟩:=b;cases g;exact pP ⟨e,f,i⟩
def kn(G:PE h op sw)(M:∀D,isTrue op h.env D=(do let v<-D;pQ op.pos;nF [v] (truthy v)):=by intro _;rfl):PT h op (tB sw):=by intro N T U H i c hw;refine RG (aN (G N T U H _ c hw) λv j ⟨k,d,e,f,g⟩=>?_) (M _);let⟨l,rfl,z⟩:=g;cases f;exact pP ⟨d,e,z⟩
def H6(G u:TT):TT:=λz H A=>G z H λc D=>if c=I then u z D A else A ao D
def H7(G u:TT):TT:=λz H A=>G z H λc D=>if c=I then A I D else u z D A
def H8(z:TT):TT:=λA H D=>z A H λc G=>D (!c) G
def vt(A:PT h op Is):PW h (.BoolOp .And [op] pv) Is:=by
 intro U D G M H N S T;refine isTrue_and (aN (A D G M H N S T) λc d z=>?_);cases c with
 |true=>exact isTrue_and_nil z
 |false=>exact z
def vu(A:PT h op Is):PW h (.BoolOp .Or [op] pv) Is:=by
 intro U D G M H N S T;refine isTrue_or (aN (A D G M H N S T) λc d z=>?_);cases c with
 |false=>exact isTrue_or_nil z
 |true=>exact z
variable{Wt:TT}{t0:List a7}
def vv(N:PT h op Is)(S:PW h (.BoolOp .And (s2::t0) pv) Wt):PW h (.BoolOp .And (op::s2::t0) pv) (H6 Is Wt):=by
 intro T z U A H d e f;refine isTrue_and (aN (N z U A H _ e f) λc g ⟨D,G,M⟩=>?_);cases c with
 |true=>exact S T z g A D d G M
 |false=>exists D,G,M
def vw(N:PT h op Is)(S:PW h (.BoolOp .Or (s2::t0) pv) Wt):PW h (.BoolOp .Or (op::s2::t0) pv) (H7 Is Wt):=by
 intro T z U A H d e f;refine isTrue_or (aN (N z U A H _ e f) λc g ⟨D,G,M⟩=>?_);cases c with
 |true=>exists D,G,M
 |false=>exact S T z g A D d G M
def r7(z:PT h op Is):PT h (.UnaryOp .Not op pv) (H8 Is):=by intro A D G H M N S;exact isTrue_not (z A D G H (λc T=>M (!c) T) N S)
inductive H9 (sw:TE) (D:St) (z:VK) (x:V) (A:U):Prop
 |mk(c:_)(_:x=.bl c)(_:if c=I then sw D A z else z (.bl ao) A)
def Ia(ta tb:TE):TE:=λz H A=>ta z H λD G=>H9 tb z A D G
theorem z6{c}(A:PE h op sw):PE h (.BoolOp c [op] pv) sw:=λD G M H N S hw=>BoolOp_one (A D G M H N S hw)
variable{zn:TE}
def r8(N:PE h op sw)(T:PE h (.BoolOp .And (s2::t0) pv) zn):PE h (.BoolOp .And (op::s2::t0) pv) (Ia sw zn):=by
 intro A U D H d e f;refine BoolOp_and (aN (N A U D H _ e f) λv g ⟨i,G,M,X,z⟩=>?_);let⟨c,rfl,z⟩:=z;cases X;refine pP ?_;cases c with
 |true=>exact T A g D G d M z
 |false=>exists .bl ao,G,M,S,z
def av(K:af)(H:U)(A:Z)(D:List V):Prop:=
 Rd H A (.lst D)\/
  ∃(o:aL) (z:Array J) (G:Nat),K.lookup A=Y o/\o.cls=.type "list"/\o.dict=O/\o.data=.seq z G/\z.size<=aU/\Vals D z.toList
def ax(K:af)(H:U)(A:Z)(D:List V):Prop:=
 Rd H A (.tup D)\/
  ∃(o:aL) (z:Array J) (G:Nat),K.lookup A=Y o/\o.cls=.type "tuple"/\o.data=.seq z G/\z.size<=aU/\Vals D z.toList
def Ib:J->Option V
 |.none=>Y .bw
 |.bool b=>Y (.bl b)
 |.int i _=>Y (.int i)
 |.str x _=>Y (.str x)
 |.bytes b _=>Y (.fP b)
 |.float b _=>Y (.ql b)
 |.ref a=>Y (.ref a)
 |.type n=>Y (.ty n)
 |_=>O
def RelV.abs{u:J}(z:RelV v1 u):Ib u=Y v1:=by
 cases v1 with
 |bw=>cases z;rfl
 |bl _=>cases z;rfl
 |int _=>let⟨D,rfl⟩:=z;rfl
 |str _=>let⟨D,rfl⟩:=z;rfl
 |fP _=>let⟨D,rfl⟩:=z;rfl
 |ql _=>let⟨D,rfl⟩:=z;rfl
 |ref _=>cases z;rfl
 |ty _=>cases z;rfl
theorem RelV.inj{y:V}{u:J}(A:RelV v1 u)(D:RelV y u):v1=y:=aS (A.abs.symm.trans D.abs)
theorem Vals.inj:∀{z A:List V} {D:List J},Vals z D->Vals A D->z=A
 |_,_,_,.nil,.nil=>rfl
 |_,_,_,.cons a b,.cons c d=>by rw [a.inj c,Vals.inj b d]
theorem av.of{K:af}(z:H d=Y (.lst ul)):av K H d ul:=.inl (.inl z)
theorem ax.of{K:af}(z:H d=Y (.tup ul)):ax K H d ul:=.inl (.inl z)
def Inv.list(N:Inv h pr py H B)(D:av h.K H d ul):∃z:List J,Vals ul z/\PlainL B.heap d z.toArray/\ul.length<=aU:=by
 rcases D with D|⟨o,z,G,b,c,hd,a,e,A⟩
 .obtain⟨T,z,G,A,M⟩:=D.ok N.bf;exists z,A,⟨_,G,M,S,S,S⟩,T
 .refine⟨z.toList,A,⟨o,G,N.fb d o b,c,hd,by simpa using a⟩,?_⟩;have M:=A.length
  simp only [rx]at M
  lia
def Inv.tuple(G:Inv h pr py H B)(D:ax h.K H d ul):∃z:List J,Vals ul z/\IsTup B.heap d z.toArray/\ul.length<=aU:=by
 rcases D with D|⟨o,z,n,b,c,a,e,A⟩
 .obtain⟨M,z,A,N⟩:=D.ok G.bf;exists z,A,N,M
 .refine⟨z.toList,A,⟨o,G.fb d o b,c,n,by simpa using a⟩,?_⟩;have S:=A.length
  simp only [rx]at S
  lia
variable{V7:List V}
def Inv.z7(z:Inv h pr py H B)(G:av h.K H d ul)(M:av h.K H d V7):ul=V7:=by
 let⟨N,S,⟨o,e,T,_,_,U⟩,_⟩:=z.list G;let⟨b,c,⟨f,g,A,_,_,D⟩,_⟩:=z.list M;rw [T]at A;cases A;rw [U]at D;injection D with X _;have:N=b:=by simpa using bD Gd X
 subst this;exact S.inj c
def Inv.Ic(z:Inv h pr py H B)(G:ax h.K H d ul)(M:ax h.K H d V7):ul=V7:=by
 let⟨N,S,⟨o,T,_,e,U⟩,_⟩:=z.tuple G;let⟨b,c,⟨f,A,_,g,D⟩,_⟩:=z.tuple M;rw [T]at A;cases A;rw [U]at D;injection D with X _;have:N=b:=by simpa using bD Gd X
 subst this;exact S.inj c
abbrev Cx.jz(z:Cx)(A:J->ak->Prop):Cx:={z with xe:=A}
abbrev Cx.qp(z:Cx):Cx:=z.jz λ_ _=>False
theorem Cx.Ok.jz(z:h.Ok)(D:J->ak->Prop):(h.jz D).Ok:=
 ⟨z.mod,z.kind,z.glob,z.blt,z.above,z.inj,z.has,z.mn,z.hd,z.frames,z.ob,z.oe,z.bs,z.ip,z.mq,z.mr,z.funs,z.km⟩
theorem Cx.Ok.lg(z:(h.jz s5).Ok):h.Ok:=
 ⟨z.mod,z.kind,z.glob,z.blt,z.above,z.inj,z.has,z.mn,z.hd,z.frames,z.ob,z.oe,z.bs,z.ip,z.mq,z.mr,z.funs,z.km⟩
theorem Inv.jz(z:Inv h pr py H B)(E:J->ak->Prop):Inv (h.jz E) pr py H B:=⟨z.ok.jz E,z.os,z.bare,z.base,z.loc,z.cell,z.free,z.gG,z.pin,z.bf,z.len⟩
theorem Inv.lg(z:Inv (h.jz s5) pr py H B):Inv h pr py H B:=⟨z.ok.lg,z.os,z.bare,z.base,z.loc,z.cell,z.free,z.gG,z.pin,z.bf,z.len⟩
variable{Gc:Ends}
def SP.lg{N:Flow}(M:SP (h.jz s5) pr Gc N B):SP h pr Gc N B:=by
 cases N with
 |next=>let⟨z,A,D,G⟩:=M;exists z,A,D.lg,G
 |brk=>let⟨z,A,D,G⟩:=M;exists z,A,D.lg,G
 |cont=>let⟨z,A,D,G⟩:=M;exists z,A,D.lg,G
 |ret u=>let⟨v,z,A,D,U,G⟩:=M;exists v,z,A,D.lg,U,G
variable{Os:List a8}{Ix:TS}
theorem gi.qp(D:gi h.qp Os Ix):gi h Os Ix:=λpr B py H G M hw=>
 g4 (D pr B py H G (M.jz _) hw) (λ_ _ N=>N.lg) λ_ _ S=>g5 S
def Ie:TS:=λz A H=>z.nx A H
def Ig(t u:TS):TS:=λz A H=>t (z.aN (u z)) A H
theorem bQ:gi h [] Ie:=λ_ _ z H _ A D=>uu ⟨z,H,A,D⟩
variable{wS:a8}{u:TS}
def ar(G:PS h wS Ix)(M:gi h Os u):gi h (wS::Os) (Ig Ix u):=by
 intro D N S H A T U;refine RH (aN (G D N S H (A.aN (u A)) T U) λa b z=>?_);cases a with
 |next=>
  let⟨c,d,f,z⟩:=z;exact M D b c d A f z
 |ret v=>exact z
 |brk=>exact z
 |cont=>exact z
def ay(A:PS h wS Ix):gi h [wS] Ix:=by
 intro D G M H N S T;refine RH (aN (A D G M H N S T) λU a z=>?_);cases U with
 |next=>exact uu z
 |ret v=>exact z
 |brk=>exact z
 |cont=>exact z
def Ih:TS:=λz A H=>z.ct A H
theorem Ii:PS h (.Continue pv) Ih:=λ_ _ z H _ A D=>wpAny_Continue ⟨z,H,A,D⟩
def Inv.quiet{H:U}(G:Inv h pr py H B):interactive h.env=ao:=by simp [interactive,G.ok.kind]
def Ij(te:TE):TS:=λA z H=>te z H λ_ D=>A.nx z D
def cM(D:PE h op sw)(G:l1 op O pv.line h.env=dA ao:=by rfl):PS h (.Expr op pv) (Ij sw):=by intro M N z H c A T;exact wpAny_Expr_any (aN (D M N z H _ A T) λv d ⟨f,U,a,g,b⟩=>⟨z,U,a,b⟩) A.quiet G
def Ik(te:TE):TS:=λz A H=>te A H z.rt
def aQ(A:PE h op sw):PS h (.Return (Y op) pv) (Ik sw):=by intro D G z H c M N;exact wpAny_Return_some (aN (A D G z H _ M N) λv d ⟨S,T,U,a,b⟩=>⟨S,z,T,U,a,b⟩)
def Il:TS:=λz _ H=>z.rt .bw H
theorem Im:PS h (.Return O pv) Il:=λ_ _ z H _ A D=>wpAny_Return_none ⟨.bw,z,H,A,S,D⟩
def Io(c:TT)(t u:TS):TS:=λA z H=>c z H λG D=>if G=I then t A z D else u A z D
variable{WI:List a8}
def bK{c:a7}(b:PT h c Is)(d:gi h Os Ix)(f:gi h WI u):PS h (.If c Os WI pv) (Io Is Ix u):=by
 intro z g A H N X i;refine wpAny_If (aN (b z g A H _ X i) λj S ⟨T,U,a⟩=>?_);cases j with
 |true=>exact d z S A T N U a
 |false=>exact f z S A T N U a
abbrev TG:=V->St->U->(St->U->Prop)->Prop
abbrev mu:=List V->St->U->(St->U->Prop)->Prop
def PG(z:Cx)(T:a7)(a:TG):Prop:=
 ∀(A:List (Z×aL)) (D:ak) (G:St) (H:U) (v:V) (u:J) (M:St->U->Prop),Inv z A G H D->RelV v u->a v G H M->
  aI (aM z.prog z.w) z.A (assign T z.env u) (λ_ b=>∃N S,Inv z A N S b/\M N S) z.xe D
def qq(z:Cx)(b:List a7)(c:mu):Prop:=
 ∀(A:List (Z×aL)) (D:ak) (G:St) (H:U) (M:List V) (N:List J) (S:St->U->Prop),Inv z A G H D->Vals M N->c M G H S->
  aI (aM z.prog z.w) z.A (assignInOrder ((pR b z.env).map (·.2)) N) (λ_ d=>∃T a,Inv z A T a d/\S T a) z.xe D
abbrev vx:=V->V->U->VK->Prop
def Ip(z:Cx)(S:uv)(T:vx):Prop:=
 ∀(A:List (Z×aL)) (D:ak) (G:St) (H:U) (M y:V) (v u:J) (N:VK),Inv z A G H D->RelV M v->RelV y u->T M y H N->
  aI (aM z.prog z.w) z.A (uw S v u) (EP z A G N) z.xe D
def mv(z:Nat):TG:=λv A H D=>D (A.set z (Y v)) H
def Iq(D:h.N.Nodup)(G:h.N[t]?=Y nw)(M:Loc h.env.scope nw)(N:h.fn nw=I\/h.env.scope.names.lookup nw=Y .local:=by first|exact .inl rfl|exact .inr rfl|assumption):PG h (.Name nw pv) (mv t):=by intro c d e H v u f T U a;exact RI (vq T D G M U (λg b=>⟨_,H,b,a⟩) N)
def Ir:mu:=λz A H D=>z=[]/\D A H
inductive Iu (z:TG) (u:mu) (A:List V) (D:St) (H:U) (G:St->U->Prop):Prop
 |mk(v r:_)(_:A=v::r)(_:z v D H λM N=>u r M N G)
def lh:qq h [] Ir:=by intro N S A H T U a D G z;let⟨M,z⟩:=z;subst M;cases G;exact assignInOrder_nil ⟨A,H,D,z⟩
variable{FM:TG}
def gT{u:mu}(T:PG h op FM)(U:qq h t0 u)(a:(pR (op::t0) h.env).map (·.2)=assign op h.env::(pR t0 h.env).map (·.2):=by rfl):qq h (op::t0) (Iu FM u):=by
 intro N b c H m n d e D G;let⟨v,o,f,G⟩:=G;subst f;cases D with
 |cons D g=>
  rw [a];refine assignInOrder_cons (aN (T N b c H _ _ _ e D G) λ_ X ⟨i,j,k,l⟩=>?_);exact U N X i j _ _ d k g l
inductive z8 (K:af) (n:Nat) (z:mu) (v:V) (A:St) (H:U) (D:St->U->Prop):Prop
 |mk(a xs:_)(_:v=.ref a)(_:ax K H a xs)(_:xs.length=n)(_:z xs A H D)
def lj{D:mu}(U:h.calm=I)(a:qq h t0 D)(b:(pR t0 h.env).length=t:=by rfl) (c:(pR t0 h.env).findIdx? (·.1)=O:=by rfl):PG h (.Tuple t0 wP pv) (z8 h.K t D):=by
 intro d e f H v u g A X hw;let⟨r,i,j,k,l,hw⟩:=hw;subst j;cases X;let⟨s,M,m,z⟩:=A.tuple k;refine assign_Tuple_tuple (A.ok.hd U) m (by simp [b,<-l,M.length]) c λw n=>?_;have p:=A.kept (t':=e.toks) λq o N=>n q o (fB (dN N)) N
 exact a d _ f H i _ g p (by simpa using M) hw
def vy(A:TE)(D:TG):TS:=λG z H=>A z H λM N=>D M z N G.nx
variable{wn:b2}
def Iv(N:h.N.Nodup)(T:h.N[t]?=Y nw)(U:Loc h.env.scope nw)(a:PE h op sw)(b:l1 op (Y (.Name nw pv)) wn.line h.env=dA ao:=by rfl)(c:h.fn nw=I\/h.env.scope.names.lookup nw=Y .local:=by first|exact .inl rfl|exact .inr rfl|assumption):PS h (.Assign [.Name nw pv] op wn) (vy sw (mv t)):=by intro d e f H n g X;refine wpAny_Assign_Name (aN (a d e f H _ g X) λv o ⟨y,i,j,k,l⟩=>?_) b;exact vq j N T U k (λp m=>⟨_,i,m,l⟩) c
inductive Iw (i:Nat) (A:TE) (D:vx) (G:Ends) (z:St) (H:U):Prop
 |mk(x:_)(_:z[i]?=Y (Y x))(_:A z H λy M=>D x y M λN S=>G.nx (z.set i (Y N)) S)
def z9{i:Nat}{N:uv}{f:vx}(m:h.N.Nodup)(g:h.N[i]?=Y nw)(T:Loc h.env.scope nw)(n:PE h op sw)(o:Ip h N f)(p:h.fn nw=I\/h.env.scope.names.lookup nw=Y .local:=by first|exact .inl rfl|exact .inr rfl|assumption):PS h (.AugAssign (.Name nw pv) N op wn) (Iw i sw f):=by
 intro U X j H q G a;let⟨v,r,a⟩:=a;let⟨an,s,t⟩:=G.loc;have w:qn h.env.scope nw:=by rcases T with D|D;exact .inl D;exact .inr (.inl D)
 let⟨u,b,x⟩:=t i nw v g r w;refine wpAny_AugAssign_Name ?_;have k:aI (aM h.prog h.w) h.A (eval op h.env) (λd B=>aI (aM h.prog h.w) h.A (uw N u d) (λb C=>aI (aM h.prog h.w) h.A (Ga h.env nw b) (λ_=>SP h U q .next) h.xe C) h.xe B) h.xe X:=by refine aN (n U X j H _ G a) λd E ⟨y,F,K,L,P⟩=>?_;refine aN (o U E j F v y u d _ K b L P) λap as ⟨a0,Q,R,V,W⟩=>?_;exact vq R m g T V (λa1 ab=>⟨_,Q,ab,W⟩) p
 rcases x with⟨A,ad⟩|⟨A,c,al,am⟩
 .exact Rx G.ok.kind A s ad k
 .rcases A with A|A
  .exact Ry G.ok.kind A al am k
  .rcases T with D|D
   .have:h.env.scope.names.lookup nw=Y .free:=A;rw [D]at this;cases this
   .have:h.env.scope.names.lookup nw=Y .free:=A;rw [D]at this;cases this
def Iy(c:TT)(b:TS):TS:=λG z H=>∃D:Nat->St->U->Prop,(∃A,D A z H)/\∀A z H,D A z H->
 c z H λd M=>if d=I then∃N:St->U->Prop,(∀S T,N S T->∃a,a<A/\D a S T)/\b (G.lp N) z M else G.nx z M
def oh{c:a7}(j:PassesOwn (aM h.prog h.w) h.A h.env h.xe)(q:PT h c Is)(r:gi h Os Ix):PS h (.While c Os [] pv) (Iy Is Ix):=by
 intro T R s H V t u;let⟨w,⟨x,y⟩,B⟩:=u;refine wpAny_While (codeAny_whileLoop (λU C=>∃k l,Inv h T k l C/\w U k l) ?_ x ⟨s,H,t,y⟩);rintro U E ⟨D,m,F,K⟩;refine pS j (aN (q T E D m _ F (B U D m K)) λL P ⟨n,o,G⟩=>?_);cases L with
 |true=>
  let⟨W,p,G⟩:=G;rw [ai S];refine pS j (aN (r T P D n _ o G) λQ ab M=>?_);cases Q with
  |next=>
   let⟨z,A,a,b⟩:=M;let⟨d,e,f⟩:=p z A b;exists d,e,z,A,a,f
  |cont=>
   let⟨z,A,a,b⟩:=M;let⟨d,e,f⟩:=p z A b;exists d,e,z,A,a,f
  |brk=>exact M
  |ret v=>exact M
 |false=>
  rw [N d5];exact uu ⟨D,n,o,G⟩
structure It where
 go:Nat->U->Prop
 hc:Nat->U->V->U->Prop
 stop:Nat->U->Prop
def i1(A:Cx)(D:List (Z×aL))(H:U)(z:Z):Prop:=
 H z=O/\z≠A.env.locals/\z∉A.fs/\(z∈A.ex\/A.d9.heap.objs.size<=z)/\(∀G c,A.env.cells.lookup G=Y c->c≠z)/\∀M∈A.pn++D,M.1≠z
def Inv.oi{H:U}(z:Inv h pr py H B)(A:B.heap.objs.size<=d)(b:r d=O):i1 h pr r d:=by
 exists b,RJ (gM z.lt A),z.HW A,.inr (cu z.sz A),λD c e G=>?_,λf g G=>?_
 .obtain⟨v,M⟩:=z.cell D c e;exact absurd (gM M.lt (G▸A)) (jY _)
 .exact absurd (gM (dN (z.pin f g).1) (G▸A)) (jY _)
structure Turn(N:aw)(w:au)(K:af)(l:a7)(d:It)(S:List Z)(T:Z)(tn:Nat->aD->Prop):Prop where
 mem:T∈S
 obj:∀i b,tn i b->∀G∈S,∃o,b.get? G=Y o/\∀v,o.data≠.cell v
 keep:∀i b h,tn i b->(∀G∈S,∀o,b.get? G=Y o->h.get? G=Y o)->tn i h
 item:∀(z:Cx),z.prog=N->z.w=w->z.K=K->z.calm=I->∀(i:Nat) (M:List (Z×aL)) (D:ak) (c:St) (H:U) (a:J->ak->Prop),Inv z M c H D->(∀G∈S,i1 z M H G)->tn i D.heap->d.go i H->
  aI (aM N w) z.A (pT (.ref T)) (λe f=>∃u,e=Y u/\
   aI (aM N w) z.A (y2 l (.ref T) u) (λ_ j=>∃x g,Inv z M c g j/\RelV x u/\d.hc i H x g/\tn (i+1) j.heap/\∀G∈S,g G=O) a f) a D
 done:∀(z:Cx),z.prog=N->z.w=w->z.K=K->z.calm=I->∀(i:Nat) (M:List (Z×aL)) (D:ak) (c:St) (H:U) (a:J->ak->Prop),Inv z M c H D->(∀G∈S,i1 z M H G)->tn i D.heap->d.stop i H->
  aI (aM N w) z.A (pT (.ref T)) (λe f=>e=O/\Inv z M c H f) a D
 self:∀(A:bZ) (i:Nat) (D:ak) (k:J->ak->Prop) (a:J->ak->Prop),tn i D.heap->k (.ref T) D->aI (aM N w) A (y3 (.ref T)) k a D
abbrev TI:=St->U->(It->U->Prop)->Prop
def vz(z:Cx)(D:List (Z×aL))(a:St)(b:a7)(c:It->U->Prop)(d:J)(G:ak):Prop:=
 ∃(M:Z) (N:List Z) (S:Nat->aD->Prop) (T:It) (A:U),d=.ref M/\Inv z D a A G/\Turn z.prog z.w z.K b T N M S/\S 0 G.heap/\(∀e∈N,i1 z D A e)/\c T A
def PI(z:Cx)(N S:a7)(T:TI):Prop:=
 ∀(D:List (Z×aL)) (G:ak) (A:St) (H:U) (M:It->U->Prop),Inv z D A H G->T A H M->
  aI (aM z.prog z.w) z.A (eval S z.env) (λv a=>aI (aM z.prog z.w) z.A (y3 v) (vz z D A N M) z.xe a) z.xe G
def qr{s:ak}{u:J}{o:aL}{n:String}{U:Array J}(b:s.heap.get? d=Y o)(c:o.cls=.type n)(z:o.data=.fields U)(e:["enumerate","zip","dict_itemiterator","dict_reverseitemiterator","odict_iterator","itertools.zip_longest","itertools.pairwise"].contains n=ao) (A:KF () s):aI LE ss (y2 op (.ref d) u) KF s5 s:=by
 unfold y2;cases op<;>first
  |exact bu A
  |(cases u<;>first
    |exact bu A
    |(refine aH (wpAny_load b ?_)
      rw [c,z];show aI LE ss (if(["enumerate","zip","dict_itemiterator","dict_reverseitemiterator","odict_iterator","itertools.zip_longest","itertools.pairwise"].contains n&&U[0]?==Y (ry _))=I then _ else _) KF s5 s
      rw [N (by intro a;rw [e,ux]at a;cases a)];exact bu A))
def hy(K:af)(D:Z):It:=
 ⟨λA H=>∃z G,av K H D z/\z[A]?=Y G,λA H G M=>M=H/\∀z,av K H D z->z[A]?=Y G,λA H=>∃z,av K H D z/\z.length<=A⟩
def qt(K:af)(D:Z):It:=
 ⟨λA H=>∃z G,ax K H D z/\z[A]?=Y G,λA H G M=>M=H/\∀z,ax K H D z->z[A]?=Y G,λA H=>∃z,ax K H D z/\z.length<=A⟩
def ko(D:Int)(A:Nat):It:=⟨λz _=>z<A,λz H G M=>M=H/\G=.int (D+z),λz _=>A<=z⟩
def Iz{K:af}(t D:Z):Turn m p K op (hy K t) [D] D (λT U=>U.IsListIter D t T)where
 mem:=by simp
 obj:=λT U A G M=>by
  have z:G=D:=by simpa using M
  subst z;let⟨o,z,c,e⟩:=A;exact⟨o,z,λv w=>by rw [e]at w;cases w⟩
 keep:=λT U f A F=>A.at λo z=>F D (by simp) o z
 item:=by
  intro L g hw h x T P a Q H R N b A i;subst g hw h;let⟨V,X,d,j⟩:=i;let⟨ab,k,l,ad⟩:=N.list d;let⟨u,al,am⟩:=k.get j;let⟨B,n,an,C,q,r⟩:=b D (by simp);refine wpAny_pyNext_list_item A l.isList (x:=u) (by simpa using al) λf y ap=>?_;have as:=N.turned (t':=a.toks) (λG o M z=>(ap.2 G M).trans z) B n C q r
  let⟨o,z,c,e⟩:=id y;exists u,S,qr (s:={a with heap:=f}) z c e (by decide) ⟨X,H,as,am,⟨S,λa2 a0=>N.z7 a0 d▸j⟩,y,λG M=>(b G M).1⟩
 done:=by
  intro L g hw h x T P a Q H R N b A i;subst g hw h;let⟨V,d,j⟩:=i;let⟨ab,k,l,ad⟩:=N.list d;let⟨B,n,an,C,q,r⟩:=b D (by simp);have a3:=k.length
  exact wpAny_pyNext_list_end (N.ok.hd x) A l.isList (by simp;lia) λf a1=>⟨S,N.turned (t':=a.toks) (λG o M z=>a1 G o M z) B n C q r⟩
 self:=λ_ _ _ _ _ A U=>wpAny_pyIter_listiter A U
def IA{K:af}(b D:Z):Turn m p K op (qt K b) [D] D (λU a=>a.IsTupleIter D b U)where
 mem:=by simp
 obj:=λU a A G M=>by
  have z:G=D:=by simpa using M
  subst z;let⟨o,z,c,f⟩:=A;exact⟨o,z,λv x=>by rw [f]at x;cases x⟩
 keep:=λU a g A L=>A.at λo z=>L D (by simp) o z
 item:=by
  intro P h hw i y U Q T R H V N d A j;subst h hw i;let⟨X,ab,e,k⟩:=j;let⟨l,C,n,ad⟩:=N.tuple e;let⟨u,al,am⟩:=C.get k;let⟨E,q,an,r,t,w⟩:=d D (by simp);refine wpAny_pyNext_tuple_item A (show T.heap.IsTuple b l.toArray from n) (x:=u) (by simpa using al) λg B ap=>?_;have as:=N.turned (t':=T.toks) (λG o M z=>(ap.2 G M).trans z) E q r t w
  let⟨o,z,c,f⟩:=id B;exists u,S,qr (s:={T with heap:=g}) z c f (by decide) ⟨ab,H,as,am,⟨S,λa2 a0=>N.Ic a0 e▸k⟩,B,λG M=>(d G M).1⟩
 done:=by
  intro P h hw i y U Q T R H V N d A j;subst h hw i;let⟨X,e,k⟩:=j;let⟨l,C,n,ad⟩:=N.tuple e;let⟨E,q,an,r,t,w⟩:=d D (by simp);have a3:=C.length
  exact wpAny_pyNext_tuple_end (N.ok.hd y) A (show T.heap.IsTuple b l.toArray from n) (by simp;lia) λg a1=>⟨S,N.turned (t':=T.toks) (λG o M z=>a1 G o M z) E q r t w⟩
 self:=λ_ _ _ _ _ A a=>wpAny_pyIter_tupleiter A a
def IB{y:au}{K:af}(D:Z)(b:Int)(c:Nat):Turn m y K op (ko b c) [D] D (λz N=>IsRangeIter N D (b+(z:Nat)*1) ((c:Int)-(z:Nat)) 1)where
 mem:=by simp
 obj:=λz N A G M=>by
  have T:G=D:=by simpa using M
  subst T;exact⟨_,A,λv C=>by have E:=C;cases E⟩
 keep:=λz N d A F=>F D (by simp) _ A
 item:=by
  intro e g hw h i z r U t H L a f A j;subst g hw h;let⟨k,l,P,x,p,q⟩:=f D (by simp);refine(Walks.range (prog:=e.prog) (w:=e.w) (a.ok.hd i) D b 1 c).item z U _ _ j A λv d u Q w R=>?_;let⟨V,rfl⟩:=Q;have X:Inv e r t H {U with heap:=d,toks:=u}:=a.turned (λG o M T=>R G o (by simpa using M) T) k l x p q
  exists _,S,qr (s:={U with heap:=d,toks:=u}) (n:="range_iterator") w S rfl (by decide) ⟨.int (b+z),H,X,⟨V,?_⟩,⟨S,S⟩,w,λG M=>(f G M).1⟩;rw [Int.mul_one]
 done:=by intro e g hw h i z r U t H L a f A j;subst g hw h;let⟨k,l,P,x,p,q⟩:=f D (by simp);exact wpAny_pyNext_range_end (a.ok.hd i) A (by have:c<=z:=j;lia) λd ab=>⟨S,a.turned (t':=U.toks) (λG o M T=>ab G o M T) k l x p q⟩
 self:=λ_ _ _ _ _ A N=>wpAny_pyIter_rangeiter A N
inductive IC (K:af) (A:It->U->Prop) (x:V) (z:U):Prop
 |mk(a:_)(_:x=.ref a)(_:(∃D,av K z a D))(_:A (hy K a) z)
def ID(K:af)(z:TE):TI:=λA H D=>z A H λG M=>IC K D G M
def IE(K:af)(D:TE):TI:=λG H M=>D G H λN A=>∃z,N=.ref z/\(∃S,ax K A z S)/\M (qt K z) A
def dC(T:PE h op sw):PI h s2 op (ID h.K sw):=by
 intro U a b H m c d;refine aN (T U a b H _ c d) λv A ⟨n,e,D,f,g⟩=>?_;let⟨X,z,⟨p,i⟩,j⟩:=g;subst z;cases f;let⟨q,r,k,s⟩:=D.list i;refine wpAny_pyIter_list k.isList ?_;exists A.heap.objs.size,[A.heap.objs.size],_,_,e,S,D.kept (t':=A.toks) λN o z=>e8 _ z,Iz X _,⟨_,gB _ S,S,S⟩,λN l=>?_,j;have z:N=A.heap.objs.size:=by simpa using l
 subst z;exact D.oi (aR _) (D.bf.fresh (aR _))
def IF(U:PE h op sw):PI h s2 op (IE h.K sw):=by
 intro a b c H n d e;refine aN (U a b c H _ d e) λv z ⟨p,f,D,g,X⟩=>?_;let⟨N,A,⟨q,i⟩,j⟩:=X;subst A;cases g;let⟨k,r,l,s⟩:=D.tuple i;refine wpAny_pyIter_tuple (show z.heap.IsTuple N k.toArray from l) ?_;exists z.heap.objs.size,[z.heap.objs.size],_,_,f,S,D.kept (t':=z.toks) λT o A=>e8 _ A,IA N _,⟨_,gB _ S,S,S⟩,λT m=>?_,j;have A:T=z.heap.objs.size:=by simpa using m
 subst A;exact D.oi (aR _) (D.bf.fresh (aR _))
variable{v0:Int}{wT:dD}{Wg:It->U->Prop}
def IG{H:U}{A:Int}{u v:dD}(f:Inv h pr py H B)(g: -(2^62)<=v0)(z:v0<2^62)(i: -(2^62)<=A)(j:A<2^62)(k:Wg (ko v0 (A-v0).toNat) H):aI (aM h.prog h.w) h.A (y3 (.ref B.heap.objs.size)) (vz h pr py op Wg) s5 {B with heap:=B.heap.push {cls:=.type "range",data:=.fields #[.int v0 wT,.int A u,.int 1 v]},toks:=t}:=by
 refine wpAny_pyIter_range (IsRange.new ..) (small_one g z i j) ?_;have b:Inv h pr py H {B with heap:=B.heap.push {cls:=.type "range",data:=.fields #[.int v0 wT,.int A u,.int 1 v]},toks:=t}:=f.kept λc o M=>e8 _ M
 exists (B.heap.push {cls:=.type "range",data:=.fields #[.int v0 wT,.int A u,.int 1 v]}).objs.size,[(B.heap.push {cls:=.type "range",data:=.fields #[.int v0 wT,.int A u,.int 1 v]}).objs.size],_,_,H,S,b.kept (t':=t) λc o M=>e8 _ M,IB _ v0 (A-v0).toNat,?_,λc l=>?_,k
 .have m:v0+((0:Nat):Int)*1=v0:=by simp
  have n:(((A-v0).toNat:Nat):Int)-((0:Nat):Int)=Ul v0 A 1:=by rw [rangeSize_one];split<;>lia
  rw [m,n];exact gB _ S
 .have M:c=(B.heap.push {cls:=.type "range",data:=.fields #[.int v0 wT,.int A u,.int 1 v]}).objs.size:=by simpa using l
  subst M;exact b.oi (aR _) (b.bf.fresh (aR _))
inductive IH (z:It->U->Prop) (A:List V) (D:U):Prop
 |mk(j:Int)(_:A=[.int j])(_: -(2^62)<=j)(_:j<2^62)(_:z (ko 0 j.toNat) D)
def II(z:TA):TI:=λA H D=>z A H λG M=>IH D G M
variable{IO:TA}
def Aa(T:Gl h "range")(U:h.G "range"=O)(a:PA h [op] IO)(b:cA [op] h.env=[(ao,eval op h.env)]:=by rfl):PI h s2 (.Call (.Name "range" wn) [op] [] pv) (II IO):=by
 intro c d e H n M f;refine Call_ (r5 M T U boot_range (Ge (aN (a pv c d e H _ M f) λo p ⟨q,r,g,X,A⟩=>?_) b S));let⟨s,i,A,j,k⟩:=A;subst i;cases X with
 |cons l m=>
  cases m;let⟨t,rfl⟩:=l;exact call_range_1 (IG g (by lia) (by lia) A j (by simpa using k))
def IJ(d:TI)(e:TG)(f:TS):TS:=λS z H=>d z H λM g=>∃N:Nat->Nat->St->U->Prop,(∃G,N 0 G z g)/\∀A G z H,N A G z H->
 (M.stop A H/\S.nx z H)\/(M.go A H/\∃T:St->U->Prop,(∀a D,T a D->∃b,b<G/\N (A+1) b a D)/\∀c D,M.hc A H c D->e c z D λh i=>f (S.lp T) h i)
def qu(A:List Z)(D:aD):List (Z×aL):=A.filterMap λz=>(D.get? z).map λo=>(z,o)
theorem vA{o:aL}(G:d∈wf)(M:P.get? d=Y o):(d,o)∈qu wf P:=j0.mpr ⟨d,G,by rw [M];rfl⟩
def IK{z:Z×aL}(M:z∈qu wf P):z.1∈wf/\P.get? z.1=Y z.2:=by
 let⟨N,S,A⟩:=j0.mp M;cases a:P.get? N with
 |none=>rw [a]at A;cases A
 |some o=>
  rw [a]at A;have T:=aS A
  subst T;exists S,a
theorem Inv.pinned{H:U}(T:Inv h pr py H B)(d:∀G∈wf,i1 h pr H G)(e:∀G∈wf,∃o,B.heap.get? G=Y o/\∀v,o.data≠.cell v):Inv h (pr++qu wf B.heap) py H B:=
 T.z3 λM f=>(bR.mp f).elim (λN=>T.pin M (eH _ N)) λN=>by let⟨a,b⟩:=IK N;let⟨g,z,i,_⟩:=d M.1 a;let⟨o,c,j⟩:=e M.1 a;rw [b]at c;cases c;exists b,g,z,i,j
theorem Inv.r9{pins:List (Z×aL)}{H:U}(D:Inv h (pins++pr) py H B):Inv h pins py H B:=D.z3 λM N=>D.pin M (eH _ (gN _ N))
def d3{w:TI}{y:TS}(d:PassesOwn (aM h.prog h.w) h.A h.env h.xe)(B:h.calm=I)(an:PI h s2 op w)(ap:PG h s2 FM)(A:gi h Os y)(as:∀e,y4 op h.env e=dA e:=by intro _;rfl):PS h (.For s2 op Os [] pv) (IJ w FM y):=by
 intro c a0 C H c7 a1 a2;refine wpAny_For (aN (an c a0 C H _ a1 a2) λv c8 a3=>aN a3 λc9 db a4=>?_) as;let⟨dd,f,E,dl,a5,g,bd,X,be,F,K,⟨bi,bk⟩,bl⟩:=a4;subst g;have p:∀{T:U},(∀z∈f,T z=O)->∀z∈f,i1 h c T z:=λbm z A=>⟨bm z A,(F z A).2⟩
 refine codeAny_forLoop_any (λl L=>∃a i T,Inv h c i T L/\E a L.heap/\(∀z∈f,T z=O)/\K a l i T) ?_ bi ⟨0,C,a5,bd,be,λz A=>(F z A).1,bk⟩;rintro l P ⟨a,j,m,Q,R,V,bn⟩;rcases bl a l j m bn with⟨stop,bs⟩|⟨go,N,bt,step⟩
 .refine pS d (aN (X.done h S rfl rfl B a c P j m h.xe Q (p V) R stop) λbv ca ⟨q,cd⟩=>?_);subst q;exact uu ⟨j,m,cd,bs⟩
 .refine pS d (aN (X.item h S rfl rfl B a c P j m h.xe Q (p V) R go) λbv ca ⟨u,q,ce⟩=>?_);subst q;refine pS d (aN ce λ_ W ⟨e,ab,ch,ci,cl,r,cn⟩=>?_);refine pS d (aN (ap _ W j ab e u _ (ch.pinned (p cn) (X.obj _ _ r)) ci (step e ab cl)) λ_ co ⟨cr,cs,ct,c0⟩=>?_);refine pS d (aN (A _ co cr cs _ ct c0) λc1 s b=>?_);have ad:∀{D:St} {G:U},Inv h (c++qu f W.heap) D G s->N D G->∃al,al<l/\∃a i T,Inv h c i T s/\E a s.heap/\(∀z∈f,T z=O)/\K a al i T:=λ{D G} M k=>by
   let⟨c2,c3,c4⟩:=bt D G k;exists c2,c3,a+1,D,G,M.r9,X.keep _ _ _ r λz A o g=>(M.pin (z,o) (eH _ (eH _ (vA A g)))).1,λz A=>?_,c4;let⟨o,g,dp⟩:=X.obj _ _ r z A;exact(M.pin (z,o) (eH _ (eH _ (vA A g)))).2.1
  cases c1 with
  |next=>let⟨D,G,M,k⟩:=b;exact ad M k
  |cont=>let⟨D,G,M,k⟩:=b;exact ad M k
  |brk=>let⟨D,G,M,b⟩:=b;exists D,G,M.r9,b
  |ret v=>let⟨c5,D,G,M,c6,b⟩:=b;exists c5,D,G,M.r9,c6,b
def fw{K:af}{xs:List V}{H:U}(D:Nat->St->U->Prop)(n:D 0 py H)(o:∀z py H,z<=xs.length->D z py H->av K H d xs)(p:∀z G py H,xs[z]?=Y G->D z py H->FM G py H λb c=>Ix (Gc.lp (D (z+1))) b c) (q:∀py H,D xs.length py H->Gc.nx py H):∃A:Nat->Nat->St->U->Prop,(∃M,A 0 M py H)/\∀z M py H,A z M py H->((hy K d).stop z H/\Gc.nx py H)\/((hy K d).go z H/\∃k:St->U->Prop,(∀e N,k e N->∃l,l<M/\A (z+1) l e N)/\∀G N,(hy K d).hc z H G N->FM G py N λb c=>Ix (Gc.lp k) b c):=by
 exists λz M py H=>M=xs.length-z/\z<=xs.length/\D z py H,⟨xs.length,by simp,cP _,n⟩,?_;rintro z M py H ⟨rfl,r,f⟩;have g:=o z py H r f
 by_cases m:z<xs.length
 .refine .inr ⟨⟨xs,xs[z],g,by simp [m]⟩,D (z+1),λe N s=>⟨xs.length-(z+1),by lia,S,m,s⟩,λG N y=>?_⟩;let⟨h,y⟩:=y;subst h;exact p z G py _ (y xs g) f
 .have h:z=xs.length:=by lia
  subst h;exact .inl ⟨⟨xs,g,aR _⟩,q py H f⟩
def IL{K:af}{xs:List V}{H:U}(D:Nat->St->U->Prop)(n:D 0 py H)(o:∀z py H,z<=xs.length->D z py H->ax K H d xs)(p:∀z G py H,xs[z]?=Y G->D z py H->FM G py H λb c=>Ix (Gc.lp (D (z+1))) b c) (q:∀py H,D xs.length py H->Gc.nx py H):∃A:Nat->Nat->St->U->Prop,(∃M,A 0 M py H)/\∀z M py H,A z M py H->((qt K d).stop z H/\Gc.nx py H)\/((qt K d).go z H/\∃k:St->U->Prop,(∀e N,k e N->∃l,l<M/\A (z+1) l e N)/\∀G N,(qt K d).hc z H G N->FM G py N λb c=>Ix (Gc.lp k) b c):=by
 exists λz M py H=>M=xs.length-z/\z<=xs.length/\D z py H,⟨xs.length,by simp,cP _,n⟩,?_;rintro z M py H ⟨rfl,r,f⟩;have g:=o z py H r f
 by_cases m:z<xs.length
 .refine .inr ⟨⟨xs,xs[z],g,by simp [m]⟩,D (z+1),λe N s=>⟨xs.length-(z+1),by lia,S,m,s⟩,λG N y=>?_⟩;let⟨h,y⟩:=y;subst h;exact p z G py _ (y xs g) f
 .have h:z=xs.length:=by lia
  subst h;exact .inl ⟨⟨xs,g,aR _⟩,q py H f⟩
def IM{H:U}(N:Nat->St->U->Prop)(n:N 0 py H)(o:∀z py H,z<t->N z py H->FM (.int (v0+z)) py H λb c=>Ix (Gc.lp (N (z+1))) b c) (p:∀py H,N t py H->Gc.nx py H):∃d:Nat->Nat->St->U->Prop,(∃G,d 0 G py H)/\∀z G py H,d z G py H->((ko v0 t).stop z H/\Gc.nx py H)\/((ko v0 t).go z H/\∃k:St->U->Prop,(∀e M,k e M->∃l,l<G/\d (z+1) l e M)/\∀f M,(ko v0 t).hc z H f M->FM f py M λb c=>Ix (Gc.lp k) b c):=by
 exists λz G py H=>G=t-z/\z<=t/\N z py H,⟨t,by simp,cP _,n⟩,?_;rintro z G py H ⟨rfl,r,m⟩;by_cases g:z<t
 .refine .inr ⟨g,N (z+1),λe M q=>⟨t-(z+1),by lia,S,g,q⟩,λf M y=>?_⟩;let⟨h,y⟩:=y;subst h y;exact o z py _ g m
 .have h:z=t:=by lia
  subst h;exact .inl ⟨aR _,p py H m⟩
abbrev R2:=V->V->U->VK->Prop
def eD(z:Cx)(S:J->J->fC J)(T:R2):Prop:=
 ∀(A:List (Z×aL)) (D:ak) (G:St) (H:U) (M y:V) (v u:J) (N:VK),Inv z A G H D->RelV M v->RelV y u->T M y H N->
  aI (aM z.prog z.w) z.A (S v u) (EP z A G N) z.xe D
def vB(z:Cx)(S:J->fC J)(T:V->U->VK->Prop):Prop:=
 ∀(A:List (Z×aL)) (D:ak) (G:St) (H:U) (M:V) (v:J) (N:VK),Inv z A G H D->RelV M v->T M H N->
  aI (aM z.prog z.w) z.A (S v) (EP z A G N) z.xe D
def hA(z:Cx)(T:J)(a:List V->U->VK->Prop):Prop:=
 ∀(A:List (Z×aL)) (D:ak) (G:St) (H:U) (M:List V) (N:List J) (S:VK),Inv z A G H D->Vals M N->a M H S->
  aI (aM z.prog z.w) z.A (gO T N) (EP z A G S) z.xe D
def IP(z:Cx)(S:V->U->(Bool->U->Prop)->Prop):Prop:=
 ∀(A:List (Z×aL)) (D:ak) (G:St) (H:U) (M:V) (v:J) (N:Bool->U->Prop),Inv z A G H D->RelV M v->S M H N->
  aI (aM z.prog z.w) z.A (truthy v) (TP z A G N) z.xe D
def sb(A:R2)(D G:TE):TE:=λz H M=>D z H λN S=>G z S λy T=>A N y T M
def IQ(z:V->U->VK->Prop)(A:TE):TE:=λD H G=>A D H λM N=>z M N G
inductive kq (z:Int->Int->V) (x:V) (y:V) (H:U) (A:VK):Prop
 |mk(i j:_)(_:x=.int i)(_:y=.int j)(_:A (z i j) H)
inductive rU (z:Int->V) (x:V) (H:U) (A:VK):Prop
 |mk(i:_)(_:x=.int i)(_:A (z i) H)
variable{V2:J->J->fC J}
def vC(f:PE h op sw)(g:PE h s2 zn){H:U}{T:V->V->U->Prop}(X:Inv h pr py H B)(i:sw py H λA S=>zn py S λy D=>T A y D)  (j:∀v u M A y D,Inv h pr py D M->RelV A v->RelV y u->T A y D->aI (aM h.prog h.w) h.A (V2 v u) s5 h.xe M):aI (aM h.prog h.w) h.A (eval op h.env) (λv k=>aI (aM h.prog h.w) h.A (eval s2 h.env) (λu l=>aI (aM h.prog h.w) h.A (V2 v u) s5 h.xe l) h.xe k) h.xe B:=by refine aN (f pr B py H _ X i) λv m ⟨A,S,n,o,p⟩=>?_;refine aN (g pr m py S _ n p) λu M ⟨y,D,q,r,s⟩=>?_;exact j v u M A y D q o r s
variable{Tm:R2}
def hg{z:uv}(D:eD h (y5 z) Tm)(G:PE h op sw)(M:PE h s2 zn):PE h (.BinOp op z s2 pv) (sb Tm sw zn):=by intro N l S H T U d;exact wpAny_BinOp (vC G M U d λv u e f y g X i j k=>D N e S g f y v u T X i j k)
def vD{z:UnaryOp}{A:V->U->VK->Prop}(M:vB h (unaryOp z) A)(N:PE h op sw):PE h (.UnaryOp z op pv) (IQ A sw):=by intro D S G H T d e;exact UnaryOp_ (aN (N D S G H _ d e) λv f ⟨g,X,i,j,k⟩=>M D f G X g v T i j k)
def vE{G:Int->Int->Int}(U:∀(z A:Int) (M u:dD) (D:ak) (N:J->ak->Prop) (d:J->ak->Prop),N (.int (G z A) D.toks) {D with toks:=D.toks+1}->aI (aM h.prog h.w) h.A (V2 (.int z M) (.int A u)) N d D):eD h V2 (kq λz A=>.int (G z A)):=by intro k D l H m y v u N e f g X;let⟨z,A,rfl,rfl,i⟩:=X;let⟨M,rfl⟩:=f;let⟨j,rfl⟩:=g;exact U z A M j D _ _ ⟨.int (G z A),H,e.tok _,⟨_,S⟩,i⟩
def sd{G:Int->Int->Bool}(U:∀(z A:Int) (M u:dD) (D:ak) (N:J->ak->Prop) (d:J->ak->Prop),N (.bool (G z A)) D->aI (aM h.prog h.w) h.A (V2 (.int z M) (.int A u)) N d D):eD h V2 (kq λz A=>.bl (G z A)):=by intro k D l H m y v u N e f g X;let⟨z,A,rfl,rfl,i⟩:=X;let⟨M,rfl⟩:=f;let⟨j,rfl⟩:=g;exact U z A M j D _ _ ⟨.bl (G z A),H,e,S,i⟩
theorem se:eD h (y5 .Add) (kq λz A=>.int (z+A)):=vE λ_ _ _ _ _ _ _ D=>add_int D
theorem vF:eD h (y5 .Sub) (kq λz A=>.int (z-A)):=vE λ_ _ _ _ _ _ _ D=>sub_int D
theorem IS:eD h (uw .Add) (kq λz A=>.int (z+A)):=vE λ_ _ _ _ _ _ _ D=>RK D
def IT{N:J->fC J}{D:Int->Int}(T:∀(z:Int) (G:dD) (A:ak) (M:J->ak->Prop) (U:J->ak->Prop),M (.int (D z) A.toks) {A with toks:=A.toks+1}->aI (aM h.prog h.w) h.A (N (.int z G)) M U A):vB h N (rU λz=>.int (D z)):=by intro X A i H j v M d e f;let⟨z,rfl,g⟩:=f;let⟨G,rfl⟩:=e;exact T z G A _ _ ⟨.int (D z),H,d.tok _,⟨_,S⟩,g⟩
theorem vG:vB h (unaryOp .USub) (rU λz=>.int (-z)):=IT λ_ _ _ _ _ A=>neg_int A
def Ab:V->V->Bool
 |.bw,.bw=>I|.bw,.int _=>I|.int _,.bw=>I|.bw,.bl _=>I|.bl _,.bw=>I|.bw,.str _=>I|.str _,.bw=>I
 |.int _,.int _=>I|.bl _,.bl _=>I|.str _,.str _=>I|.fP _,.fP _=>I
 |.int _,.str _=>I|.str _,.int _=>I|.bl _,.str _=>I|.str _,.bl _=>I
 |_,_=>ao
def IU:R2:=λz y H A=>Ab z y=I/\A (.bl (decide (z=y))) H
def IV:R2:=λz y H A=>Ab z y=I/\A (.bl (!decide (z=y))) H
def Ac{A:Int}:decide (V.int v0=V.int A)=(v0==A):=by rw [ic];simp
variable{Ty VZ:Bool}
def Ad:decide (V.bl Ty=V.bl VZ)=(Ty==VZ):=by rw [ic];simp
variable{FS:aa}
def Ae:decide (V.str nw=V.str FS)=(nw==FS):=by rw [ic];simp
def Af{z A:Array UInt8}:decide (V.fP z=V.fP A)=(z.toList==A.toList):=by rw [ic];cases z;cases A;simp
variable{KB:VK}
def dV{H:U}(T:Inv h pr py H B)(d:KB (.bl Ty) H)(e:Ty=VZ):EP h pr py KB (.bool VZ) B:=by subst e;exists .bl Ty,H,T,S,d
def cT:eD h (fD .Eq) IU:=by
 intro f g X H U y v u j z N A e;let⟨M,D⟩:=e;cases U with
 |bw=>
  cases N;cases y with
  |bw=>cases A;exact Um (dV z D (by simp))
  |bl d=>cases A;exact Uo (dV z D (by simp))
  |int d=>let⟨G,rfl⟩:=A;exact Up (dV z D (by simp))
  |str d=>let⟨G,rfl⟩:=A;exact Uq (dV z D (by simp))
  |_=>exact absurd (show ao=I from M) d5
 |bl i=>
  cases N;cases y with
  |bw=>cases A;exact Ur (dV z D (by simp))
  |bl d=>cases A;exact eq_bool (dV z D Ad)
  |str d=>let⟨G,rfl⟩:=A;exact Us (dV z D (by simp))
  |_=>exact absurd (show ao=I from M) d5
 |int i=>
  let⟨T,rfl⟩:=N;cases y with
  |bw=>cases A;exact Ut (dV z D (by simp))
  |int d=>let⟨G,rfl⟩:=A;exact eq_int (dV z D Ac)
  |str d=>let⟨G,rfl⟩:=A;exact Uu (dV z D (by simp))
  |_=>exact absurd (show ao=I from M) d5
 |str i=>
  let⟨T,rfl⟩:=N;cases y with
  |bw=>cases A;exact Uv (dV z D (by simp))
  |bl d=>cases A;exact Uw (dV z D (by simp))
  |int d=>let⟨G,rfl⟩:=A;exact Ux (dV z D (by simp))
  |str d=>let⟨G,rfl⟩:=A;exact eq_str (dV z D Ae)
  |_=>exact absurd (show ao=I from M) d5
 |fP i=>
  let⟨T,rfl⟩:=N;cases y with
  |fP d=>let⟨G,rfl⟩:=A;exact PySem.W.eq_bytes (dV z D Af)
  |_=>exact absurd (show ao=I from M) d5
 |_=>cases y<;>exact absurd (show ao=I from M) d5
def qv:eD h (fD .NotEq) IV:=by
 intro f g X H U y v u j z N A e;let⟨M,D⟩:=e;cases U with
 |bw=>
  cases N;cases y with
  |bw=>cases A;exact Uy (dV z D (by simp))
  |bl d=>cases A;exact Uz (dV z D (by simp))
  |int d=>let⟨G,rfl⟩:=A;exact UA (dV z D (by simp))
  |str d=>let⟨G,rfl⟩:=A;exact UB (dV z D (by simp))
  |_=>exact absurd (show ao=I from M) d5
 |bl i=>
  cases N;cases y with
  |bw=>cases A;exact UC (dV z D (by simp))
  |bl d=>cases A;exact ne_bool (dV z D (bD not Ad))
  |str d=>let⟨G,rfl⟩:=A;exact UD (dV z D (by simp))
  |_=>exact absurd (show ao=I from M) d5
 |int i=>
  let⟨T,rfl⟩:=N;cases y with
  |bw=>cases A;exact UE (dV z D (by simp))
  |int d=>let⟨G,rfl⟩:=A;exact ne_int (dV z D (bD not Ac))
  |str d=>let⟨G,rfl⟩:=A;exact UG (dV z D (by simp))
  |_=>exact absurd (show ao=I from M) d5
 |str i=>
  let⟨T,rfl⟩:=N;cases y with
  |bw=>cases A;exact UH (dV z D (by simp))
  |bl d=>cases A;exact UI (dV z D (by simp))
  |int d=>let⟨G,rfl⟩:=A;exact UJ (dV z D (by simp))
  |str d=>let⟨G,rfl⟩:=A;exact ne_str (dV z D (bD not Ae))
  |_=>exact absurd (show ao=I from M) d5
 |fP i=>
  let⟨T,rfl⟩:=N;cases y with
  |fP d=>let⟨G,rfl⟩:=A;exact PySem.W.ne_bytes (dV z D (bD not Af))
  |_=>exact absurd (show ao=I from M) d5
 |_=>cases y<;>exact absurd (show ao=I from M) d5
theorem sf:eD h (fD .Lt) (kq λz A=>.bl (decide (z<A))):=sd λ_ _ _ _ _ _ _ D=>lt_int D
theorem vH:eD h (fD .LtE) (kq λz A=>.bl (decide (z<=A))):=sd λ_ _ _ _ _ _ _ D=>le_int D
theorem vI:eD h (fD .Gt) (kq λz A=>.bl (decide (A<z))):=sd λ_ _ _ _ _ _ _ D=>gt_int D
theorem IW:eD h (fD .GtE) (kq λz A=>.bl (decide (A<=z))):=sd λ_ _ _ _ _ _ _ D=>ge_int D
def IX:eD h (fD .IsNot) (λz y H A=>y=.bw/\A (.bl (!decide (z=.bw))) H):=by
 intro U d e H z y v u A G D M N;let⟨rfl,T⟩:=N;cases M;refine RD (dV G T ?_);cases z<;>first
  |(cases D;rfl)
  |(let⟨f,rfl⟩:=D;rfl)
def bV(b:a7){z:nD}(A:z≠.In:=by decide)(D:z≠.NotIn:=by decide):nE z b=ao:=by
 have G:(z==RB)=ao:=by cases z<;>first|rfl|exact absurd rfl A
 have M:(z==RC)=ao:=by cases z<;>first|rfl|exact absurd rfl D
 cases b<;>simp [nE,G,M]
def oj{z:nD}(D:eD h (fD z) Tm)(G:PE h s2 sw)(M:PE h op zn)(N:nE z op=ao):PE h (.Compare s2 [z] [op] pv) (sb Tm sw zn):=by intro S m T H U d e;exact RE (vC G M d e λv u f g y X i j k l=>D S f T X g y v u U i j k l) N
inductive IY (z:Bool->U->Prop) (x:V) (A:U):Prop
 |mk(k:_)(_:x=.bl k)(_:z k A)
def IZ(z:TE):TT:=λA H D=>z A H λG M=>IY D G M
variable{c:a7}
def bS{z:nD}(M:eD h (fD z) Tm)(N:PE h s2 sw)(S:PE h op zn)(T:nE z op=ao):PT h (.Compare s2 [z] [op] pv) (IZ (sb Tm sw zn)):=by intro A U D H x d e;refine RF (aN (N A U D H _ d e) λv f ⟨g,X,i,j,k⟩=>aN (S A f D X _ i k) λu l ⟨y,m,n,o,p⟩=>aN (M A l D m g y v u _ n j o p) λc B ⟨C,q,r,s,E,t,w⟩=>?_) T;subst t;cases s;exact pP ⟨q,r,w⟩
def I0(M N:R2)(ta tb tc:TE):TE:=λz H A=>ta z H λS T=>tb z T λy U=>M S y U λd D=>∃G,d=.bl G/\
 (if G=I then tc z D λe f=>N y e f A else A (.bl ao) D)
variable{V8:TE}
def I1{D G:nD}{N:R2}(f:eD h (fD D) Tm)(g:eD h (fD G) N)(X:PE h s2 sw)(i:PE h op zn)(j:PE h c V8)(k:lastMarks [D,G] [op,c]=ao:=by with_unfolding_all rfl):PE h (.Compare s2 [D,G] [op,c] pv) (I0 Tm N sw zn V8):=by
 intro z l A H m n o;refine Compare_chain (aN (X z l A H _ n o) λv p ⟨q,r,s,t,w⟩=>chain_link (aN (i z p A r _ s w) λu x ⟨y,B,C,T,E⟩=>aN (f z x A B q y v u _ C t T E) λam F ⟨an,U,d,K,L,P,e⟩=>?_)) k;subst P;cases K;refine pP ?_;cases L with
 |false=>exact ite_ff ⟨.bl ao,U,d,S,e⟩
 |true=>exact ite_tt (chain_last (aN (j z F A U _ d e) λQ R ⟨V,W,ab,ad,al⟩=>g z R A W y V u Q m ab T ad al))
def Ag(K:af)(G:V)(H:U)(z:Bool):Prop:=
 match G with
 |.bw=>z=ao
 |.bl op=>z=op
 |.int i=>z=(i !=0)
 |.str y=>y.length<=aU/\z=((y.length:Int) !=0)
 |.fP y=>y.size<=aU/\z=((y.size:Int) !=0)
 |.ref p=>(∃A,av K H p A/\z= !A.isEmpty)\/(∃A,ax K H p A/\z= !A.isEmpty)\/∃D,H p=Y (.dK D)/\z= !D.isEmpty
 |_=>False
def I2{A:List (sK×V)}{D:List (sK×J)}(G:KV A D):(!D.isEmpty)= !A.isEmpty:=by cases G<;>rfl
def Ah(D:Vals ul t1):(!t1.toArray.isEmpty)= !ul.isEmpty:=by cases D<;>simp
def om:(aU:Nat)<2^63:=by rw [y6];decide
def I3:IP h (λg H j=>∃A,Ag h.K g H A/\j A H):=by
 intro u n w H g v j D U o;let⟨A,N,G⟩:=o;have x:=om
 have B:aU=16777216:=y6;cases g with
 |bw=>
  cases U;have z:A=ao:=N
  subst z;exact truthy_none ⟨H,D,G⟩
 |bl op=>
  cases U;have z:A=op:=N
  subst z;exact pP ⟨H,D,G⟩
 |int i=>
  let⟨k,rfl⟩:=U;have z:A=(i !=0):=N
  subst z;exact PySem.P.truthy_int ⟨H,D,G⟩
 |str y=>
  let⟨k,rfl⟩:=U;obtain⟨q,z⟩:y.length<=aU/\A=((y.length:Int) !=0):=N;subst z;exact PySem.P.truthy_str (by lia) ⟨H,D.tok _,G⟩
 |fP y=>
  let⟨k,rfl⟩:=U;obtain⟨q,z⟩:y.size<=aU/\A=((y.size:Int) !=0):=N;subst z;exact PySem.W.truthy_bytes (by lia) ⟨H,D.tok _,G⟩
 |ref p=>
  cases U;have z:(∃T,av h.K H p T/\A= !T.isEmpty)\/(∃T,ax h.K H p T/\A= !T.isEmpty)\/∃d,H p=Y (.dK d)/\A= !d.isEmpty:=N
  rcases z with⟨T,e,z⟩|⟨T,e,z⟩|⟨d,e,z⟩
  .subst z;let⟨r,M,X,l⟩:=D.list e;have m:=M.length
   exact wpAny_truthy_list X.isList (by simp only [eZ];lia) ⟨H,D.tok _,by rw [Ah M];exact G⟩
  .subst z;let⟨r,M,X,l⟩:=D.tuple e;have m:=M.length
   exact truthy_tuple X (by simp only [eZ];lia) ⟨H,D.tok _,by rw [Ah M];exact G⟩
  .subst z;obtain⟨l,s,f,M,t⟩:d.length<=aU/\(p==eo)=ao/\∃f,KV d f/\n.heap.DictOf (eK h.prog h.w) p f:=D.bf p _ e;have m:d.length=f.length:=bO M
   exact wpAny_truthy_dict s t (by lia) ⟨H,D.tok _,by rw [I2 M];exact G⟩
 |_=>exact(show False from N).elim
def sg(T:PE h op sw)(U:∀G,isTrue op h.env G=(do let v<-G;pQ op.pos;nF [v] (truthy v))):PT h op (λz H A=>sw z H λD M=>∃N,Ag h.K D M N/\A N M):=by intro S d z H A e f;exact RG (aN (T S d z H _ e f) λv g ⟨D,X,i,j,k⟩=>I3 S g z X D v A i j k) (U _)
def I4:eD h (uw .Add) (λD y H G=>∃z A,D=.str z/\y=.str A/\z.length+A.length<=aU/\G (.str (z++A)) H):=by intro g X i H D y v u G M N T U;let⟨z,A,rfl,rfl,d,e⟩:=U;let⟨j,rfl⟩:=N;let⟨f,rfl⟩:=T;exact iadd_str (λf k=>⟨.str (z++A),H,M.tok _,⟨_,S⟩,e⟩) d
def vals1(D:Vals [v1] t1):∃u,t1=[u]/\RelV v1 u:=by
 cases D with
 |cons d e=>cases e;exists _,S,d
def vals2{y:V}(G:Vals [v1,y] t1):∃u D,t1=[u,D]/\RelV v1 u/\RelV y D:=by
 cases G with
 |cons d e=>
  cases e with
  |cons f g=>cases g;exists _,_,S,d,f
def I5(U:h.calm=I):hA h (.builtin "min") (λG H M=>∃z A,G=[.int z,.int A]/\M (.int (if A<z then A else z)) H):=by
 intro X i j H G k M T d e;let⟨z,A,rfl,f⟩:=e;let⟨u,l,rfl,⟨m,rfl⟩,⟨n,rfl⟩⟩:=vals2 d;refine min_two_ints (T.ok.hd U) λo p g=>⟨_,H,T.kept g,?_,f⟩
 by_cases D:A<z
 .rw [ai D,ai D];exists _,S
 .rw [N D,N D];exists _,S
def Ai:hA h (.builtin "ord") (λA H D=>∃z,A=[.str z]/\z.length=1/\D (.int (z.cps.getD 0 0:Nat)) H):=by intro d e f H A g D G M N;let⟨z,rfl,T,U⟩:=N;let⟨u,rfl,X,rfl⟩:=vals1 M;exact ord_of_one T ⟨.int _,H,G.tok _,⟨_,S⟩,U⟩
structure mw(A:aD)(x z D:Z)(G:aa->Option J):Prop where
 obj:A.get? x=Y (nC D z)
 ns:A.Ns1 z G
 ne:z≠x
set_option tactic.hygienic true
variable{L:aa->Option J}
def I6(U:P.Ns1 d L):∃S,P.get? d=Y S/\∀name,y7 name S=Y (L name):=by
 let⟨o,T,i,a,b,c,_,D⟩:=U;exists o,a,λname=>?_;have z:=D name
 unfold nsFind findBy at z;rw [<-Array.find?_toList]at z;unfold y7;rw [b];dsimp only;split
 .rename_i y A;rw [A]at z;exact bD Y z
 .rename_i A;rw [A]at z;have e:T.toList.any (·.refKey)=ao:=by
   rw [List.any_eq_false];intro y f;let⟨j,k,g⟩:=c y (RL.mp f);simp [UK,g]
  have h:¬T.toList.any (·.refKey)=I:=e▸d5;rw [N h];exact bD Y z
set_option tactic.hygienic false
variable{Q:Z}
theorem mw.look(T:mw P q Q d L):∃z,PySem.W.InstAt P q (nC d Q) d (Y z)/\∀name,y7 name z=Y (L name):=
 let⟨z,U,a⟩:=I6 T.ns
 ⟨z,⟨T.obj,S,S,U⟩,a⟩
variable{K:af}{v:J}
def get_map(G:K.In B.heap)(M:mw B.heap q Q d L)(N:y8 K d nw=I)(T:Gf K d=I)(U:j1 K (.ref d) nw=Y O) (a:L nw=Y v) (b:RM v=I) (c:s5 v {B with toks:=B.toks+1}):aI (aM m p) ss (Gg (.ref q) nw Ty) s5 IR B:=by let⟨g,s,e⟩:=M.look;exact PySem.W.get_value G s (Gh N).1 (PySem.W.findObj_own T U S (by rw [e,a])) b c
variable{Wh:J×List J->ak->Prop}{VM:fC Bool}{pp:Z}
def I7(M:K.In B.heap)(N:mw B.heap d pp q L)(D:y8 K q nw=I)(T:j1 K (.ref q) nw=Y (Y (.ref Q))) (U:uy K (.ref Q)=I) (a:L nw=O) (b:Wh (.ref Q,[.ref d]) B):aI (aM m p) ss (pU (.ref d) nw VM) Wh s5 B:=by let⟨c,s,e⟩:=N.look;exact PySem.W.method_fn M s (Gh D).1 (Gh D).2 T (iM.mp U) (by show(y7 nw c).map (·.isSome)=Y ao;rw [e,a];rfl) b
variable{s:ak}
def I8(G:K.In s.heap)(z:mw s.heap Q q d L)(a:j1 K (.ref d) "__setattr__"=Y (Y (.builtin "object.__setattr__"))) (b:RN K d=I) (c:Gi K d nw=Y O) (C:Gf K d=I)(hw:F7 L tz) (hsz:tz.length<=aU)(e:∀D,mw D Q q d (λy=>if y=nw then Y v else L y)->ib q s.heap D->KF () {s with heap:=D,toks:=s.toks+2}):aI (aM m p) ss (setAttr (.ref Q) nw v) KF s5 s:=by
 let⟨x,S,n⟩:=z.look;refine PySem.W.set_plain G S a (PySem.W.osa_open (s:={s with toks:=s.toks+1}) (r:=O) G S b c λo=>?_);let⟨M,g,h⟩:=PySem.W.any_some C;have i:=z.obj
 refine aH (bu (aH (aH (wpAny_loadPart i (aH (UL (s:={s with toks:=s.toks+1}) (PySem.W.looks_clsIn G g) ?_))))));rw [h];refine bu (a:=Y q) (aH (bu (aH ?_)));refine wpAny_nsSet1 (s:={s with toks:=s.toks+1}) z.ns λD T U=>?_;let⟨N,r,t,j,k,l⟩:=T.count (UM nw v hw);refine aH (wpAny_lookBehind j (by rw [k];exact pastItsLine_dict (cu l (by rw [dn];lia))) ?_);exact bu (e _ ⟨(U.2 _ (eP z.ne)).trans z.obj,T,z.ne⟩ U)
variable{V9:List (aa×J)}{VT:Result->ak->Prop}{f:Z}
def I9(G:K.In B.heap)(N:Gj K d=I)(T:j1 K (.ref d) "__init__"=Y (Y (.ref f))) (U:PySem.W.typeIn K (.ref f)=Y (.type "function"))(a:pV (aM m p) (ss.under (.builtin "type.__call__" ⟨.ref d::t1,V9⟩)) (.call (.ref f) ⟨.ref (B.heap.objs.size+1)::t1,V9⟩) (PySem.W.InitBack (B.heap.objs.size+1) VT) {B with heap:=(B.heap.push l2).push (nC d B.heap.objs.size)}):pV (aM m p) ss (.call (.ref d) ⟨t1,V9⟩) VT B:=by let⟨b,c,s,e,g⟩:=B;exact PySem.W.make_core (PySem.W.makes_of G N) (PySem.W.looks_findIn G T) (λself=>PySem.W.bind_fn G self U) (.inl S) a
def aO(z:aa)(v:V):List (aa×V)->List (aa×V)
 |[]=>[(z,v)]
 |(a,x)::b=>if a=z then(a,v)::b else(a,x)::aO z v b
theorem Aj(A D:aa)(v:V):∀U:List (aa×V),(aO A v U).lookup D=if D=A then Y v else U.lookup D
 |[]=>by
  show nG D [(A,v)]=_;by_cases z:D=A
  .have G:(D==A)=I:=iM.mpr z;simp only [nG,G,ai z]
  .have G:=iK.mpr z;simp only [nG,G,N z]
 |(k,x)::a=>by
  rw [show aO A v ((k,x)::a)=(if k=A then(k,v)::a else(k,x)::aO A v a)from rfl];by_cases M:k=A
  .rw [ai M];by_cases z:D=k
   .have G:=iM.mpr z;simp only [nG,G,ai (z.trans M)]
   .have G:=iK.mpr z;simp only [nG,G,N (λT:D=A=>z (T.trans M.symm))]
  .rw [N M];by_cases z:D=k
   .have G:=iM.mpr z;simp only [nG,G,N (λT:D=A=>M (z.symm.trans T))]
   .have G:=iK.mpr z;simp only [nG,G];exact Aj A D v a
theorem vJ(z:aa)(v:V):∀G:List (aa×V),z∈(aO z v G).map (·.1)/\∀A,A∈G.map (·.1)->A∈(aO z v G).map (·.1)
 |[]=>⟨by simp [aO],λA D=>by simp at D⟩
 |(k,x)::a=>by
  let⟨U,b⟩:=vJ z v a;rw [show aO z v ((k,x)::a)=(if k=z then(k,v)::a else(k,x)::aO z v a)from rfl];by_cases M:k=z
  .rw [ai M];subst M;exact⟨by simp,λA D=>by simpa using D⟩
  .rw [N M];exists ?_,λA D=>?_
   .rw [aZ];exact bC _ U
   .rw [aZ]at D⊢;rcases bg.mp D with T|T
    .exact bg.mpr (.inl T)
    .exact bC _ (b A T)
theorem Ak(z:aa)(v:V):∀A:List (aa×V),(aO z v A).length<=A.length+1
 |[]=>by simp [aO]
 |(k,x)::a=>by
  have G:=Ak z v a;rw [show aO z v ((k,x)::a)=(if k=z then(k,v)::a else(k,x)::aO z v a)from rfl];by_cases D:k=z
  .rw [ai D,dn,dn];lia
  .rw [N D,dn,dn];lia
def fv.some_of{v:V}{o:Option J}(z:fv (Y v) o):∃u,o=Y u/\RelV v u:=by
 cases o with
 |none=>exact(show False from z).elim
 |some u=>exists u,S,z
def fv.none_of{o:Option J}(z:fv O o):o=O:=by
 cases o with
 |none=>rfl
 |some u=>exact(show False from z).elim
def Ja{v:V}{u:J}(A:RelV v u):RM u=I:=by
 cases v with
 |bw=>cases (show u=kQ from A);rfl
 |bl b=>cases (show u=Ru b from A);rfl
 |int i=>let⟨z,D⟩:=(show∃z,u=pM i z from A);cases D;rfl
 |str x=>let⟨z,D⟩:=(show∃z,u=yZ x z from A);cases D;rfl
 |fP b=>let⟨z,D⟩:=(show∃z,u=Rv b z from A);cases D;rfl
 |ql b=>let⟨z,D⟩:=(show∃z,u=Rw b z from A);cases D;rfl
 |ref a=>cases (show u=cp a from A);rfl
 |ty n=>cases (show u=pN n from A);rfl
variable{Go:List (aa×V)}
def vK(D:dv m p H P)(G:H d=Y (.ins Q q Go)):∃z,mw P d q Q z/\(∀A,fv (Go.lookup A) (z A))/\F7 z (Go.map (·.1))/\Go.length<=1000/\H q=Y (.own d):=by
 let⟨M,N,S,T,z,U,b,c⟩:=(show d2 m p H P d (.ins Q q Go)from D d _ G)
 exists z,⟨T,U,S⟩,b,c,N,M
structure fc(K:af)(z:Z):Prop where
 pg:y8 K z Str.empty=I
 hd:Gf K z=I
 po:RN K z=I
 sa:j1 K (.ref z) "__setattr__"=Y (Y (.builtin "object.__setattr__"))
theorem fc.get{K:af}(c:fc K d)(A:aa):y8 K d A=I:=c.pg
def dF(K:af)(z:Z)(A:aa):Prop:=j1 K (.ref z) A=Y O
def dF.Jb{K:af}(D:dF K d nw):Gi K d nw=Y O:=by unfold Gi;rw [show j1 K (.ref d) nw=Y O from D];rfl
structure Meth(K:af)(A:Z)(m:aa)(z:Z):Prop where
 at_:j1 K (.ref A) m=Y (Y (.ref z))
 fn:uy K (.ref z)=I
 kp:kT K (.ref z)=I
section
variable {X:Cx} {pins:List (Z×aL)} {σ:St} {H:U} {s:ak} {a C dx:Z} {fs:List (aa×V)} {f:aa} {v:V} {A:bZ} {E:J->ak->Prop}
def Al{N:Bool}{D:J->ak->Prop}(z:Inv X pins σ H s)(S:H a=Y (.ins C dx fs))(c:fc X.K C)(T:dF X.K C f)(U:fs.lookup f=Y v)(b:∀u G,Inv X pins σ H G->RelV v u->D u G):aI (aM X.prog X.w) A (Gg (.ref a) f N) D E s:=by let⟨d,e,g,_,_,_⟩:=vK z.bf S;let⟨u,h,M⟩:=fv.some_of (v:=v) (o:=d f) (U▸g f);exact get_map z.fb e (c.get f) c.hd T h (Ja M) (b u _ (z.tok _) M)
end
def vL(M:Inv h pr py H B)(T:H d=Y (.ins q pp Go))(c:fc h.K q)(N:Meth h.K q nw Q)(U:Go.lookup nw=O)(b:Wh (.ref Q,[.ref d]) B):aI (aM h.prog h.w) ss (pU (.ref d) nw VM) Wh s5 B:=by
 let⟨X,z,e,_,_,_⟩:=vK M.bf T;have g:=fv.none_of (U▸e nw)
 exact I7 M.fb z (c.get nw) N.at_ N.fn g b
def Am{y:V}{u:J}(M:Inv h pr py H B)(b:H d=Y (.ins q Q Go))(c:fc h.K q)(j:dF h.K q nw)(K:Go.length<1000)(L:RelV y u)(k:∀X,Inv h pr py (upd H d (.ins q Q (aO nw y Go))) X->KF () X):aI (aM h.prog h.w) ss (setAttr (.ref d) nw u) KF s5 B:=by
 let⟨l,S,m,g,_,a⟩:=vK M.bf b;have n:(Go.map (·.1)).length<=aU:=by rw [z,y6];lia
 refine I8 M.fb S c.sa c.po j.Jb c.hd g n λp T C=>k _ ?_;have r:∃o,p.get? Q=Y o:=let⟨o,_,_,t,_⟩:=T.ns;⟨o,t⟩
 refine M.write (x:=d) (e:=Q) (b▸j2) (.inr a) (λw D f i=>(C.2 w f).trans i) r ?_;exists ah S.ne▸a,?_,S.ne,T.obj,_,T.ns,λG=>?_,λG F=>?_
 .have:=Ak nw y Go;lia
 .rw [Aj];by_cases D:G=nw
  .rwa [ai D,ai D]
  .rw [N D,N D];exact m G
 .by_cases D:G=nw
  .rw [D];exact(vJ nw y Go).1
  .refine(vJ nw y Go).2 G (g G λi=>F ?_);show(if G=nw then Y u else l G)=O
   rwa [N D]
variable{C:Z}
def Inv.made(N:Inv h pr py H B):Inv h pr py (upd (upd H B.heap.objs.size (.own (B.heap.objs.size+1))) (B.heap.objs.size+1) (.ins C B.heap.objs.size [])) {B with heap:=(B.heap.push l2).push (nC C B.heap.objs.size)}:=by
 have D:(B.heap.push l2).get? B.heap.objs.size=Y l2:=gB B.heap S;have T:((B.heap.push l2).push (nC C B.heap.objs.size)).get? (B.heap.objs.size+1)=Y (nC C B.heap.objs.size):=by have:=gB (B.heap.push l2) (o:=nC C B.heap.objs.size) S;rwa [jr]at this
 have U:(B.heap.push l2).Ns B.heap.objs.size (λ_=>O):=⟨l2,#[],_,D,S,(λe b=>absurd b (by simp)),λ_=>S⟩
 refine(N.laid (a:=B.heap.objs.size) (o:=.own (B.heap.objs.size+1)) (h':=B.heap.push l2) (t':=B.toks) (λc u z=>e8 _ z) (aR _) ⟨_,D⟩).laid (a:=B.heap.objs.size+1) (o:=.ins C B.heap.objs.size []) (t':=B.toks) (λc u z=>e8 _ z) (uz (jr _ _)) ?_;have G:B.heap.objs.size≠B.heap.objs.size+1:=fB (pW _)
 exists by rw [ah G,M],cP _,G,T,λ_=>O,(Heap.Ns1.of_empty U).at λo z=>e8 _ z,λ_=>j2,λy d=>absurd rfl d
theorem Jc{z:dS}(T:j3 op nw z (eval op z)=eval op z)(U:aI (aM m p) ss (eval op z) (λo b=>aI (aM m p) ss (Gg o nw I) IR s5 b) s5 B):aI (aM m p) ss (eval (.Attribute op nw pv) z) IR s5 B:=
 Attribute_any_ U (by rw [arm_eval_Attribute,T])
inductive Jd (K:af) (z:aa) (D:VK) (x:V) (A:U):Prop
 |mk(a b c fs v:_)(_:x=.ref a)(_:A a=Y (.ins b c fs))(_:fc K b)(_:dF K b z)(_:fs.lookup z=Y v)(_:D v A)
def vM(K:af)(z:TE)(A:aa):TE:=λD H G=>z D H λM N=>Jd K A G M N
inductive Je (K:af) (z:aa) (D:Ends) (G:St) (y:V) (x:V) (A:U):Prop
 |mk(a b c fs:_)(_:x=.ref a)(_:A a=Y (.ins b c fs))(_:fc K b)(_:dF K b z)(_:fs.length<1000)(_:D.nx G (upd A a (.ins b c (aO z y fs))))
def Jf(K:af)(A D:TE)(G:aa):TS:=λM z H=>D z H λy N=>A z N λS T=>Je K G M z y S T
def An(z:Cx)(S:uv)(T:V->V->U->VK->Prop):Prop:=
 ∀(A:List (Z×aL)) (D:ak) (G:St) (H:U) (M y:V) (u v:J) (N:VK),Inv z A G H D->RelV M u->RelV y v->T M y H N->aI (aM z.prog z.w) z.A (uw S u v) (EP z A G N) z.xe D
def Jg(K:af)(b c:TE)(d:V->V->U->VK->Prop)(D:aa):TS:=λe G H=>b G H λf N=>∃A z g S v,f=.ref A/\N A=Y (.ins z g S)/\fc K z/\dF K z D/\S.lookup D=Y v/\
 c G N λy h=>d v y h λi T=>∃a M,T A=Y (.ins z a M)/\M.length<1000/\e.nx G (upd T A (.ins z a (aO D i M)))
def fQ(z:PE h op sw)(A:j3 op nw h.env (eval op h.env)=eval op h.env):PE h (.Attribute op nw pv) (vM h.K sw nw):=by intro D G M H n N T;refine Jc A (aN (z D G M H _ N T) λu p ⟨q,U,a,b,d,r,s,t,v,g,X,c,i,j,k⟩=>?_);subst g;obtain rfl:u=cp d:=b;exact Al a X c i j λw x l m=>⟨v,U,l,m,k⟩
section
variable {X:Cx} {o e hW:a7} {f:aa} {pos ll Ao:b2} {ta tv:TE}
def dQ(D:PE X o ta)(G:PE X hW tv)(M:l1 hW (Y (.Attribute o f ll)) pos.line X.env=dA ao):PS X (.Assign [.Attribute o f ll] hW pos) (Jf X.K ta tv f):=by intro A N z H t T U;refine plainObj_wpAny_Assign_Attribute (aN (G A N z H _ T U) λu a ⟨y,b,d,g,h⟩=>aN (D A a z b _ d h) λi v ⟨w,x,j,k,l,B,C,E,m,n,c,p,q,r⟩=>?_) M;subst m;obtain rfl:i=cp l:=k;exact Am j n c p q g λF s=>⟨z,_,s,r⟩
def vN{D:uv}{G:V->V->U->VK->Prop}(N:PE X o ta)(T:PE X hW tv)(a:An X D G):PS X (.AugAssign (.Attribute o f Ao) D hW pos) (Jg X.K ta tv G f):=by intro A b z H ab d g;refine wpAny_AugAssign_AttributeAny (aN (N A b z H _ d g) λh ad ⟨al,i,j,k,l,am,an,ap,v,m,n,c,M,p,q⟩=>?_);subst m;obtain rfl:h=cp l:=k;refine Al j n c M p λu r s t=>aN (T A r z i _ s q) λw x ⟨y,B,C,E,F⟩=>aN (a A x z B v y u w _ C t E F) λas a0 ⟨a1,a2,K,L,a3,a4,P,Q,R⟩=>?_;exact Am K P c M Q L λa5 W=>⟨z,_,W,R⟩
end
def Jh:V->V->U->VK->Prop:=λD y H G=>∃z A,D=.int z/\y=.int A/\G (.int (z+A)) H
def vO:An h .Add Jh:=by
 rintro a b c H d y u v g M N T ⟨z,A,rfl,rfl,U⟩;let⟨D,rfl⟩:=(show∃D,u=pM z D from N)
 let⟨G,rfl⟩:=(show∃G,v=pM A G from T)
 exact RK ⟨.int (z+A),H,M.tok _,⟨_,S⟩,U⟩
def Ud{H:U}(p:PE h op sw)(q:Inv h pr py H B)(r:sw py H λk b=>∃A G l d g,k=.ref A/\b A=Y (.ins G l d)/\fc h.K G/\Meth h.K G nw g/\d.lookup nw=O/\ ∀M,Inv h pr py b M->aI (aM h.prog h.w) h.A (rz pv (.ref g) [.ref A] (fp pv (cA t0 h.env)) (l3 pv (l4 [] h.env))) s5 h.xe M)(s:eval (.Call (.Attribute op nw wn) t0 [] pv) h.env=(do
   let m<-eval op h.env
   pQ wn.atName
   let(FS,first)<-nF [m] (pU m nw VM)
   rz pv FS first (fp pv (cA t0 h.env)) (l3 pv (l4 [] h.env)))):
  aI (aM h.prog h.w) h.A (eval (.Call (.Attribute op nw wn) t0 [] pv) h.env) s5 h.xe B:=by
 refine Gm (pl:=VM) (aN (p pr B py H _ q r) λu M ⟨k,b,n,t,A,G,l,d,g,v,w,c,x,y,X⟩=>?_) s;subst v;obtain rfl:u=cp A:=t;exact vL n w c x y (X M n)
structure dj(k:Nat)(A:bZ):Prop where
 hd:A.handled=O
 dp:A.depth+3*k+5<RO
 un:A.units+16*k+200<cK
theorem dj.mono(z:dj wP ss)(M:t<=wP):dj t ss:=⟨z.hd,by have:=z.dp;lia,by have:=z.un;lia⟩
theorem dj.deeper(D:dj (t+1) ss)(G:dS):dj t (ss.deeper G):=
 ⟨D.hd,by have:=D.dp;show ss.depth+1+3*t+5<_;lia,by have:=D.un;show ss.units+3+16*t+200<_;lia⟩
def Ji:(ss.under (.builtin "type.__call__" ⟨.ref d::t1,V9⟩)).depth=ss.depth+1:=by
 first|rfl|simp [Gn,Code.weight,Code.isCreation,Code.isGuard,Code.isCaller,RP,Gp,guardIds]
def Jj:(ss.under (.builtin "type.__call__" ⟨.ref d::t1,V9⟩)).units=ss.units+1:=by
 first|rfl|simp [Gn,Code.cUnits,RP,Gp]
theorem dj.make(z:dj (t+1) ss)(G:Z)(M:List J)(N:List (aa×J)):dj t (ss.under (.builtin "type.__call__" ⟨.ref G::M,N⟩)):=
 ⟨z.hd,by have:=z.dp;rw [Ji];lia,by have:=z.un;rw [Jj];lia⟩
def dj.depth(D:dj t ss):ss.depth<RO:=by have:=D.dp;lia
def dj.units(D:dj t ss):ss.units+64<cK:=by have:=D.un;lia
def jA:TA:=λ_ H z=>z [] H
def jB(A:TE)(D:TA):TA:=λz H G=>A z H λM N=>D z N λS T=>G (M::S) T
theorem aC:PA h [] jA:=λ_ _ _ _ H D z A=>uA ⟨[],H,z,.nil,A⟩
def A(G:PE h op sw)(M:PA h t0 IO)(N:cA (op::t0) h.env=(ao,eval op h.env)::cA t0 h.env:=by rfl):PA h (op::t0) (jB sw IO):=by intro pv z T D H n U a;rw [N];refine pX (aN (G z T D H _ U a) λu b ⟨c,d,f,g,X⟩=>?_);exact aN (M pv z b D d _ f X) λo p ⟨i,j,k,l,m⟩=>⟨c::i,j,k,.cons g l,m⟩
def qw(t:TA):TE:=λG H M=>t G H λA D=>A.length<=aU/\∀z,D z=O->M (.ref z) (upd D z (.tup A))
def Jk(t:TA):TE:=λG H M=>t G H λA D=>A.length<=aU/\∀z,D z=O->M (.ref z) (upd D z (.lst A))
def b6{x1}(M:PA h t0 IO):PE h (.Tuple t0 x1 pv) (qw IO):=by
 intro N T U H i a b;refine wpAny_Tuple_spliced (aN (M pv N T U H _ a b) λc z ⟨d,f,A,D,G,g⟩=>⟨D.length▸G,?_⟩);have X:=A.bf.fresh (aR _)
 exists .ref z.heap.objs.size,upd f z.heap.objs.size (.tup d),A.laid (t':=z.toks) (λj u op=>e8 _ op) (aR _) ?_,S,g _ X;exists G,c,D,⟨_,gB _ S,S,_,S⟩
def de(M:PA h t0 IO):PE h (.List t0 pv) (Jk IO):=by
 intro N T U H i a b;refine wpAny_List_spliced (aN (M pv N T U H _ a b) λc z ⟨d,f,A,D,G,g⟩=>⟨D.length▸G,?_⟩);have X:=A.bf.fresh (aR _)
 exists .ref z.heap.objs.size,upd f z.heap.objs.size (.lst d),A.laid (t':=z.toks) (λj u op=>e8 _ op) (aR _) ?_,S,g _ X;exists G,c,0,D,gB _ S
abbrev Sp:=List V->U->VK->XK->Prop
abbrev gj:=List dS->U->ak->XK->J->ak->Prop
structure mx(M:aw)(w:au)(K:af)(G:aa->Option J)(base:aD)(A:bZ)(outer:List dS)(z:ak)(H:U):Prop where
 frames:A.frames=Y outer
 mod:Mod K G base
 bs:∀D o,base.get? D=Y o->z.heap.get? D=Y o/\H D=O
 ip:base.objs.size<=z.heap.objs.size
 funs:z.heap.FunFrames base outer
 km:∀D∈ea outer,H D=O
 bf:dv M w H z.heap
 bare:jZ z.gens
def CE(G:List dS)(M:aw)(N:au)(H:U)(D:ak)(S:VK)(u:J)(z:ak):Prop:=
 ∃v A,z.os=D.os/\jZ z.gens/\Un (ea G) [] H A D.heap z.heap/\dv M N A z.heap/\RelV v u/\S v A
def CR(G:gj)(z:List dS)(M:aw)(N:au)(H:U)(A:ak)(S:VK)(T:XK)(a:Result)(D:ak):Prop:=
 match a with
 |.ok (.ret u)=>CE z M N H A S u D
 |.ok _=>False
 |.error b=>G z H A T b D
structure aV(S:aw)(w:au)(K:af)(G:aa->Option J)(base:aD)(a:gj)(k:Nat)(b:Z)(c:bc)(ps:List aa)(sp:Sp):Prop where
 len:∀z H D M,sp z H D M->z.length=ps.length
 run:∀(A:bZ) (outer:List dS) (N:ak) (H:U) (args:Args) (T:List J) (z:List V) (D:VK) (M:XK),dj k A->mx S w K G base A outer N H->rA N c args (ps.zip T)->Vals z T->sp z H D M->
  pV (aM S w) A (.call (.ref b) args) (CR a outer S w H N D M) N
variable{ST:List dS}
theorem mx.make{K:af}{H:U}(z:mx m p K L P ss ST B H)(a:Z)(b:List J)(c:List (aa×J)):mx m p K L P (ss.under (.builtin "type.__call__" ⟨.ref a::b,c⟩)) ST B H:=⟨by first|exact z.frames|(simpa [Gn,Code.envs,Gp,pushEnvs]using z.frames),z.mod,z.bs,z.ip,z.funs,z.km,z.bf,z.bare⟩
theorem Inv.Ap(z:Inv h pr py H B):mx h.prog h.w h.K h.G h.base h.A h.stack B H:=
 ⟨z.ok.frames,z.ok.mod,z.bs,cu z.ok.ip z.sz,z.stack,z.r4,z.bf,z.bare⟩
variable{Ps:ak}
def Inv.after{u:J}(A:Inv h pr py H B)(D:CE h.stack h.prog h.w H B KB u Ps):EP h pr py KB u Ps:=by let⟨v,G,M,N,T,U,a,b⟩:=D;let⟨c,d,e,f,g⟩:=Ps;obtain rfl:g=B.os:=M;exists v,G,A.call (h':=c) (g':=d) (d':=e) (t':=f) (ch:=[]) T U N (λi X=>absurd X (by simp)),a,b
def vP(z:Sp)(A:List V)(D:XK)(G:TA):TE:=λM H N=>G M H λS T=>z (S++A) T N D
inductive Jl (A:Z) (m:aa) (sp:Sp) (D:List V) (G:XK) (M:TA) (N:St) (S:VK) (x:V) (z:U):Prop
 |mk(a b fs:_)(_:x=.ref a)(_:z a=Y (.ins A b fs))(_:fs.lookup m=O)(_:M N z λT c=>sp (x::(T++D)) c S G)
def sh(A:Z)(D:aa)(G:Sp)(M:List V)(N:XK)(S:TE)(T:TA):TE:=λz H U=>S z H λa b=>Jl A D G M N T z U a b
def si(G:Z)(M:Sp)(N:List V)(S:XK)(T:TA):TE:=λU H a=>T U H λb D=>∀z A,D z=O->D A=O->A≠z->
 M (.ref z::(b++N)) (upd (upd D A (.own z)) z (.ins G A [])) (λv c=>v=.bw/\a (.ref z) c) S
def Binds(K:af)(M:bc)(A:List aa)(D:List J):Prop:=
 ∀(G:ak) (z:List J),K.In G.heap->(z++D).length=A.length->rA G M ⟨z,[]⟩ (A.zip (z++D))
variable{pc:bc}
theorem Binds.all{K:af}(M:∀z:List J,z.length=tz.length->y9 pc ⟨z,[]⟩=dA (tz.zip z)):Binds K pc tz []:=λN z _ G=>by rw [b0]at G⊢;exact .of_eq (M z G)
def Passes(M:gj)(z:Cx)(N:XK):Prop:=∀(S:List (Z×aL)) (T:St) (H:U) (A:ak) (D:J) (G:ak),Inv z S T H A->M z.stack H A N D G->z.xe D G
variable{Db:XK}{Fk:gj}{AT:Sp}
def vQ{H:U}{us:List J}{vs:List V}(T:aV h.prog h.w h.K h.G h.base Fk t d pc tz AT)(c:dj t h.A)(X:Binds h.K pc tz t1)(g:Vals ul t1)(z:Passes Fk h Db)(D:Inv h pr py H B) (S:Vals vs us) (a:AT (vs++ul) H KB Db):aI (aM h.prog h.w) h.A (gO (.ref d) us) (EP h pr py KB) h.xe B:=by
 have b:=S.append g;have i:(us++t1).length=tz.length:=b.length▸T.len _ _ _ _ a
 refine wpAny_call (za (T.run h.A h.stack B H ⟨us,[]⟩ (us++t1) (vs++ul) KB Db c D.Ap (X B us D.fb i) b a) λS j A=>?_);cases S with
 |error op=>exact z pr py H B op j D A
 |ok fl=>
  cases fl with
  |ret u=>exact D.after A
  |next=>exact g5 A
  |brk=>exact g5 A
  |cont=>exact g5 A
def Jm(D:aV h.prog h.w h.K h.G h.base Fk t d pc tz AT)(G:dj t h.A)(M:Gl h nw)(N:h.G nw=Y (.ref d))(T:kT h.K (.ref d)=I)(U:Binds h.K pc tz t1)(a:Vals ul t1)(b:Passes Fk h Db)(c:PA h (op::t0) IO) (X:(nw==("__debug__":aa))=ao:=by decide) (g:cA (op::t0) h.env=(ao,eval op h.env)::cA t0 h.env:=by rfl) (x:(fp pv (cA t0 h.env)).any (·.1)=ao:=by rfl):PE h (.Call (.Name nw wn) (op::t0) [] pv) (vP AT ul Db IO):=by intro i j l H s z n;refine uB (og z M N ?_ X);refine Gq (h₀:=h.base) z.ok.mod.qm T (aN (c pv i j l H _ z n) λu v ⟨w,y,A,q,r⟩=>⟨A.fb,?_⟩) g x;exact vQ D G U a b A q r
section
variable {X:Cx} {CX:gj} {k:Nat} {f C:Z} {fd:bc} {ps:List aa} {sp:Sp} {gU:List V} {ds:List J} {E:XK} {x m:aa} {p pos fx:b2} {e o:a7} {es:List a7} {ta:TE} {t:TA}
def Jn{pl:fC Bool}(a:PE X o ta)(c:fc X.K C)(A:Meth X.K C m f)(b:aV X.prog X.w X.K X.G X.base CX k f fd ps sp)(d:dj k X.A)(g:Binds X.K fd ps ds)(h:Vals gU ds)(i:Passes CX X E)(j:PA X (e::es) t)(l:cA (e::es) X.env=(ao,eval e X.env)::cA es X.env:=by rfl) (n:(fp pos (cA es X.env)).any (·.1)=ao:=by rfl)(q:eval (.Call (.Attribute o m fx) (e::es) [] pos) X.env=(do
   let D<-eval o X.env
   pQ fx.atName
   let(f,first)<-nF [D] (pU D m pl)
   rz pos f first (fp pos (cA (e::es) X.env)) (l3 pos (l4 [] X.env))):=by rfl):
  PE X (.Call (.Attribute o m fx) (e::es) [] pos) (sh C m sp gU E ta t):=by
 intro G r M H ab N s;refine Gm (pl:=pl) (aN (a G r M H _ N s) λu v ⟨x,w,T,y,z,ad,al,B,F,K,L⟩=>?_) q;subst B;obtain rfl:u=cp z:=y;refine vL T F c A K ?_;refine Gq (first:=[.ref z]) (h₀:=X.base) N.ok.mod.qm A.kp (aN (j pos G v M w _ T L) λP am ⟨Q,an,U,R,V⟩=>⟨U.fb,?_⟩) l n;exact vQ (us:=.ref z::P) (vs:=.ref z::Q) b d g h i U (.cons S R) V
def Jo{pl:fC Bool}(M:PE X o ta)(c:fc X.K C)(D:Meth X.K C m f)(N:aV X.prog X.w X.K X.G X.base CX k f fd ps sp)(T:dj k X.A)(U:Binds X.K fd ps ds)(a:Vals gU ds)(b:Passes CX X E)(d:eval (.Call (.Attribute o m fx) [] [] pos) X.env=(do
   let G<-eval o X.env
   pQ fx.atName
   let(f,first)<-nF [G] (pU G m pl)
   rz pos f first (fp pos (cA [] X.env)) (l3 pos (l4 [] X.env))):=by rfl):
  PE X (.Call (.Attribute o m fx) [] [] pos) (sh C m sp gU E ta jA):=by
 intro g h i H w j l;refine Gm (pl:=pl) (aN (M g h i H _ j l) λu y ⟨x,B,A,n,z,F,K,q,r,s,v⟩=>?_) d;subst q;obtain rfl:u=cp z:=n;refine vL A r c D s ?_;exact RQ (first:=[.ref z]) A.fb D.kp (vQ (us:=[.ref z]) (vs:=[.ref z]) N T U a b A (.cons S .nil) v)
end
structure Mk(K:af)(d q:Z):Prop where
 makes:Gj K d=I
 init:j1 K (.ref d) "__init__"=Y (Y (.ref q))
 fn:uy K (.ref q)=I
 kp:kT K (.ref d)=I
def Aq{H:U}{us:List J}(b:Mk h.K C f)(g:aV h.prog h.w h.K h.G h.base Fk t f pc tz AT)(j:dj (t+1) h.A)(l:Binds h.K pc tz t1)(n:Vals V7 t1)(q:Passes Fk h Db) (D:Inv h pr py H B) (c:Vals ul us)(r:∀nw G,H nw=O->H G=O->G≠nw->AT (.ref nw::(ul++V7)) (upd (upd H G (.own nw)) nw (.ins C G [])) (λv s=>v=.bw/\KB (.ref nw) s) Db):aI (aM h.prog h.w) h.A (gO (.ref C) us) (EP h pr py KB) h.xe B:=by
 have z:=r (B.heap.objs.size+1) B.heap.objs.size (D.bf.fresh (Nat.le_succ _)) (D.bf.fresh (aR _)) (fB (pW _));have M:=Inv.made (C:=C) D
 have i:Vals (V.ref (B.heap.objs.size+1)::(ul++V7)) (cp (B.heap.objs.size+1)::(us++t1)):=.cons S (c.append n);have w:(cp (B.heap.objs.size+1)::us++t1).length=tz.length:=by have op:=i.length;rw [g.len _ _ _ _ z]at op;exact op.symm
 refine wpAny_call (I9 (f:=f) D.fb b.makes b.init (iM.mp b.fn) (za (g.run _ h.stack _ _ ⟨cp (B.heap.objs.size+1)::us,[]⟩ (cp (B.heap.objs.size+1)::(us++t1)) _ _ Db (j.make C us []) (M.Ap.make C us []) (l _ (cp (B.heap.objs.size+1)::us) M.fb w) i z) λc y A=>?_));cases c with
 |error op=>exact q pr py _ _ op y M A
 |ok fl=>
  cases fl with
  |ret u=>
   let⟨v,X,F,K,L,P⟩:=M.after A;subst L;exists K,⟨V.ref (B.heap.objs.size+1),X,F,S,P⟩
  |next=>exact g5 A
  |brk=>exact g5 A
  |cont=>exact g5 A
def Jp(A:Mk h.K d q)(G:aV h.prog h.w h.K h.G h.base Fk t q pc tz AT)(M:dj (t+1) h.A)(N:Gl h nw)(T:h.G nw=Y (.ref d))(U:Binds h.K pc tz t1)(a:Vals ul t1)(b:Passes Fk h Db)(c:PA h (op::t0) IO) (X:(nw==("__debug__":aa))=ao:=by decide) (g:cA (op::t0) h.env=(ao,eval op h.env)::cA t0 h.env:=by rfl) (x:(fp pv (cA t0 h.env)).any (·.1)=ao:=by rfl):PE h (.Call (.Name nw wn) (op::t0) [] pv) (si d AT ul Db IO):=by intro i j l H s z n;refine uB (og z N T ?_ X);refine Gq (h₀:=h.base) z.ok.mod.qm A.kp (aN (c pv i j l H _ z n) λu v ⟨w,y,D,e,r⟩=>⟨D.fb,?_⟩) g x;exact Aq A G M U a b D e r
def Jq(A:Mk h.K d q)(D:aV h.prog h.w h.K h.G h.base Fk t q pc tz AT)(G:dj (t+1) h.A)(M:Gl h nw)(N:h.G nw=Y (.ref d))(S:Binds h.K pc tz t1)(T:Vals ul t1)(U:Passes Fk h Db)(a:(nw==("__debug__":aa))=ao:=by decide):PE h (.Call (.Name nw pv) [] [] wn) (si d AT ul Db jA):=by intro c X g H x z b;refine uB (og z M N ?_ a);exact RQ z.fb A.kp (Aq (us:=[]) A D G S T U z .nil b)
structure oo(N A:List aa)(z:eA):Prop where
 kind:z.kind=.function
 co:z.isCoroutine=ao
 gen:z.isGenerator=ao
 nd:N.Nodup
 pre:N.take A.length=A
 par:∀x∈A,z.names.lookup x=Y .local\/z.names.lookup x=Y .cell
 Jr:∀y∈z.names,y.2≠.free
variable{Uf:aa->Option ht}
theorem Ar:∀{D:List (aa×J)} {A:aa->Option J},(∀v,(nw,v)∉D)->l5 Uf D A nw=A nw
 |[],_,_=>rfl
 |(n,v)::b,A,a=>by
  unfold l5;rw [Ar λM hw=>a M (bC _ hw)];split
  .have:nw≠n:=by rintro rfl;exact a v bE
   simp [this]
  .rfl
theorem As:∀{D:List (aa×J)} {A:aa->Option J},(∀v,(nw,v)∉D)->l6 Uf D A nw=A nw
 |[],_,_=>rfl
 |(n,v)::b,A,a=>by
  unfold l6;rw [As λM hw=>a M (bC _ hw)];split
  .rfl
  .have:nw≠n:=by rintro rfl;exact a v bE
   simp [this]
theorem Au{v:J}:∀{z:List aa} {A:List J} {i:Nat} {D:aa->Option J},z.Nodup->z[i]?=Y nw->A[i]?=Y v->Uf nw=Y .local->l5 Uf (z.zip A) D nw=Y v
 |[],_,_,_,_,c,_,_=>by simp at c
 |_::_,[],_,_,_,_,c,_=>by simp at c
 |p::z,w::A,0,D,nd,a,b,d=>by
  simp at a b;subst a;subst b;show l5 Uf ((p,w)::z.zip A) D p=_
  unfold l5;rw [Ar λv N=>(eh.mp nd).1 (Gr N).1,ai d];simp
 |p::z,w::A,i+1,D,nd,a,b,d=>by show l5 Uf ((p,w)::z.zip A) D nw=_;unfold l5;exact Au (i:=i) (eh.mp nd).2 (by simpa using a) (by simpa using b) d
theorem Av{v:J}:∀{z:List aa} {A:List J} {i:Nat} {D:aa->Option J},z.Nodup->z[i]?=Y nw->A[i]?=Y v->Uf nw≠Y .local->l6 Uf (z.zip A) D nw=Y v
 |[],_,_,_,_,c,_,_=>by simp at c
 |_::_,[],_,_,_,_,c,_=>by simp at c
 |p::z,w::A,0,D,nd,a,b,d=>by
  simp at a b;subst a;subst b;show l6 Uf ((p,w)::z.zip A) D p=_
  unfold l6;rw [As λv S=>(eh.mp nd).1 (Gr S).1,N d];simp
 |p::z,w::A,i+1,D,nd,a,b,d=>by show l6 Uf ((p,w)::z.zip A) D nw=_;unfold l6;exact Av (i:=i) (eh.mp nd).2 (by simpa using a) (by simpa using b) d
def start(A:List aa)(z:List V):St:=z.map Y++Gu (A.length-z.length) O
def hh(T:gj)(a:aw)(b:au)(K:af)(f:aa->Option J)(g:aD)(h:List aa)(A:aa)(D:eA)(G:Z)(M:J)(c:bZ)(N:List dS)(z:ak)(H:U)(d:XK):Cx where
 prog:=a
 w:=b
 K:=K
 G:=f
 base:=g
 A:=c.deeper (eI A D z.heap.objs.size G M)
 N:=h
 d9:=z
 jx:=H
 env:=eI A D z.heap.objs.size G M
 outer:=N
 stack:=eI A D z.heap.objs.size G M::N
 ex:=[]
 calm:=I
 fn:=λ_=>I
 pn:=[]
 xe:=λe i=>aI (aM a b) (c.deeper (eI A D z.heap.objs.size G M)) (Gv (eI A D z.heap.objs.size G M) e) (λ_ S=>T N H z d e S) (λj S=>T N H z d j S) i
theorem xK{K:af}{a:eA}{c:J}{H:U}:(hh Fk m p K L P tz nw a d c ss ST B H Db).K=K:=rfl
theorem xP{K:af}{a:eA}{c:J}{H:U}:(hh Fk m p K L P tz nw a d c ss ST B H Db).prog=m:=rfl
theorem xW{K:af}{a:eA}{c:J}{H:U}:(hh Fk m p K L P tz nw a d c ss ST B H Db).w=p:=rfl
def Aw{z:eA}{n:Nat}(D:z.names.lookup nw=Y .cell):∃c,(fE n z.names []).lookup nw=Y c:=by exact rB.mp (Gw z.names n [] (.inl D))
variable{Sc:List aa}{wp:J}
def Js{K:af}{o:aa}{T:eA}{H:U}(N:oo Sc tz T) (am:ss.handled=O) (D:mx m p K L P ss ST B H) (a1:ul.length=tz.length) (an:Vals ul t1)(e:InCallC B B.heap.objs.size (l5 (eI o T B.heap.objs.size d wp).kindOf (tz.zip t1) λ_=>O) (fE (B.heap.objs.size+1) T.names []) (l6 (eI o T B.heap.objs.size d wp).kindOf (tz.zip t1) λ_=>O) Ps):Inv (hh Fk m p K L P Sc o T d wp ss ST B H Db) [] (start Sc ul) H Ps:=by
 have a2:tz.length<=Sc.length:=by have:=bD cN N.pre;rw [dU]at this;lia
 let⟨F,a3,rfl,X⟩:=e.done;have G:∀M:Z,M∉(hh Fk m p K L P Sc o T d wp ss ST B H Db).ex:=λM h=>absurd (show M∈([]:List Z)from h) (by simp)
 exists ⟨D.mod,N.kind,S,S,aR _,λy h c F A=>?_,λy f=>?_,λy c _ j=>?_,λ_=>am,Around.frames_deeper D.frames,.inr ⟨S,S⟩,λM h=>absurd h (G M),D.bs,D.ip,λM _ _=>G M,λM h=>absurd h (G M),D.funs,D.km⟩,rfl,D.bare,Un.kept X,⟨_,e.toInCall.ns,λk y v F A a4=>?_⟩,λy c j=>⟨_,e.cell y c j⟩,D.bf.fresh (aR _),λy c j=>?_,λap l=>absurd (show ap∈([]:List (Z×aL))from l) (by simp),D.bf.kept X,?_
 .exact name_of_addr e.apart (hO F) (hO A)
 .have f:=f;rcases f with f|f
  .exact Aw f
  .exact absurd rfl (N.Jr _ (hO f))
 .exact y1 (e.above y c (hO j))
 .have s:k<ul.length:=by
   unfold start at A;by_cases s:k<ul.length
   .exact s
   .rw [hu (by simpa using s)]at A;rw [RR]at A;split at A<;>cases A
  have as:ul[k]?=Y v:=by
   unfold start at A;rw [uC (by simpa using s),bh]at A;cases b:ul[k]? with
   |none=>rw [b]at A;cases A
   |some a=>rw [b]at A;cases A<;>rfl
  let⟨u,ab,a0⟩:=an.get as;have l:tz[k]?=Y y:=by rwa [<-N.pre,List.getElem?_take_of_lt (by lia)]
  have ad:tz.Nodup:=N.pre▸N.nd.sublist (List.take_sublist _ _);exists u,a0,?_;rcases N.par y (cG l)with i|i
  .exact .inl ⟨i,Au ad l ab i⟩
  .obtain⟨c,b⟩:=Aw (n:=B.heap.objs.size+1) i;refine .inr ⟨.inl i,c,b,?_⟩;have al:=e.cell y c b
   rw [Av ad l ab (by show T.names.lookup y≠_;rw [i];decide)]at al;exact al
 .exact D.bf.fresh (y1 (e.above y c (hO j)))
 .unfold start;show _=Sc.length
  rw [br,z,RT]
  lia
variable{Pv VN VO VP V0:J}{P3 VX:Option Z}{V3:Array (Option J)}
def Ax{K:af}{a:Arguments}{A:eA}{a2:J} {c:List aa}  (lk:K.lookup d=Y ⟨a2,VX,.func (nH FS nw a Os A Pv VN VO VP P3 wp V0),V3⟩) (a5:rC K wp nw=I) (k:oo c tz A)(am:∀D H G M,AT D H G M->D.length=tz.length)(bd:∀(e:bZ) (f:List dS) (N:ak) (H:U) (D:List V) (G:VK) (M:XK),dj t (e.deeper (eI nw A N.heap.objs.size d wp))->AT D H G M->∃x,gi (hh Fk m p K L P c nw A d wp e f N H M) Os x/\x (Ends.fn G) (start c D) H):aV m p K L P Fk (t+1) d (nH FS nw a Os A Pv VN VO VP P3 wp V0) tz AT:=by
 exists am,λe f N H args be D G M B l bi bk an=>?_;have ap:=l.mod.qm.keeps λC o r=>(l.bs C o r).1
 have bl:=l.mod.nolimit.keeps λC o r=>(l.bs C o r).1;have bm:∀y∈tz.zip be,A.names.lookup y.1=Y .local\/(A.names.lookup y.1=Y .cell/\((fE (N.heap.objs.size+1) A.names []).lookup y.1).isSome=I):=λ⟨bn,v⟩ bs=>by
  rcases k.par bn (Gr bs).1 with z|z
  .exact .inl z
  .exact .inr ⟨z,Gw _ _ _ (.inl z)⟩
 refine codeAny_call_function B.depth (ap _ _ lk) S k.co k.gen S (PySem.W.codeRec_of ap a5) (bi _ _ _ _ ?_);refine wpAny_newFunctionEnv_cells k.kind bm λch bt as a0=>?_;subst bt;exists bl.keeps a0.toInCall.keep,codeAny_func ?_;let⟨x,bv,ca⟩:=bd e f N H D G M (B.deeper _) an;have cd:Inv (hh Fk m p K L P c nw A d wp e f N H M) [] (start c D) H as:=Js k B.hd l (am _ _ _ _ an) bk a0
 refine g4 (bv [] as (start c D) H _ cd ca) (λce E g=>?_) λr E g=>g;have a1:∀{s:St} {h:U} {v:V} {u:J},Inv (hh Fk m p K L P c nw A d wp e f N H M) [] s h E->RelV v u->G v h->CE f m p H N G u E:=
  λ{s h v u} T F z=>⟨v,h,T.os,T.bare,T.base,T.bf,F,z⟩
 cases ce with
 |ret u=>
  let⟨v,s,h,T,F,z⟩:=g;exact a1 T F z
 |next=>
  let⟨s,h,T,z⟩:=g;exact a1 (v:=V.bw) (u:=kQ) T S z
 |brk=>
  let⟨_,_,_,z⟩:=g;exact g5 z
 |cont=>
  let⟨_,_,_,z⟩:=g;exact g5 z
def Ay(r:List V->U->VK->Prop)(t:TA):TE:=λz H A=>t z H λD G=>r D G A
variable{EQ:String}{Wv:List V->U->VK->Prop}
def cR(G:hA h (.builtin EQ) Wv)(M:Gl h nw)(N:h.G nw=O)(U:uo nw=Y (.builtin EQ))(a:PA h (op::t0) IO)(b:nw≠"__name__":=by decide)(c:(nw==("__debug__":aa))=ao:=by decide)(d:cA (op::t0) h.env=(ao,eval op h.env)::cA t0 h.env:=by rfl) (f:(fp pv (cA t0 h.env)).any (·.1)=ao:=by rfl):PE h (.Call (.Name nw wn) (op::t0) [] pv) (Ay Wv IO):=by intro z g A H X D i;refine uB (r5 D M N U ?_ b c);exact UN (aN (a pv z g A H _ D i) λj k ⟨l,m,n,o,q⟩=>G z k A m l j X n o q) d f
def sj(G:hA h (.type EQ) Wv)(M:Gl h nw)(N:h.G nw=O)(U:uo nw=Y (.type EQ))(a:PA h (op::t0) IO)(b:nw≠"__name__":=by decide)(c:(nw==("__debug__":aa))=ao:=by decide)(d:cA (op::t0) h.env=(ao,eval op h.env)::cA t0 h.env:=by rfl) (f:(fp pv (cA t0 h.env)).any (·.1)=ao:=by rfl):PE h (.Call (.Name nw wn) (op::t0) [] pv) (Ay Wv IO):=by intro z g A H X D i;refine uB (r5 D M N U ?_ b c);exact Ge (aN (a pv z g A H _ D i) λj k ⟨l,m,n,o,q⟩=>G z k A m l j X n o q) d f
end L2
namespace HT
def gk(z D:Nat):Option Int->Nat
 |none=>D
 |some v=>if v<0 then(v+(z:Int)).toNat else min v.toNat z
def sk(D G z:Nat):gk D G (Y (z:Int))=min z D:=by show(if(z:Int)<0 then((z:Int)+(D:Int)).toNat else min (z:Int).toNat D)=min z D;rw [N (by lia),uD]
end HT
namespace L2
abbrev TO:=St->U->(Option Int->U->Prop)->Prop
def PO(z:Cx)(S:Option a7)(T:TO):Prop:=
 ∀(D:List (Z×aL)) (G:ak) (A:St) (H:U) (M:Option Int->U->Prop),Inv z D A H G->T A H M->
  aI (aM z.prog z.w) z.A (evalPart S z.env) (λu a=>∃o N,Inv z D A N a/\IsPart u o/\M o N) z.xe G
def Jt:TO:=λ_ H z=>z O H
def Ju(A:TE):TO:=λD H G=>A D H λM N=>∃z,M=.int z/\G (Y z) N
variable{h:Cx}
def sl:PO h O Jt:=by intro D G M H N z A;rw [RU];exact bu ⟨O,H,z,.none,A⟩
variable{op:a7}{sw:TE}
def oq(A:PE h op sw):PO h (Y op) (Ju sw):=by intro D G M H f N hw;rw [evalPart_some];refine aN (A D G M H _ N hw) λu g ⟨X,T,U,a,b⟩=>?_;let⟨z,rfl,c⟩:=b;let⟨d,rfl⟩:=a;exists Y z,T,U,.int z d,c
variable{Wp Wq:Option a7}
def Az(X:Cx)(b:V->Option Int->Option Int->U->VK->Prop):Prop:=
 ∀(A:List (Z×aL)) (z:ak) (D:St) (H:U) (G:V) (v M N:J) (Wp Wq:Option Int) (S:Z) (T:VK),Inv X A D H z->RelV G v->z.heap.IsSliceOf S M N .none->IsPart M Wp->IsPart N Wq->b G Wp Wq H T->
  ∃a c,Gx (.type a) "__getitem__"=dA (Y (.builtin c))/\z.TypeIs v a/\aI (aM X.prog X.w) X.A (nJ v (.ref S)) (EP X A D T) X.xe z
def Jv(A:V->Option Int->Option Int->U->VK->Prop)(te:TE)(tl th:TO):TE:=λz H D=>te z H λG M=>tl z M λN S=>th z S λu T=>A G N u T D
variable{pv wn:b2}
def qx{tl th:TO}{N:V->Option Int->Option Int->U->VK->Prop}(a:Az h N)(b:PE h op sw)(c:PO h Wp tl)(d:PO h Wq th):PE h (.Subscript op (.Slice Wp Wq O wn) pv) (Jv N sw tl th):=by
 intro A f D H g X i;refine Gy (aN (b A f D H _ X i) λv j ⟨k,l,m,n,o⟩=>?_);refine wpAny_Slice (aN (c A j D l _ m o) λG p ⟨q,r,s,t,w⟩=>aN (d A p D r _ s w) λM z ⟨u,T,x,y,B⟩=>?_);rw [RU];refine bu ?_;have C:Inv h A D T {z with heap:=z.heap.push {cls:=.type "slice",data:=.fields #[G,M,.none]}}:=x.kept (t':=z.toks) λP Q E=>e8 _ E
 let⟨R,W,F,K,L⟩:=a A {z with heap:=z.heap.push {cls:=.type "slice",data:=.fields #[G,M,.none]}} D T k v G M q u z.heap.objs.size g C n (UO ..) t y B;exact tail_any (ops:=[.ref z.heap.objs.size,v]) K F L (by with_unfolding_all rfl)
def gH(z:List V)(lo hi:Option Int):List V:=(z.drop (HT.gk z.length 0 lo)).take (HT.gk z.length z.length hi-HT.gk z.length 0 lo)
def Jw(z:List V)(lo hi:Option Int):(gH z lo hi).length<=z.length:=by
 unfold gH;rw [dU,l7]
 lia
def lq(A:Nat)(z:Int):Option Nat:=if 0<=z then(if z<A then Y z.toNat else O)else if-(A:Int)<=z then Y (z+A).toNat else O
variable{sK:Type}
def kr(A:List sK)(D:Int):Option sK:=(lq A.length D).bind λG=>A[G]?
variable{t wP:Nat}{v0:Int}
def Jx(z:lq t v0=Y wP):seqIndex? v0 t=Y wP/\wP<t/\ -(t:Int)<=v0/\v0<t:=by
 unfold lq at z;by_cases S:0<=v0
 .rw [ai S]at z;by_cases A:v0<t
  .rw [ai A]at z;have T:=aS z
   exists by rw [seqIndex_of S A,T],by lia,by lia,A
  .rw [N A]at z;cases z
 .rw [N S]at z;by_cases A: -(t:Int)<=v0
  .rw [ai A]at z;have T:=aS z
   exact⟨by rw [seqIndex_neg (by lia) A,T],by lia,A,by lia⟩
  .rw [N A]at z;cases z
def vR{z:List sK}{v:sK}(D:kr z v0=Y v):∃G,seqIndex? v0 z.length=Y G/\z[G]?=Y v/\G<z.length/\ -(z.length:Int)<=v0/\v0<z.length:=by
 unfold kr at D;cases a:lq z.length v0 with
 |none=>rw [a]at D;cases D
 |some G=>
  rw [a]at D;let⟨N,S,T,U⟩:=Jx a;exists G,N,D,S,T,U
def e2{z:List sK}{j:Nat}{v:sK}(D:z[j]?=Y v):kr z (j:Int)=Y v:=by
 have M:=(cF.mp D).1;have G:lq z.length (j:Int)=Y j:=by unfold lq;rw [ai (by lia),ai (by lia)];simp
 unfold kr;rwa [G]
def vS(z:List sK)(v:sK):kr (z++[v]) (-1)=Y v:=by
 have D:(z++[v]).length=z.length+1:=by simp
 have G:lq (z++[v]).length (-1)=Y z.length:=by
  unfold lq;rw [D,N (by decide),ai (by lia)];congr 1
  lia
 unfold kr;rw [G];simp
def Jy(A:a7):Prop:=∀o z,zb A ao o z=Gz [o,z] (nJ o z)
def qy(z:Cx)(T:R2):Prop:=
 ∀(a A:a7) (D:List (Z×aL)) (G:ak) (M:St) (H:U) (N y:V) (v u:J) (S:VK),Inv z D M H G->RelV N v->RelV y u->T N y H S->
  zb A ao v u=Gz [v,u] (nJ v u)->aI (aM z.prog z.w) z.A (RV a A v u) (EP z D M S) z.xe G
def lr(z:Cx)(a:String)(b:V->List V->U->VK->Prop):Prop:=
 ∀(A:List (Z×aL)) (D:ak) (G:St) (H:U) (M:V) (N:List V) (v:J) (S:List J) (T:VK),Inv z A G H D->RelV M v->Vals N S->b M N H T->
  aI (aM z.prog z.w) z.A (gO (.builtin a) (v::S)) (EP z A G T) z.xe D
variable{s2:a7}{Tm:R2}{zn:TE}
def cc(A:qy h Tm)(D:PE h s2 sw)(G:PE h op zn)(M:Jy op):PE h (.Subscript s2 op pv) (sb Tm sw zn):=by intro N k S H T U c;exact Gy (vC D G U c λv u d e y f g X i j=>A s2 op N d S f e y v u T g X i j (M _ _))
inductive Jz (K:af) (x:V) (y:V) (H:U) (z:VK):Prop
 |mk(p xs i v:_)(_:x=.ref p)(_:y=.int i)(_:av K H p xs)(_:kr xs i=Y v)(_:z v H)
inductive AA (K:af) (x:V) (y:V) (H:U) (z:VK):Prop
 |mk(p xs i v:_)(_:x=.ref p)(_:y=.int i)(_:ax K H p xs)(_:kr xs i=Y v)(_:z v H)
inductive JA (x:V) (y:V) (H:U) (A:VK):Prop
 |mk(z i c:_)(_:x=.str z)(_:y=.int i)(_:z.length<=aU)(_:kr z.cps.toList i=Y c)(_:A (.str ⟨#[c]⟩) H)
def dk:qy h (Jz h.K):=by
 intro E F T j U H K y v u c d k l m e;let⟨L,P,D,n,rfl,rfl,o,p,q⟩:=m;cases k;let⟨Q,rfl⟩:=l;let⟨r,z,G,R⟩:=d.list o;let⟨f,A,s,V,t,w⟩:=vR p;let⟨M,g,x⟩:=z.get s;have B:=z.length
 have W:=om;have X:EP h T U c M j:=⟨n,H,d,x,q⟩
 by_cases i:0<=D
 .have N:D.toNat=f:=by
   rw [seqIndex_of i w]at A;exact aS A
  exact item_listR G.isList i (by lia) (by rw [N];simpa using g) X e
 .have N:(D+(r.toArray.size:Int)).toNat=f:=by
   rw [seqIndex_neg (by lia) t]at A;rw [eZ,<-B];exact aS A
  exact RW (x:=M) G.isList.typeIs RY.lookup
   (wpAny_getItem_list_neg (Q:=λz C=>z=M/\EP h T U c z C) G.isList (by lia) (by rw [eZ]<;>lia) (by lia) (by rw [N];simpa using g) ⟨S,X⟩) e
def ku:qy h (AA h.K):=by
 intro r s D U G H t y v u M N c d e f;let⟨w,x,B,g,rfl,rfl,X,i,j⟩:=e;cases c;let⟨C,rfl⟩:=d;let⟨E,z,T,F⟩:=N.tuple X;let⟨k,l,m,K,L,P⟩:=vR i;let⟨A,n,o⟩:=z.get m;have Q:=om
 have p:EP h D G M A U:=⟨g,H,N,o,j⟩
 exact RW (x:=A) T.typeIs slot_tuple_getitem.lookup
  (getItem_tuple (j:=k) (Q:=λz q=>z=A/\EP h D G M z q) T (by lia) (by lia) (by rw [eZ,<-z.length];exact l) (by simpa using n) ⟨S,p⟩) f
def JB:qy h JA:=by
 intro n o p G q H r y v u s M N T U d;let⟨z,A,c,rfl,rfl,t,e,f⟩:=U;let⟨g,rfl⟩:=N;let⟨w,rfl⟩:=T;let⟨x,D,X,B,i,j⟩:=vR e;have k:z.cps.toList.length=z.length:=by simp [Str.length]
 rw [k]at D i j;have C:=om
 exact tail_any (zc G z g) slot_str_getitem.lookup (getItem_str (c:=c) (by
  have l:decide (A< -(2^63:Int))=ao:=bU (by lia);have m:decide (A>=2^63)=ao:=bU (by lia)
  rw [l,m,Bool.or_false]) (by rw [D];simpa using X) ⟨.str ⟨#[c]⟩,H,M.tok _,⟨_,S⟩,f⟩) d
def JC(A D:Option Int)(z:Nat):(pY A D O z).1=((HT.gk z 0 A:Nat):Int)/\(pY A D O z).2.1=((HT.gk z z D:Nat):Int)/\(pY A D O z).2.2=1:=by
 exists ?_,?_,S
 .cases A with
  |none=>simp [pY,HT.gk]
  |some i=>
   simp only [pY,HT.gk,RZ,show(1:Int)>0 by decide,eQ];by_cases G:i<0
   .simp only [G,eQ]<;>lia
   .simp only [G,ie]<;>lia
 .cases D with
  |none=>simp [pY,HT.gk]
  |some i=>
   simp only [pY,HT.gk,RZ,show(1:Int)>0 by decide,eQ];by_cases G:i<0
   .simp only [G,eQ]<;>lia
   .simp only [G,ie]<;>lia
def JD(z:List J)(A D:Option Int):slicePick z.toArray A D O=((z.drop (HT.gk z.length 0 A)).take (HT.gk z.length z.length D-HT.gk z.length 0 A)).toArray:=by let⟨G,M,N⟩:=JC A D z.toArray.size;unfold slicePick;rw [G,M,N];simp only [sliceRange_one,pick_run,eZ]<;>rfl
inductive JE (K:af) (x:V) (z:Option Int) (A:Option Int) (H:U) (D:VK):Prop
 |mk(op xs:_)(_:x=.ref op)(_:av K H op xs)(_:∀p,H p=O->D (.ref p) (upd H p (.lst (gH xs z A))))
def qz:Az h (JE h.K):=by
 intro k N l H m v n p A D q r G c d e f g;let⟨op,z,rfl,X,M⟩:=g;cases c;let⟨s,T,U,i⟩:=G.list X;have j:=T.length
 exists "list",_,RY.lookup,U.isList.typeIs,?_;refine wpAny_getItem_list_slice U.isList d e f .none (by simp) ?_ (by rw [eZ]<;>lia);rw [JD,<-j];exists .ref N.heap.objs.size,_,G.laid (t':=N.toks) (o:=.lst (gH z A D)) (λs2 t M=>e8 _ M) (aR _) ?_,S,M _ (G.bf.fresh (aR _));exists cu (Jw z A D) i,_,0,(T.drop (HT.gk z.length 0 A)).take (HT.gk z.length z.length D-HT.gk z.length 0 A),gB _ S
def jC:V->Bool
 |.bw=>I
 |.bl _=>I
 |.int _=>I
 |.str _=>I
 |_=>ao
def jD:V->V->Bool
 |.bw,.bw=>I
 |.bl op,.bl s2=>op==s2
 |.bl op,.int s2=>(if op then 1 else 0)==s2
 |.int op,.bl s2=>op==(if s2 then 1 else 0)
 |.int op,.int s2=>op==s2
 |.str op,.str s2=>op==s2
 |_,_=>ao
variable{v1:V}{ss:bZ}{B:ak}
def JF{y:V}{u v:J}(M:RelV y u)(z:RelV v1 v)(c:jC y=I)(N:jC v1=I):R0 ss B u v (jD y v1):=by
 cases y with
 |bw=>
  cases M;cases v1 with
  |bw=>cases z;exact UP _
  |bl op=>cases z;exact UQ op
  |int op=>let⟨A,rfl⟩:=z;exact UR op A
  |str op=>let⟨A,rfl⟩:=z;exact US op A
  |_=>exact absurd (show ao=I from N) d5
 |bl s2=>
  cases M;cases v1 with
  |bw=>cases z;exact UT s2
  |bl op=>cases z;exact UU s2 op
  |int op=>let⟨A,rfl⟩:=z;exact UW s2 op A
  |str op=>let⟨A,rfl⟩:=z;exact UX s2 op A
  |_=>exact absurd (show ao=I from N) d5
 |int s2=>
  let⟨D,rfl⟩:=M;cases v1 with
  |bw=>cases z;exact UY s2 D
  |bl op=>cases z;exact UZ s2 D op
  |int op=>let⟨A,rfl⟩:=z;exact U0 s2 D op A
  |str op=>let⟨A,rfl⟩:=z;exact Rr s2 D op A
  |_=>exact absurd (show ao=I from N) d5
 |str s2=>
  let⟨D,rfl⟩:=M;cases v1 with
  |bw=>cases z;exact U1 s2 D
  |bl op=>cases z;exact U2 s2 D op
  |int op=>let⟨A,rfl⟩:=z;exact Rt s2 D op A
  |str op=>let⟨A,rfl⟩:=z;exact U3 s2 D op A
  |_=>exact absurd (show ao=I from N) d5
 |_=>exact absurd (show ao=I from c) d5
def hj(z:V)(u:J):Bool:=match u with
 |.none=>jD .bw z
 |.bool op=>jD (.bl op) z
 |.int i _=>jD (.int i) z
 |.str c _=>jD (.str c) z
 |_=>ao
def AB{y:V}{u:J}(z:RelV y u)(D:jC y=I):hj v1 u=jD y v1:=by
 cases y with
 |bw=>cases z;rfl
 |bl op=>cases z;rfl
 |int i=>let⟨G,rfl⟩:=z;rfl
 |str c=>let⟨G,rfl⟩:=z;rfl
 |_=>exact absurd (show ao=I from D) d5
theorem qA:∀{z:List V} {A:List J},Vals z A->z.all jC=I->A.any (hj v1)=z.any λy=>jD y v1
 |_,_,.nil,_=>rfl
 |y::z,u::A,.cons d e,c=>by rw [iN,bx]at c;rw [uE,uE,AB d c.1,qA e c.2]
theorem qB{v:J}(M:RelV v1 v)(N:jC v1=I):∀{D:List V} {G:List J},Vals D G->D.all jC=I->∀u∈G,R0 ss B u v (hj v1 u)
 |_,_,.nil,_=>λu z=>by cases z
 |y::D,u::G,.cons d e,c=>λf z=>by
  rw [iN,bx]at c;rcases bg.mp z with rfl|z
  .rw [AB d c.1];exact JF d M c.1 N
  .exact qB M N e c.2 f z
def jE(z:V)(A:List V):Bool:=A.any λy=>jD y z
inductive vT (K:af) (z:Bool) (x:V) (y:V) (H:U) (A:VK):Prop
 |mk(p xs:_)(_:y=.ref p)(_:(av K H p xs\/ax K H p xs))(_:jC x=I)(_:xs.all jC=I)(_:A (.bl (if z then !jE x xs else jE x xs)) H)
def vU:eD h (fD .In) (vT h.K ao):=by
 intro X i j H z y v u k M c e f;let⟨l,m,rfl,A,d,N,n⟩:=f;cases e;rcases A with A|A
 .obtain⟨D,G,T,g⟩:=M.list A;refine SeqAt.in_listAt (hj z) T.isList (λU hw=>qB c d G N U (by simpa using hw)) ⟨.bl _,H,M,S,?_⟩;rwa [show D.toArray.any (hj z)=D.any (hj z)by simp,qA G N]
 .obtain⟨D,G,T,g⟩:=M.tuple A;refine SeqAt.in_tupleAt (hj z) T (λU hw=>qB c d G N U (by simpa using hw)) ⟨.bl _,H,M,S,?_⟩;rwa [show D.toArray.any (hj z)=D.any (hj z)by simp,qA G N]
def AD:eD h (fD .NotIn) (vT h.K I):=by
 intro X i j H z y v u k M c e f;let⟨l,m,rfl,A,d,N,n⟩:=f;cases e;rcases A with A|A
 .obtain⟨D,G,T,g⟩:=M.list A;refine SeqAt.notIn_listAt (hj z) T.isList (λU hw=>qB c d G N U (by simpa using hw)) ⟨.bl _,H,M,S,?_⟩;rwa [show D.toArray.any (hj z)=D.any (hj z)by simp,qA G N]
 .obtain⟨D,G,T,g⟩:=M.tuple A;refine SeqAt.notIn_tupleAt (hj z) T (λU hw=>qB c d G N U (by simpa using hw)) ⟨.bl _,H,M,S,?_⟩;rwa [show D.toArray.any (hj z)=D.any (hj z)by simp,qA G N]
inductive AE (K:af) (z:List V) (H:U) (A:VK):Prop
 |mk(p c:_)(_:z=[.ref p])(_:av K H p c\/ax K H p c)(_:A (.int c.length) H)
def ej:hA h (.builtin "len") (AE h.K):=by
 intro X N i H j k l A c d;let⟨m,T,rfl,z,U⟩:=d;let⟨u,rfl,e⟩:=vals1 c;cases e;have n:=om
 rcases z with z|z
 .obtain⟨f,D,G,g⟩:=A.list z;have M:=D.length
  exact Calls.call_len_list G.isList (by simp only [eZ]<;>lia) ⟨.int T.length,H,A.tok _,⟨N.toks+1,by rw [eZ,M]⟩,U⟩
 .obtain⟨f,D,G,g⟩:=A.tuple z;have M:=D.length
  exact len_tuple G (by simp only [eZ]<;>lia) ⟨.int T.length,H,A.tok _,⟨N.toks+1,by rw [eZ,M]⟩,U⟩
def vV:hA h (.builtin "len") (λA H D=>∃z,A=[.str z]/\z.length<=aU/\D (.int z.length) H):=by
 intro U c d H A e D G M N;let⟨z,rfl,f,T⟩:=N;let⟨u,rfl,g,rfl⟩:=vals1 M;have X:=om
 exact len_str (by lia) ⟨.int z.length,H,G.tok _,⟨_,S⟩,T⟩
def JG:hA h (.type "list") (λm H g=>∃N D,m=[.ref N]/\(av h.K H N D\/ax h.K H N D)/\∀X,H X=O->g (.ref X) (upd H X (.lst D))):=by
 intro q T r H m B g f s t;let⟨N,D,rfl,U,v⟩:=t;let⟨u,rfl,w⟩:=vals1 s;cases w;have n:∀(A:List J),Vals D A->D.length<=aU->∀(z:aD) (G:Nat),(∀op p,T.heap.get? op=Y p->z.get? op=Y p)->
   z.get? T.heap.objs.size=Y {cls:=.type "list",dict:=O,data:=.seq A.toArray G,slots:= #[]}->EP h q r g (.ref T.heap.objs.size) {T with heap:=z}:=λA M c z G d e=>
  ⟨.ref T.heap.objs.size,_,f.laid (t':=T.toks) d (aR _) (show d2 h.prog h.w _ z _ (.lst D)from⟨c,A,G,M,e⟩),S,v _ (f.bf.fresh (aR _))⟩
 rcases U with U|U
 .obtain⟨A,M,i,c⟩:=f.list U;have x:=M.length
  let⟨o,j,k,y,l⟩:=i.isList;exact R1 N (.inl S) j k l (λz G d e=>n A M c z G d e) (by simp only [eZ]<;>lia)
 .obtain⟨A,M,i,c⟩:=f.tuple U;have x:=M.length
  let⟨o,j,k,y,l⟩:=i;exact R1 N (.inr S) j k l (λz G d e=>n A M c z G d e) (by simp only [eZ]<;>lia)
def vW(K:af)(z:String)(D:V)(H:U):Prop:=match D with
 |.str _=>z="str"
 |.int _=>z="int"
 |.ref p=>(z="list"/\∃G,av K H p G)\/(z="tuple"/\∃o,K.lookup p=Y o/\o.cls=.type "tuple"/\o.dict=O)\/
   (z="dict"/\((∃A,H p=Y (.dK A))\/∃A,H p=Y (.dT A)))\/(z="set"/\∃M N,H p=Y (.set M N))
 |_=>False
variable{EQ:String}{pr:List (Z×aL)}{py:St}
def AF{H:U}{v:J}(M:Inv h pr py H B)(e:RelV v1 v)(T:vW h.K EQ v1 H):B.TypeIs v EQ/\∀op,v=.ref op->∃k,B.heap.get? op=Y k/\k.dict=O:=by
 cases v1 with
 |str f=>
  let⟨g,rfl⟩:=e;cases (show EQ="str"from T);exists zc B f g,λ_ z=>nomatch z
 |int i=>
  let⟨g,rfl⟩:=e;cases (show EQ="int"from T);exists typeIs_int B i g,λ_ z=>nomatch z
 |ref p=>
  cases e;rcases T with⟨rfl,u,q⟩|⟨rfl,o,A,r,a⟩|⟨rfl,A⟩|⟨rfl,w,s,A⟩
  .obtain⟨x,_,l,_⟩:=M.list q;exists l.isList.typeIs,λop z=>?_;cases z;let⟨o,s,z,c,a,_⟩:=l;exists o,z,a
  .refine⟨⟨o,M.fb p o A,r⟩,λop z=>?_⟩;cases z;exists o,M.fb _ o A,a
  .have f:∃o,B.heap.get? p=Y o/\o.ExactDict:=by
    rcases A with⟨t,A⟩|⟨t,A⟩
    .obtain⟨_,_,_,_,o,_,_,z,D,_⟩:=M.bf p _ A;exists o,z,D
    .obtain⟨_,_,_,_,o,_,_,z,D,_⟩:=M.bf p _ A;exists o,z,D
   let⟨o,z,D⟩:=f;exists ⟨o,z,D.1⟩,λop j=>?_;cases j;exists o,z,D.2.1
  .obtain⟨o,_,_,_,z,D,_⟩:=M.bf p _ A;exists ⟨o,z,D.1⟩,λop j=>?_;cases j;exists o,z,D.2.1
 |_=>exact g5 T
def JH(K:af)(D:String)(G:V->List V->U->VK->Prop)(M:TE):TE:=λN H S=>M N H λz A=>vW K D z A/\G z [] A S
def JI(K:af)(G:String)(M:V->List V->U->VK->Prop)(N:TE)(S:TA):TE:=λz H T=>N z H λA D=>vW K G A D/\S z D λc d=>M A c d T
variable{TD:String}{nw:aa}{V1:V->List V->U->VK->Prop}{o:a7}
def JJ(M:PlainAttrs EQ)(N:Slot EQ nw TD)(U:zd (.builtin TD)=dA (.type "method_descriptor"))(c:lr h TD V1)(d:PE h o sw)(f:j3 o nw h.env (eval o h.env)=eval o h.env:=by rfl) (g:(pv.endLine==wn.line)=I:=by rfl):PE h (.Call (.Attribute o nw pv) [] [] wn) (JH h.K EQ V1 sw):=by intro z X A H i j k;refine wpAny_Call_method0_late f g (aN (d z X A H _ j k) λv l ⟨m,n,D,G,p,q⟩=>?_);let⟨s,u⟩:=AF D G p;exists EQ,TD,M,N,U,s,u,pZ S (R3 (c z l A n m [] v [] i D G .nil q))
variable{t0:List a7}{IO:TA}
def fe(U:PlainAttrs EQ)(c:Slot EQ nw TD)(d:zd (.builtin TD)=dA (.type "method_descriptor"))(f:lr h TD V1)(g:PE h o sw)(X:PA h (op::t0) IO)(i:j3 o nw h.env (eval o h.env)=eval o h.env:=by rfl)(j:((fp pv (cA (op::t0) h.env)).all (λz=> !z.1)&&(l3 pv (l4 [] h.env)).all (λz=>z.1.isSome) &&decide ((op::t0).length+([]:List rD).length+(if([]:List rD).isEmpty then 0 else 1)<30))=I:=by rfl)(k:(wn.endLine==pv.line)=I:=by rfl) (l:cA (op::t0) h.env=(ao,eval op h.env)::cA t0 h.env:=by rfl) (m:(fp pv (cA t0 h.env)).any (·.1)=ao:=by rfl):PE h (.Call (.Attribute o nw wn) (op::t0) [] pv) (JI h.K EQ V1 sw IO):=by
 intro A n D H p q s;refine wpAny_Call_method_late i j k S (aN (g A n D H _ q s) λv u ⟨z,w,G,M,x,y⟩=>?_);let⟨B,C⟩:=AF G M x;exists EQ,TD,U,c,d,B,C,?_;have N:=X pv A u D w _ G y
 rw [l]at N⊢;refine pZ (by show(ao||(fp pv (cA t0 h.env)).any (·.1))=ao;rw [m]<;>rfl) (uF ?_);exact aN N λE F ⟨K,L,P,Q,R⟩=>f A F D L z K v E p P M Q R
def vX(z:Cx)(a:String)(b:V->List V->U->VK->Prop):Prop:=
 ∀(A:List (Z×aL)) (D:ak) (G:St) (H:U) (M:V) (N:List V) (v:J) (S:List J) (T:VK),Inv z A G H D->RelV M v->Vals N S->b M N H T->
  aI (aM z.prog z.w) z.A (gO (.builtin a) (v::S)) (EP z A G T) z.xe D
theorem Vals.one:∀{z:V} {A:List J},Vals [z] A->∃u,A=[u]/\RelV z u
 |_,_,.cons a .nil=>⟨_,S,a⟩
theorem Vals.zero:∀{z:List J},Vals [] z->z=[]
 |_,.nil=>rfl
variable{ul:List V}{t1:List J}
def Vals.dropLast(D:Vals ul t1):Vals ul.dropLast t1.dropLast:=by
 induction D with
 |nil=>exact .nil
 |cons a b c=>
  cases b with
  |nil=>exact .nil
  |cons d e=>exact .cons a c
def JK(z:List sK):z.eraseIdx (z.length-1)=z.dropLast:=by
 induction z with
 |nil=>rfl
 |cons a b d=>
  cases b with
  |nil=>rfl
  |cons c b=>
   have D:(a::c::b).length-1=((c::b).length-1)+1:=by
    have G:(a::c::b).length=b.length+2:=rfl;have M:(c::b).length=b.length+1:=rfl
    lia
   rw [D,List.eraseIdx_cons_succ,d]
   all_goals rfl
variable{d:Z}{V7:List V}{H:U}
def Inv.vY{ot:List J}{z:Array J->Array J}(N:Inv h pr py H B)(T:H d=Y (.lst V7))(U:B.heap.get? d=Y {cls:=.type "list",data:=.seq t1.toArray t}) (a:z t1.toArray=ot.toArray) (c:Vals ul ot) (l:ul.length<=aU):Inv h pr py (upd H d (.lst ul)) {B with heap:=B.heap.update d (R4 z),toks:=wP}:=by have A:=U4 U z;rw [a]at A;refine N.write (x:=d) (e:=d) (T▸trivial) (.inl S) (λs u f g=>(Heap.get?_update_other B.heap (R4 z) (eP f)).trans g) ⟨_,A⟩ ?_;exists l,ot,_,c,A
theorem Inv.JL{t':Nat}(A:Inv h pr py H B)(D:Vals ul t1)(G:ul.length<=aU):Inv h pr py (upd H B.heap.objs.size (.lst ul)) {B with heap:=B.heap.push {cls:=.type "list",data:=.seq t1.toArray},toks:=t'}:=
 A.laid (λ_ _ M=>e8 _ M) (aR _) ⟨G,t1,0,D,gB _ S⟩
theorem Inv.fresh(z:Inv h pr py H B):H B.heap.objs.size=O:=z.bf.fresh (aR _)
def Inv.ou(G:Inv h pr py H B)(M:H d=Y (.lst ul)):ul.length<=aU/\∃(z:List J) (A:Nat),Vals ul z/\ul.length=z.length/\B.heap.get? d=Y {cls:=.type "list",data:=.seq z.toArray A}:=by let⟨N,z,A,D,S⟩:=G.bf d _ M;exists N,z,A,D,D.length,S
def JM(A:t<=aU):GA t=ao:=by unfold GA;exact bU (by lia)
inductive JN (x:V) (z:List V) (H:U) (A:VK):Prop
 |mk(l xs y:_)(_:x=.ref l)(_:z=[y])(_:H l=Y (.lst xs))(_:xs.length<aU)(_:A .bw (upd H l (.lst (xs++[y]))))
def fR:vX h "list.append" JN:=by
 intro e f g H X i v j k A M N T;let⟨U,l,y,rfl,rfl,D,m,a⟩:=T;cases M;let⟨u,rfl,b⟩:=N.one;let⟨n,G,c,d,o,z⟩:=A.ou D;refine GB gb ⟨_,z,S⟩ F.entry_list_append (F.args_list_append_2 _ _) (PySem.list_append U G.toArray c u (by rw [eZ];lia)) ⟨z,?_⟩;exists .bw,_,A.vY (ot:=G++[u]) D z (by simp) (d.append (.cons b .nil)) ?_,S,a;rw [br,List.length_singleton]
 lia
inductive JO (x:V) (z:List V) (H:U) (A:VK):Prop
 |mk(l b xs zs:_)(_:x=.ref l)(_:z=[.ref b])(_:H l=Y (.lst xs))(_:H b=Y (.lst zs))(_:xs.length+zs.length<=aU)(_:A .bw (upd H l (.lst (xs++zs))))
def vZ:vX h "list.extend" JO:=by
 intro l m n H o p v q r D N T U;let⟨a,b,s,t,rfl,rfl,M,c,w,d⟩:=U;cases N;let⟨u,rfl,e⟩:=T.one;cases e;let⟨x,z,f,g,y,G⟩:=D.ou M;let⟨B,A,X,i,C,j⟩:=D.ou c;have hsz:z.toArray.size+A.toArray.size<=aU:=by rw [eZ,eZ];lia
 have k:¬(!z.toArray.isEmpty&&GA (z.toArray.size+A.toArray.size))=I:=by rw [JM hsz,Bool.and_false];exact d5
 refine GB ze ⟨_,G,S⟩ F.entry_list_extend (F.args_list_extend_2 _ _)
  (AutoSeq1.list_extend_list_list_0 a z.toArray f b A.toArray X k (by rw [eZ];lia) (by lia)) ⟨G,j,?_⟩
 exists .bw,_,D.vY (ot:=z++A) M G (by simp) (g.append i) ?_,S,d;rw [br]
 lia
inductive JP (x:V) (z:List V) (H:U) (A:VK):Prop
 |mk(l xs y:_)(_:x=.ref l)(_:z=[])(_:H l=Y (.lst xs))(_:xs[xs.length-1]?=Y y)(_:A y (upd H l (.lst xs.dropLast)))
def JQ:vX h "list.pop" JP:=by
 intro i j k H l m v n o D N T U;let⟨a,p,y,rfl,rfl,G,b,c⟩:=U;cases N;have d:=T.zero
 subst d;let⟨q,z,e,M,f,A⟩:=D.ou G;let⟨u,r,g⟩:=M.get b;have X:z.toArray[z.toArray.size-1]?=Y u:=by show z.toArray[z.length-1]?=Y u;rwa [<-R5,<-f]
 refine GB R6 ⟨_,A,S⟩ F.entry_list_pop (F.args_list_pop_1 _) (MeetsSeq.list_pop_last a z.toArray e u X (by rw [eZ];lia)) ⟨A,?_⟩;exists y,_,D.vY (ot:=z.dropLast) G A ?_ M.dropLast ?_,g,c
 .rw [eZ,List.eraseIdxIfInBounds_toArray,JK]
 .rw [List.length_dropLast]
  lia
inductive JR (x:V) (y:V) (H:U) (z:VK):Prop
 |mk(l b xs zs:_)(_:x=.ref l)(_:y=.ref b)(_:H l=Y (.lst xs))(_:H b=Y (.lst zs))(_:xs.length+zs.length<=aU)(_:∀p,H p=O->z (.ref p) (upd H p (.lst (xs++zs))))
def lu:eD h (y5 .Add) JR:=by
 intro X G i H j y v u k z M N T;let⟨l,m,n,o,rfl,rfl,U,a,p,b⟩:=T;cases M;cases N;let⟨q,A,r,c,s,d⟩:=z.ou U;let⟨t,D,w,e,x,f⟩:=z.ou a;refine PySem.P.add_list d f ?_ (by rw [eZ,eZ];lia);have g:A.toArray++D.toArray=(A++D).toArray:=by simp
 rw [g];exists .ref _,_,z.JL (t':=G.toks) (c.append e) (by rw [br];lia),S,b _ z.fresh
theorem Vals.ints:∀{A:List Int} {z:List J},Vals (A.map V.int) z->rE z A
 |[],z,a=>by rw [hP]at a;cases a;exact IntsAre.nil
 |n::A,z,a=>by
  rw [aZ]at a;cases a with
  |cons b c=>
   let⟨D,rfl⟩:=b;exact IntsAre.cons n D (Vals.ints c)
def Vals.AG(z:Vals [V.ref d] t1):t1=[cp d]:=by
 cases z with
 |cons z a=>
  cases a;cases z;rfl
variable{v6:List Int}{s5 IR:J->ak->Prop}{m:aw}{p:au}
def JS(a:ss.handled=O)(M:B.heap.IsList d t1.toArray)(N:rE t1 v6)(b:∀z D G,(∀S o,B.heap.get? S=Y o->z.get? S=Y o)->s5 (.int v6.sum G) {B with heap:=z,toks:=D}):aI (aM m p) ss (gO (.builtin "sum") [.ref d]) s5 IR B:=by
 let⟨c,T⟩:=N.allInts.items;have U:numsOf (intItems c).toList=v6:=T▸N.numsOf
 rw [R7]at U;rw [T]at M;refine PySem.sum_intListG a M λz D G s=>?_;have:=b z D G s
 rwa [preSum_eq,j4 (by simp),U]
def JT(e:ss.handled=O)(U:B.heap.IsList d t1.toArray)(a:rE t1 v6)(f:0<v6.length)(g:∀D M N h,(∀b o,B.heap.get? b=Y o->D.get? b=Y o)->N∈v6->(∀T,T∈v6->T<=N)->s5 (.int N h) {B with heap:=D,toks:=M}):aI (aM m p) ss (gO (.builtin "max") [.ref d]) s5 IR B:=by
 let⟨G,c⟩:=a.allInts.items;have s:numsOf (intItems G).toList=v6:=c▸a.numsOf
 rw [R7]at s;subst s;rw [c]at U;have hsz:0<G.size:=by simpa using f
 refine PySem.max_intList e U hsz λv D M i j=>?_;let⟨k,rfl⟩:=intItems_at i;let⟨r,A⟩:=argBest_gt (numAt G) (G.size-1);refine g D M _ k j ?_ λT n=>?_
 .rw [numAt_eq];exact PySem.getD_mem (by rw [z,rx];lia)
 .obtain⟨l,q,rfl⟩:=mem_getD n;rw [z,rx]at q;rw [<-numAt_eq];exact A l (by lia)
inductive JU (K:af) (z:List V) (H:U) (A:VK):Prop
 |mk(a:Z)(ns:List Int)(_:z=[V.ref a])(_:av K H a (ns.map V.int))(_:A (.int ns.sum) H)
inductive JV (K:af) (z:List V) (H:U) (A:VK):Prop
 |mk(a:Z)(ns:List Int)(_:z=[V.ref a])(_:av K H a (ns.map V.int))(_:0<ns.length)(_:∀m,m∈ns->(∀y,y∈ns->y<=m)->A (.int m) H)
def AH(A:h.calm=I):hA h (.builtin "sum") (JU h.K):=by intro b c d H e f g z D G;let⟨X,i,rfl,M,N⟩:=G;let⟨j,T,U,_⟩:=z.list M;rw [Vals.AG D];exact JS (z.ok.hd A) U.isList T.ints λk l m a=>⟨.int _,H,z.kept a,⟨_,S⟩,N⟩
def JW(A:h.calm=I):hA h (.builtin "max") (JV h.K):=by intro f g X H i j k z D G;let⟨l,m,rfl,M,N,T⟩:=G;let⟨n,U,a,_⟩:=z.list M;rw [Vals.AG D];exact JT (z.ok.hd A) a.isList U.ints N λo p b q c d e=>⟨.int _,H,z.kept c,⟨_,S⟩,T b d e⟩
mutual
inductive Dp (K:af) (H:U):V->l8->Prop
 |bw:Dp K H .bw .none
 |bl (b:Bool):Dp K H (.bl b) (.bool b)
 |int (i:Int):Dp K H (.int i) (.int i)
 |str (x:aa):Dp K H (.str x) (.str x)
 |lst {a:Z} {xs:List V} {ds:List l8}:av K H a xs->ov K H xs ds->Dp K H (.ref a) (.list ds)
 |tup {a:Z} {xs:List V} {ds:List l8}:ax K H a xs->ov K H xs ds->Dp K H (.ref a) (.tuple ds)
inductive ov (K:af) (H:U):List V->List l8->Prop
 |nil:ov K H [] []
 |cons {v:V} {c:List V} {d:l8} {ds:List l8}:Dp K H v d->ov K H c ds->ov K H (v::c) (d::ds)
end
mutual
theorem Dp.reads(a:Inv h pr py H B):∀(d:l8) (v:V) (u:J),Dp h.K H v d->RelV v u->∃A,Reads B.heap u d A
 |.none,_,_,X,r=>by
  cases X
  cases r
  exists _,Reads.none
 |.bool b,_,_,X,r=>by
  cases X
  cases r
  exists _,Reads.bool b
 |.int i,_,_,X,r=>by
  cases X
  let⟨D,rfl⟩:=r
  exists _,Reads.int i D
 |.str x,_,_,X,r=>by
  cases X
  let⟨D,rfl⟩:=r
  exists _,Reads.str x D
 |.list z,_,_,X,r=>by
  cases X with
  |lst c e=>
   cases r
   let⟨G,M,⟨o,n,N,T,_,hd⟩,_⟩:=a.list c
   let⟨A,U⟩:=Dp.readsAll a z _ G e M
   exists _,Reads.list N T hd U
 |.tuple z,_,_,X,r=>by
  cases X with
  |tup c e=>
   cases r
   let⟨G,M,⟨o,N,T,n,hd⟩,_⟩:=a.tuple c
   let⟨A,U⟩:=Dp.readsAll a z _ G e M
   exists _,Reads.tuple N T hd U
 |.dict _,_,_,X,_=>by cases X
theorem Dp.readsAll(a:Inv h pr py H B):∀(z:List l8) (f:List V) (g:List J),ov h.K H f z->Vals f g->∃A,ReadsAll B.heap g z A
 |[],_,_,X,r=>by
  cases X
  cases r
  exists _,ReadsAll.nil
 |d::z,_,_,X,r=>by
  cases X with
  |cons j k=>
   cases r with
   |cons l m=>
    let⟨A,p⟩:=Dp.reads a d _ _ j l
    let⟨bs,q⟩:=Dp.readsAll a z _ _ k m
    exists _,ReadsAll.cons p q
end
inductive v3 (K:af) (x:V) (y:V) (H:U) (z:VK):Prop
 |mk(d e:_)(_:Dp K H x d)(_:Dp K H y e)(_:rF d=I)(_:rF e=I)(_:z (.bl (zf d e)) H)
inductive AI (K:af) (x:V) (y:V) (H:U) (z:VK):Prop
 |mk(d e:_)(_:Dp K H x d)(_:Dp K H y e)(_:rF d=I)(_:rF e=I)(_:z (.bl (!zf d e)) H)
def v5(A:h.A.units+64<cK):eD h (fD .Eq) (v3 h.K):=by intro X i j H D y v u k z G M N;let⟨T,U,a,b,c,d,e⟩:=N;let⟨l,f⟩:=Dp.reads z T D v a G;let⟨m,g⟩:=Dp.reads z U y u b M;exact SeqAt.compareEq_shaped f g c d A ⟨.bl _,H,z,S,e⟩
def JX(A:h.A.units+64<cK):eD h (fD .NotEq) (AI h.K):=by intro X i j H D y v u k z G M N;let⟨T,U,a,b,c,d,e⟩:=N;let⟨l,f⟩:=Dp.reads z T D v a G;let⟨m,g⟩:=Dp.reads z U y u b M;exact SeqAt.compareNe_shaped f g c d A ⟨.bl _,H,z,S,e⟩
abbrev AJ(z:aD)(c:Z)(v:Option J):Prop:=z.IsCell c v
def JY(A D:eA):eA:=
 {A with names:=A.names.map λ(z,G)=>if(G==.free&&D.kind==.function&&D.names.lookup z==Y .cell)then(z,.cell)else(z,G)}
def fy(z:List (aa×Z)):List (aa×ht)->List (aa×Z)->List (aa×Z)
 |[],a=>a
 |(n,k)::b,a=>if k==.free then fy z b ((n,(z.lookup n).getD 0)::a)else fy z b a
theorem AK(A:dS)(T:aa×ht->List (aa×Z)->fC (ForInStep (List (aa×Z))))(a:∀z G c,T (z,G) c=if G==.free then(do let f<-cellOf A z;dA (.yield ((z,f)::c)))else dA (.yield c)):∀(U:List (aa×ht)) (D:List (aa×Z)),(∀y∈U,y.2=.free->∃c,A.cells.lookup y.1=Y c)->uG U D T=dA (fy A.cells U D)
 |[],D,_=>by rw [uH];rfl
 |(z,G)::g,D,b=>by
  rw [GC,a];have d:=λD=>AK A T a g D λy h=>b y (bC _ h)
  unfold fy;by_cases M:(G==uI)=I
  .rw [ai M,ai M];let⟨c,e⟩:=b (z,G) bE (by simpa using M);have i:cellOf A z=dA c:=by unfold cellOf;rw [e]
   rw [i];have j:(A.cells.lookup z).getD 0=c:=by rw [e];rfl
   rw [j];exact d _
  .rw [N M,N M];exact d _
def JZ{z:eA}{A:dS}(D:∀y∈z.names,y.2=.free->∃c,A.cells.lookup y.1=Y c):closureFor z A=dA (fy A.cells z.names []):=by simp only [closureFor];rw [AK A _ (λG M c=>S) z.names [] D];rfl
theorem mem_lookup:∀{D:List (aa×sK)} {z:aa} {c:sK},(z,c)∈D->∃G,D.lookup z=Y G
 |(k,v)::b,z,c,h=>by
  rw [p1];cases a:z==k with
  |true=>exists _,S
  |false=>
   rcases bg.mp h with M|h
   .cases M;simp at a
   .exact mem_lookup h
set_option tactic.hygienic true
variable{V4:List (aa×Z)}
theorem so:∀{N:List (aa×ht)} {D:List (aa×Z)} {A:aa} {c:Z},(A,c)∈fy V4 N D->(A,c)∈D\/((A,.free)∈N/\c=(V4.lookup A).getD 0)
 |[],_,_,_,z=>.inl z
 |(m,k)::d,D,A,c,z=>by
  unfold fy at z;split at z
  .rename_i G;have G:k=.free:=by simpa using G
   rcases so z with z|⟨a,b⟩
   .rcases bg.mp z with T|z
    .cases T;exact .inr ⟨G▸bE,S⟩
    .exact .inl z
   .exact .inr ⟨bC _ a,b⟩
  .rcases so z with z|⟨a,b⟩
   .exact .inl z
   .exact .inr ⟨bC _ a,b⟩
set_option tactic.hygienic false
theorem v7:∀{G:List (aa×ht)} {z:List (aa×Z)} {A:aa×Z},A∈z->A∈fy V4 G z
 |[],_,_,a=>a
 |(m,k)::b,z,A,a=>by
  unfold fy;split
  .exact v7 (bC _ a)
  .exact v7 a
theorem v8{cells:List (aa×Z)}:∀{A:List (aa×ht)} {acc:List (aa×Z)} {z:aa},(z,.free)∈A->(z,(cells.lookup z).getD 0)∈fy cells A acc
 |(m,k)::a,acc,z,h=>by
  unfold fy;rcases bg.mp h with D|h
  .cases D;exact v7 bE
  .split
   .exact v8 h
   .exact v8 h
set_option tactic.hygienic true
theorem qC:∀{M:List (aa×ht)} {A:aD} {T:List (aa×Z)} {G:aa} {c:Z},(G,c)∈fE A.objs.size M T->(G,c)∈T\/((G,.cell)∈M/\A.objs.size<=c/\AJ (nK A M) c O)
 |[],_,_,_,_,A=>.inl A
 |(n,k)::e,A,T,G,c,z=>by
  unfold fE at z;unfold nK;split at z
  .rename_i D;rw [ai D];have D:k=.cell:=by simpa using D
   rw [<-jr A {cls:=.type "cell",data:=.cell O}]at z;rcases qC z with z|⟨b,a,d⟩
   .rcases bg.mp z with U|z
    .cases U;exact .inr ⟨D▸bE,aR _,_,zg e _ _ _ (gB _ S),S⟩
    .exact .inl z
   .rw [jr]at a;exact .inr ⟨bC _ b,uJ a,d⟩
  .rename_i D;rw [N D];rcases qC z with z|⟨b,a,d⟩
   .exact .inl z
   .exact .inr ⟨bC _ b,a,d⟩
set_option tactic.hygienic false
theorem sr:∀{names:List (aa×ht)} {n:Nat} {z:List (aa×Z)} {A:aa×Z},A∈z->A∈fE n names z
 |[],_,_,_,a=>a
 |(m,k)::b,n,z,A,a=>by
  unfold fE;split
  .exact sr (bC _ a)
  .exact sr a
theorem v9:∀{A:List (aa×ht)} {n:Nat} {acc:List (aa×Z)} {z:aa},(z,.cell)∈A->∃c,(z,c)∈fE n A acc
 |(m,k)::a,n,acc,z,h=>by
  unfold fE;rcases bg.mp h with D|h
  .cases D;exists n,sr bE
  .split
   .exact v9 h
   .exact v9 h
set_option tactic.hygienic true
theorem wa:∀{f:List (aa×ht)} {h:aD} {A:List (aa×Z)} {z y:aa} {c:Z},(∀M∈A,M.2<h.objs.size)->(∀z y c,(z,c)∈A->(y,c)∈A->z=y)->(z,c)∈fE h.objs.size f A->(y,c)∈fE h.objs.size f A->z=y
 |[],_,_,_,_,_,_,d,b,a=>d _ _ _ b a
 |(n,k)::j,h,A,z,y,c,e,d,b,a=>by
  unfold fE at b a;split at b
  .rename_i T;rw [ai T]at a;rw [<-jr h {cls:=.type "cell",data:=.cell O}]at b a;refine wa (h:=h.push _) (λM U=>?_) (λz y c D G=>?_) b a
   .rw [jr];rcases bg.mp U with rfl|U
    .exact pW _
    .exact GD (e M U)
   .rcases bg.mp D with g|D<;>rcases bg.mp G with i|G
    .cases g;cases i;rfl
    .cases g;exact absurd (e _ G) (jY _)
    .cases i;exact absurd (e _ D) (jY _)
    .exact d _ _ _ D G
  .rename_i T;rw [N T]at a;exact wa e d b a
set_option tactic.hygienic false
variable{P3:Option Z}{wp:J}{q:Z}{LE:kS}
def J0{A:eA}{U:dS}{b:dS->ak->Prop}(g:b (newEnv A B.heap.objs.size d (fE (B.heap.objs.size+1) A.names V4) nw P3 wp (Y U) q) {B with heap:=nK (B.heap.push {cls:=.type "dict",data:=.dict #[]}) A.names}):aI LE ss (R8 A d V4 [] nw P3 wp (Y U) q) b s5 B:=by simp only [R8,R9,eQ];refine aH (wpAny_alloc ?_);refine aH (wpAny_layCells _ (λh i c=>S) A.names V4 _ _ ?_);rw [show({B with heap:=B.heap.push {cls:=.type "dict",data:=.dict #[]}}:ak).heap.objs.size=B.heap.objs.size+1 from jr ..];rw [uH];exact aH (bu (bu g))
theorem wb{D:eA}:∀{d:List (aa×ht)} {T:aa} {G:ht},(d.map λ(A,G)=>if(G==uI&&D.kind==.function&&D.names.lookup A==Y .cell)then(A,Sa)else(A,G)).lookup T=Y G->∃U,d.lookup T=Y U/\(G=U\/(U=.free/\G=.cell))
 |[],_,_,c=>by simp at c
 |(A,b)::e,T,G,c=>by
  have f:= @wb D e T G;have z:nG T ((if(b==uI&&D.kind==.function&&D.names.lookup A==Y .cell)=I then(A,Sa)else(A,b))::(e.map _))=Y G:=c
  cases a:T==A with
  |true=>
   simp only [p1,a];by_cases M:(b==uI&&D.kind==.function&&D.names.lookup A==Y .cell)=I
   .rw [ai M]at z;simp only [p1,a]at z;cases z;simp only [bx,iM]at M;exists b,S,.inr ⟨M.1.1,S⟩
   .rw [N M]at z;simp only [p1,a]at z;cases z;exists _,S,.inl S
  |false=>
   simp only [p1,a];by_cases M:(b==uI&&D.kind==.function&&D.names.lookup A==Y .cell)=I
   .rw [ai M]at z;simp only [p1,a]at z;exact f z
   .rw [N M]at z;simp only [p1,a]at z;exact f z
structure qD(N:List aa)(A z:eA)(own:List (aa×Nat)):Prop where
 kind:z.kind=.function
 uniq:∀y∈z.names,z.names.lookup y.1=Y y.2
 ix:∀p∈own,N[p.2]?=Y p.1
 free:∀y∈z.names,y.2=.free->A.names.lookup y.1=Y .cell\/A.names.lookup y.1=Y .free
 own:∀y∈z.names,y.2=.local\/y.2=.cell->y.1∈own.map (·.1)\/y.1∉N
def wipe(z:St):List Nat->St
 |[]=>z
 |v::a=>(wipe z a).set v O
theorem wc(z:St):∀A:List Nat,(wipe z A).length=z.length
 |[]=>rfl
 |v::A=>by unfold wipe;rw [List.length_set,wc z A]
theorem we:∀{A:List Nat},(wipe py A)[t]?=Y (Y v1)->py[t]?=Y (Y v1)/\t∉A
 |[],a=>⟨a,by simp⟩
 |v::A,a=>by
  unfold wipe at a;by_cases G:v=t
  .subst G;by_cases N:v<(wipe py A).length
   .rw [uq N]at a;cases a
   .rw [GG (by simpa using N)]at a;cases a
  .rw [ur G]at a;let⟨S,T⟩:=we a;exact⟨S,by simp only [bg,p3];exact⟨λU=>G U.symm,T⟩⟩
abbrev Cx.fS(z:Cx)(A:ak)(H:U)(D:eA)(G:dS)(M:List Z):Cx:={z with d9:=A,jx:=H,env:=G,outer:=z.stack,ex:=M,fn:=λN=>D.names.lookup N==Y .cell,pn:=[],xe:=λ_ _=>False}
variable{wf:List Z}{VU:List (aa×Nat)}
def J1{G:eA}(D:Inv h pr py H B)(g:qD h.N h.env.scope G VU)(an:h.N.Nodup)(q:∀N∈wf,i1 h pr H N/\N<B.heap.objs.size):Inv (h.fS B H G (iO G (fE (B.heap.objs.size+1) G.names (fy h.env.cells G.names [])) B.heap.objs.size h.env) wf) [] (wipe py (VU.map (·.2))) H {B with heap:=nK (B.heap.push {cls:=.type "dict",data:=.dict #[]}) G.names}:=by
 have ap:∀y∈G.names,y.2=.free->∃c,h.env.cells.lookup y.1=Y c:=λy e z=>by
  rcases g.free y e z with M|M
  .exact D.ok.has _ (.inl M)
  .exact D.ok.has _ (.inr M)
 generalize u:iO G (fE (B.heap.objs.size+1) G.names (fy h.env.cells G.names [])) B.heap.objs.size h.env=a;have x:∀N o,B.heap.get? N=Y o->(nK (B.heap.push {cls:=.type "dict",data:=.dict #[]}) G.names).get? N=Y o:=λN o z=>zg _ _ _ _ (e8 _ z)
 have X:a.locals=B.heap.objs.size:=by rw [<-u];rfl
 have m:a.cells=fE (B.heap.objs.size+1) G.names (fy h.env.cells G.names []):=by rw [<-u];rfl
 have Q:a.scope=JY G h.env.scope:=by rw [<-u];rfl
 rw [<-jr B.heap {cls:=.type "dict",data:=.dict #[]}]at m;have v:∀{y c},(y,c)∈fy h.env.cells G.names []->h.env.cells.lookup y=Y c/\c<B.heap.objs.size:=λ{y c} U=>by
  rcases so U with U|⟨T,rfl⟩
  .cases U
  .obtain⟨c,ab⟩:=ap _ T S;rw [ab];let⟨C,A⟩:=D.cell _ _ ab;exists S,A.lt
 have R:∀{y c},a.cells.lookup y=Y c->(h.env.cells.lookup y=Y c/\c<B.heap.objs.size)\/(B.heap.objs.size+1<=c/\AJ (nK (B.heap.push {cls:=.type "dict",data:=.dict #[]}) G.names) c O):=λ{y c} z=>by
  rw [m]at z;rcases qC (hO z)with U|⟨_,f,as⟩
  .exact .inl (v U)
  .rw [jr]at f;exact .inr ⟨f,as⟩
 have ad:∀{y},G.names.lookup y=Y .free->∃c,a.cells.lookup y=Y c/\h.env.cells.lookup y=Y c:=λ{y} E=>by
  have e:=hO E;let⟨F,b⟩:=mem_lookup (sr (names:=G.names) (n:=(B.heap.push {cls:=.type "dict",data:=.dict #[]}).objs.size) (v8 (cells:=h.env.cells) (acc:=[]) e));rw [<-m]at b;exists F,b,?_;rw [m]at b;rcases qC (hO b)with U|⟨T,_,_⟩
  .exact(v U).1
  .have:=g.uniq _ T;rw [E]at this;cases this
 have a0:(h.fS B H G a wf).Ok:=by
  refine⟨D.ok.mod,by rw [Q];exact g.kind,by rw [<-u];exact D.ok.glob,by rw [<-u];exact D.ok.blt,by rw [X];exact aR _,
   λy A c s i=>?_,λy e=>?_,λy c A z=>?_,D.ok.hd,D.ok.frames,.inl S,λN j=>⟨?_,λy c z A=>?_⟩,D.bs,cu D.ok.ip D.sz,λN o z j=>?_,λN j A=>?_,D.stack,D.r4⟩
  .have s:=s;have i:=i
   rw [m]at s i;refine wa (λk r=>?_) (λy A c a1 N=>D.ok.inj y A c (v a1).1 (v N).1) (hO s) (hO i);rw [jr];exact GD (v (y:=k.1) (c:=k.2) r).2
  .have t:∀M,a.kindOf y=Y M->(M=.cell\/M=.free)->∃c,a.cells.lookup y=Y c:=λM p V=>by
    unfold Env.kindOf at p;rw [Q]at p;let⟨l,z,w⟩:=wb p;have:l=.cell\/l=.free:=by
     rcases w with rfl|⟨rfl,_⟩
     .exact V
     .exact .inr S
    rcases this with rfl|rfl
    .obtain⟨c,U⟩:=v9 (n:=(B.heap.push {cls:=.type "dict",data:=.dict #[]}).objs.size) (acc:=fy h.env.cells G.names []) (hO z);let⟨F,b⟩:=mem_lookup U;exact⟨F,by rw [m];exact b⟩
    .obtain⟨c,T,_⟩:=ad z;exists c,T
   rcases e with e|e
   .exact t _ e (.inl S)
   .exact t _ e (.inr S)
  .have A:=A;have A:G.names.lookup y=Y .cell:=by simpa using A
   have z:=z;rw [m]at z;rcases qC (hO z)with U|⟨_,f,_⟩
   .rcases so U with U|⟨T,_⟩
    .cases U
    .have K:=g.uniq _ T;rw [A]at K;cases K
   .rw [jr]at f;exact uJ f
  .rw [X];exact fB (q N j).2
  .have z:=z;rcases R z with⟨T,_⟩|⟨T,_⟩
   .exact(q N j).1.2.2.2.2.1 y c T A
   .have f:B.heap.objs.size+1<=N:=by rw [<-A];exact T
    exact absurd (gM (q N j).2 (uJ f)) (jY _)
  .rcases(q N j).1.2.2.2.1 with A|A
   .exact D.ok.mq N o z A
   .exact absurd (gM (dN z) (cu D.ok.ip A)) (jY _)
  .rcases bg.mp (D.r3 N A)with A|A
   .exact(q N j).1.2.1 A
   .exact(q N j).1.2.2.1 A
 refine⟨a0,S,D.bare,Un.kept x,⟨λ_=>O,?_,λa2 y a3 s i d=>?_⟩,λy c z=>?_,?_,λy c z=>?_,λk r=>?_,D.bf.kept x,by rw [wc];exact D.len⟩
 .rw [X];exact Heap.Ns.keeps (Heap.Ns.new ..) λN o z=>zg _ _ _ _ z
 .obtain⟨i,a4⟩:=we i;have L:G.names.lookup y=Y .free/\(a.kindOf y=Y .cell\/a.kindOf y=Y .free):=by
   have t:∀M,a.scope.names.lookup y=Y M->M=.local\/M=.cell\/M=.free->G.names.lookup y=Y .free/\(a.kindOf y=Y .cell\/a.kindOf y=Y .free):=λM p V=>by
    have al:=p;rw [Q]at p;let⟨l,z,w⟩:=wb p;have am:¬(l=.local\/l=.cell):=λa5=>by
     rcases g.own _ (hO z) a5 with b|b
     .obtain⟨k,r,bd⟩:=bH.mp b;have d:=g.ix k r
      have:k.1=y:=bd;rw [this]at d;exact a4 (bH.mpr ⟨k,r,vp an d s⟩)
     .exact b (cG s)
    rcases w with rfl|⟨rfl,rfl⟩
    .rcases V with rfl|rfl|rfl
     .exact absurd (.inl S) am
     .exact absurd (.inr S) am
     .exact⟨z,.inr al⟩
    .exact⟨z,.inl al⟩
   have d:=d;rcases d with d|d|d
   .exact t _ d (.inl S)
   .exact t _ d (.inr (.inl S))
   .exact t _ d (.inr (.inr S))
  let⟨bi,bk,E⟩:=D.loc;have be:qn h.env.scope y:=(g.free _ (hO L.1) S).elim (λM=>.inr (.inl M)) (λM=>.inr (.inr M))
  let⟨C,w,K⟩:=E a2 y a3 s i be;exists C,w,.inr ⟨L.2,?_⟩;let⟨c,T,f⟩:=ad L.1;rcases K with⟨M,_⟩|⟨_,F,b,A⟩
  .have M:h.env.scope.names.lookup y=Y .local:=M;rcases g.free _ (hO L.1) S with l|l<;>rw [show h.env.scope.names.lookup y=_ from l]at M<;>cases M
  .rw [f]at b;cases b;exists c,T,A.keeps x
 .have z:a.cells.lookup y=Y c:=z;rcases R z with⟨T,_⟩|⟨_,A⟩
  .obtain⟨C,A⟩:=D.cell y c T;exists C,A.keeps x
  .exact⟨_,A⟩
 .rw [X];exact D.bf.fresh (aR _)
 .have z:a.cells.lookup y=Y c:=z;rcases R z with⟨T,_⟩|⟨T,_⟩
  .exact D.gG y c T
  .exact D.bf.fresh (uJ T)
 .exact absurd (show k∈([]:List (Z×aL))++[]from r) (by simp)
variable{X:Cx}
def J2{y:V}{v:J}(G:Inv X pr py H B)(M:H d=Y (.lst ul))(b:ul.length<aU)(c:RelV y v)(z:∀N,Inv X pr py (upd H d (.lst (ul++[y]))) N->s5 .none N):aI (aM X.prog X.w) X.A (gO (.builtin "list.append") [.ref d,v]) s5 IR B:=by
 let⟨m,e,f,T,g⟩:=G.bf d _ M;have n:=T.length
 refine append_at (hsz:=by rw [eZ];lia) g λh i U=>?_;refine z {B with heap:=h} (G.write (t':=B.toks) (by rw [M];trivial) (.inl S) (λj u k l=>(i.2 j k).trans l) ⟨_,U⟩ ⟨by rw [br];exact b,e++[v],f+1,T.append (.cons c .nil),?_⟩);rw [U];simp
def qE(X:Cx)(D:List a7)(G:TT):Prop:=
 ∀(pr:List (Z×aL)) (B:ak) (py:St) (H:U) (z:Bool->U->Prop),Inv X pr py H B->G py H z->
  aI (aM X.prog X.w) X.A (uG D I λc A=>if A=I then do let M<-isTrue c X.env (eval c X.env);dA (p4 M)else dA (p4 A)) (TP X pr py z) X.xe B
def hk:TT:=λ_ H z=>z I H
theorem hB:qE h [] hk:=λ_ _ _ H _ z A=>wpAny_tests_nil ⟨H,z,A⟩
variable{Is:TT}
theorem kv{c:a7}(A:PT h c Is):qE h [c] Is:=λpr B py H D G hw=>wpAny_tests_one (A pr B py H D G hw)
theorem ow{D:fC sK}{G M:sK->ak->Prop}(a:aI LE ss D G (λ_ _=>False) B)(b:∀T B,G T B->M T B):aI LE ss D M s5 B:=g4 a b λ_ _ c=>g5 c
variable{VT:Result->ak->Prop}{Pv:J}{Pi:a7}
def J3{x:eA}{y:b2}{G:dS}(e:Nat->ak->Prop)(z:∀a B,e a B->aI (aM m p) ss (pT wp) (λd j=>match d with
   |none=>VT (.ok .next) j
   |some v=>aI (aM m p) ss (y2 op wp v) (λ_ o=>aI (aM m p) ss (assign op G v) (λ_ A=>aI (aM m p) ss (uG t0 I λc d=>if d=I then do let f<-isTrue c G (eval c G);dA (p4 f)else dA (p4 d)) (λf k=>if f=I then aI (aM m p) ss (eval s2 G) (λq r=>
       aI (aM m p) ss (gO (.builtin "list.append") [Pv,q]) (λ_ s=>∃g,g<a/\e g s) (rG (aM m p) ss G λM N=>VT (.error M) N) r) (rG (aM m p) ss G λM N=>VT (.error M) N) k
      else∃g,g<a/\e g k) (rG (aM m p) ss G λM N=>VT (.error M) N) A) (rG (aM m p) ss G λM N=>VT (.error M) N) o) (rG (aM m p) ss G λM N=>VT (.error M) N) j) (rG (aM m p) ss G λM N=>VT (.error M) N) B)
  (a:Nat) (C:e a B):
  pV (aM m p) ss (.compLoop (.ListComp s2 [⟨op,Pi,t0,0⟩] x y) 0 wp Pv G) VT B:=by
 refine codeAny_loop S e (λa B E=>?_) a C;refine wpAny_noted ?_;rw [compTurn_list];refine aH (Sb (aH (g4 (z a B E) (λd j t=>?_) λ_ _ T=>T)));cases d with
 |none=>exact bu t
 |some v=>
  refine aH (g4 t (λ_ o F=>?_) λ_ _ T=>T);refine aH (g4 F (λ_ A H=>aH (g4 H (λf k u=>?_) λ_ _ T=>T)) λ_ _ T=>T);cases f with
  |false=>exact bu ⟨S,u⟩
  |true=>
   exact aH (aH (g4 u (λq r K=>aH (g4 K (λ_ s L=>bu (bu ⟨S,L⟩)) λ_ _ T=>T)) λ_ _ T=>T))
def wg(i:TI)(j:TG)(k:TT)(l:TE)(M:List Nat):TE:=λN H m=>i N H λS d=>∀z,d z=O->∃T:Nat->Nat->U->Prop,(∃G,T 0 G (upd d z (.lst [])))/\∀A G H,T A G H->
 (S.stop A H/\m (.ref z) H)\/(S.go A H/\∃a:U->Prop,(∀D,a D->∃e,e<G/\T (A+1) e D)/\∀f D,S.hc A H f D->j f (wipe N M) D λb n=>wipe b M=wipe N M/\k b n λo g=>if o=I then l b g λy h=>∃c,h z=Y (.lst c)/\c.length<aU/\a (upd h z (.lst (c++[y])))else a g)
variable{KB:VK}{FM:TG}
def AL{H:U}{K:a7}{A:eA}{bn:TI}{use:Option (J->fC Unit)}{Qf:J->ak->Prop}(ca:X.calm=I) (dx:X.N.Nodup) (a0:Inv X pr py H B) (dK:PI X s2 op bn) (P:qD X.N X.env.scope A VU)(dL:∀(B:ak) (H:U) (h:Z) (F:List (aa×Z)) (D:List Z),PG (X.fS B H A (iO A F h X.env) D) s2 FM) (dT:∀(B:ak) (H:U) (h:Z) (F:List (aa×Z)) (D:List Z),qE (X.fS B H A (iO A F h X.env) D) t0 Is)(dX:∀(B:ak) (H:U) (h:Z) (F:List (aa×Z)) (D:List Z),PE (X.fS B H A (iO A F h X.env) D) K sw) (d0:∀m,y4 op X.env m=dA m)(d1:wg bn FM Is sw (VU.map (·.2)) py H KB)(em:∀T h b n N,Inv X pr py N b->KB (.ref T) N->b.heap.Ns h n->i1 X pr N h->GH (aM X.prog X.w) X.A X.xe use Qf (.ref T) h (.ok .next) b):aI (aM X.prog X.w) X.A (comprehension (.ListComp K [⟨s2,op,t0,0⟩] A pv) A X.env wn (newList []) ao (eval op X.env) use) Qf X.xe B:=by
 have eq:∀y∈A.names,y.2=.free->∃c,X.env.cells.lookup y.1=Y c:=λy a1 M=>by
  rcases P.free y a1 M with a2|a2
  .exact a0.ok.has _ (.inl a2)
  .exact a0.ok.has _ (.inr a2)
 refine wpAny_comprehension_free (use:=use) S d0 (JZ eq) P.kind (λy a1 M=>by rw [P.uniq y a1,M])
  (aN (dK pr B py H _ a0 d1) λjp kk es=>aN es λkp s ev=>?_)
 let⟨cd,D,Q,ks,k,M,ce,i,ci,cl,ex⟩:=ev;subst M;refine zh (J0 ?_) (by show 0<=aU;decide);generalize R:s.heap.objs.size=T;have fa:k T=O:=ce.bf.fresh (uz R)
 let⟨cn,⟨fd,co⟩,fl⟩:=ex T fa;generalize cr:({s with heap:=s.heap.push {cls:=.type "list",data:=.seq ([]:List J).toArray}}:ak)=a;have V:Inv X pr py (upd k T (.lst [])) a:=by rw [<-cr];refine ce.laid (t':=s.toks) (λz o M=>e8 _ M) (uz R) ⟨cP _,[],0,.nil,?_⟩;rw [<-R];exact gB _ S
 have cs:a.heap=s.heap.push {cls:=.type "list",data:=.seq ([]:List J).toArray}:=by rw [<-cr]
 have sz:∀z∈D,z<s.heap.objs.size:=λz G=>by let⟨o,M,_⟩:=i.obj _ _ ci z G;exact dN M
 have p:∀z∈D,i1 X pr (upd k T (.lst [])) z/\z<a.heap.objs.size:=λz G=>by have ct:=sz z G;refine⟨⟨?_,(cl z G).2⟩,by rw [cs,jr];exact GD ct⟩;rw [ah (by rw [<-R];exact fB ct)];exact(cl z G).1
 have fm:Q 0 a.heap:=i.keep _ _ _ ci λz _ o M=>by rw [cs];exact e8 _ M
 have W:=J1 V P dx p;have a3:=dL a (upd k T (.lst [])) a.heap.objs.size (fE (a.heap.objs.size+1) A.names (fy X.env.cells A.names [])) D
 have a4:=dT a (upd k T (.lst [])) a.heap.objs.size (fE (a.heap.objs.size+1) A.names (fy X.env.cells A.names [])) D;have a5:=dX a (upd k T (.lst [])) a.heap.objs.size (fE (a.heap.objs.size+1) A.names (fy X.env.cells A.names [])) D
 show pV _ _ (.compStart (.ListComp K [⟨s2,op,t0,0⟩] A pv) 0 (.ref cd) (.ref T) (iO A (fE (a.heap.objs.size+1) A.names (fy X.env.cells A.names [])) a.heap.objs.size X.env)) (GH (aM X.prog X.w) X.A X.xe use Qf (.ref T) a.heap.objs.size) {a with heap:=nK (a.heap.push {cls:=.type "dict",data:=.dict #[]}) A.names};have c0:∀z∈D,(upd k T (.lst [])) z=O:=λz G=>(p z G).1.1
 generalize fn:iO A (fE (a.heap.objs.size+1) A.names (fy X.env.cells A.names [])) a.heap.objs.size X.env=d at W a3 a4 a5⊢;have c1:d.locals=a.heap.objs.size:=by subst fn;rfl
 generalize kt:upd k T (.lst [])=j at V W a3 a4 a5 co c0 p;generalize fr:({a with heap:=nK (a.heap.push {cls:=.type "dict",data:=.dict #[]}) A.names}:ak)=c2 at W⊢;have c3:Q 0 c2.heap:=i.keep _ _ _ fm λz _ o M=>by rw [<-fr];exact zg _ _ _ _ (e8 _ M)
 have bd:∀{c4:St} {N:U} {b:ak},Inv (X.fS a j A d D) [] c4 N b->(∀z∈D,N z=O)->∀z∈D,i1 (X.fS a j A d D) [] N z:=λ{c4 N b} t w z G=>
  ⟨w z G,(t.ok.oe z G).1,t.ok.mr z G,.inl G,λm c M=>(t.ok.oe z G).2 m c M,λfs fT=>absurd (show fs∈([]:List (Z×aL))++[]from fT) (by simp)⟩
 have c5:pV (aM X.prog X.w) X.A (.compLoop (.ListComp K [⟨s2,op,t0,0⟩] A pv) 0 (.ref cd) (.ref T) d) (GH (aM X.prog X.w) X.A X.xe use Qf (.ref T) a.heap.objs.size) c2:=by
  refine J3 (λab b=>∃e N,Inv (X.fS a j A d D) [] (wipe py (VU.map (·.2))) N b/\Q e b.heap/\(∀z∈D,N z=O)/\cn e ab N) ?_ fd ⟨0,j,W,c3,c0,co⟩;rintro ab c6 ⟨e,q,ad,c7,c8,f0⟩;rcases fl e ab q f0 with⟨stop,f1⟩|⟨go,f2,f4,step⟩
  .have f8:=i.done (X.fS a j A d D) S rfl rfl ca e [] c6 _ q (λ_ _=>False) ad (bd ad c8) c7 stop;refine ow f8 λga al ⟨be,x⟩=>?_;subst be;have am:Inv X pr py q al:=V.qo (ch:=D) x.os x.base x.bf x.bare λz G=>⟨(p z G).1.2.2.2.1,(p z G).1.2.1,(p z G).1.2.2.2.2.1,(p z G).1.2.2.2.2.2⟩
   have ge:q a.heap.objs.size=O:=by have f:q d.locals=O:=x.free;rw [c1]at f;exact f
   let⟨n,w,_⟩:=x.loc;have w:al.heap.Ns d.locals n:=w
   rw [c1]at w;exact em T a.heap.objs.size al n q am f1 w (V.oi (aR _) ge)
  .have gl:=i.item (X.fS a j A d D) S rfl rfl ca e [] c6 _ q (λ_ _=>False) ad (bd ad c8) c7 go;refine ow gl λga al ⟨u,be,gt⟩=>?_;subst be;refine ow gt λ_ bi ⟨m,c9,am,g1,g2,bk,g3⟩=>?_;have hd:=am.pinned (bd am g3) (i.obj _ _ bk)
   refine ow (a3 _ bi _ c9 m u _ hd g1 (step m c9 g2)) λ_ he ⟨an,hf,hi,db,hm⟩=>?_;refine ow (a4 _ he an hf _ hi hm) λz hz ⟨h0,dd,ap⟩=>?_;have dl:∀{b:ak} {N:U},Inv (X.fS a j A d D) ([]++qu D bi.heap) an N b->f2 N->∃n,n<ab/\∃e N,Inv (X.fS a j A d D) [] (wipe py (VU.map (·.2))) N b/\Q e b.heap/\(∀z∈D,N z=O)/\cn e n N:=λ{b N} t bl=>by
    let⟨h1,h2,id⟩:=f4 N bl;have dp:∀z∈D,∀o,bi.heap.get? z=Y o->b.heap.get? z=Y o/\N z=O:=λz G o M=>
     let f:=t.pin (z,o) (eH _ (eH _ (vA G M)))
     ⟨f.1,f.2.1⟩
    have ii:(wipe py (VU.map (·.2))).length=an.length:=by rw [<-db,wc]
    exists h1,h2,e+1,N,(t.r9 (pins:=[])).weak ii (λkw v M=>?_),i.keep _ _ _ bk λz G o M=>(dp z G o M).1,λz G=>?_,id
    .rw [<-db]at M;exact(we M).1
    .obtain⟨o,M,_⟩:=i.obj _ _ bk z G;exact(dp z G o M).2
   cases z with
   |false=>
    simp only [nL,ie]at ap⊢;exact dl dd ap
   |true=>
    simp only [eQ]at ap⊢;refine ow (a5 _ hz an h0 _ dd ap) λf kP ⟨kV,k0,im,io,k1,is,it,bl⟩=>?_;exact J2 (X:=X.fS a j A d D) im is it io λk2 ix=>dl ix bl
 exact codeAny_compStart_list c5 (i.self X.A 0 _ _ _ c3 c5)
def fU{z:eA}{own:List (aa×Nat)}{c:TI}(i:h.calm=I)(j:h.N.Nodup)(k:PI h op s2 c)(l:qD h.N h.env.scope z own)(m:∀(A:ak) (H:U) (D:Z) (G:List (aa×Z)) (M:List Z),PG (h.fS A H z (iO z G D h.env) M) op FM) (n:∀(A:ak) (H:U) (D:Z) (G:List (aa×Z)) (M:List Z),qE (h.fS A H z (iO z G D h.env) M) t0 Is)(p:∀(A:ak) (H:U) (D:Z) (G:List (aa×Z)) (M:List Z),PE (h.fS A H z (iO z G D h.env) M) Pi sw) (q:∀g,y4 s2 h.env g=dA g:=by intro _;rfl):PE h (.ListComp Pi [⟨op,s2,t0,0⟩] z pv) (wg c FM Is sw (own.map (·.2))):=by
 intro ab A ad H al r s;rw [eval_ListComp];refine AL i j r k l m n p q s λt D u v w x y B C=>⟨v,B,λam E=>?_⟩
 let⟨F,K,an,L,P,Q⟩:=C;exists .ref t,w,x.turned (t':=u.toks) (λR o V W=>(E.2 R V).trans W) F K L P Q,S,y
variable{Wc:b2}
def su{i:Nat}{y:aa}{z:eA}{own:List (aa×Nat)}{k:TI}(u:h.calm=I)(p:h.N.Nodup)(w:h.N[i]?=Y y)(q:h.env.scope.names.lookup y=Y .local)(x:l1 (.ListComp Pi [⟨op,s2,t0,0⟩] z wn) (Y (.Name y pv)) Wc.line h.env=dA I) (B:PI h op s2 k) (C:qD h.N h.env.scope z own)(E:∀(D:ak) (H:U) (A:Z) (G:List (aa×Z)) (M:List Z),PG (h.fS D H z (iO z G A h.env) M) op FM) (F:∀(D:ak) (H:U) (A:Z) (G:List (aa×Z)) (M:List Z),qE (h.fS D H z (iO z G A h.env) M) t0 Is)(K:∀(D:ak) (H:U) (A:Z) (G:List (aa×Z)) (M:List Z),PE (h.fS D H z (iO z G A h.env) M) Pi sw) (L:∀r,y4 s2 h.env r=dA r:=by intro _;rfl):PS h (.Assign [.Name y pv] (.ListComp Pi [⟨op,s2,t0,0⟩] z wn) Wc) (vy (wg k FM Is sw (own.map (·.2))) (mv i)):=by
 intro P D bn H Q R c;rw [exec_Assign_Name_used _ _ _ _ x];refine aH (Sb (aH ?_));have c:=c
 refine aH (aN (AL (Qf:=λ_ d=>SP h P Q .next d) u p R B C E F K L c λW A d ab ad al am an ap=>?_) λ_ d as=>bu (bu as));refine RI (z4 (v:=V.ref W) al p w (.inl q) S (λa0 a1 ⟨s,a2,a3⟩=>?_) (.inr q));let⟨a4,a5,bs,bd,t,be⟩:=ap;have bi:A≠s:=by
  rcases a3 with e|e
  .rwa [e]
  .exactλf=>t y s e f.symm
 exists ab,an.sameBut a2 bi,λbt bk=>?_;exists _,ad,a1.turned (t':=a0.toks) (λbl o bm f=>(bk.2 bl bm).trans f) a4 a5 bd t be,am
def sv{T:List Comprehension}{A:eA}{y:aa}{z:dS}(a:z.scope.kind=.function)(b:z.scope.names.lookup y=Y .local)(c:(wn.line==pv.line)=I)(d:(A.names.any λ(e,M)=>e==y&&(M==.local||M==.cell))=ao):l1 (.ListComp op T A pv) (Y (.Name y wn)) t z=dA I:=by
 have f:z.kindOf y=Y .local:=b;have g:z.blockKind=.function:=by unfold Env.blockKind;rw [a];rfl
 unfold l1;simp only [g,f,d,Expr.pos,c];rfl
variable{wE:List Nat}{r:U}{TW:U->Prop}
def J4{o:TT}(D:Nat->U->Prop)(u:D 0 (upd r d (.lst [])))(v:∀z H,z<t->D z H->FM (.int (v0+z)) (wipe py wE) H λG g=>wipe G wE=wipe py wE/\o G g λh c=>if h=I then sw G c λy A=>∃M,A d=Y (.lst M)/\M.length<aU/\D (z+1) (upd A d (.lst (M++[y])))else D (z+1) c) (w:∀H,D t H->TW H):∃i:Nat->Nat->U->Prop,(∃N,i 0 N (upd r d (.lst [])))/\∀z N H,i z N H->((ko v0 t).stop z H/\TW H)\/((ko v0 t).go z H/\∃j:U->Prop,(∀T,j T->∃s,s<N/\i (z+1) s T)/\∀k T,(ko v0 t).hc z H k T->FM k (wipe py wE) T λG g=>wipe G wE=wipe py wE/\o G g λh c=>if h=I then sw G c λy A=>∃M,A d=Y (.lst M)/\M.length<aU/\j (upd A d (.lst (M++[y])))else j c):=by
 exists λz N H=>N=t-z/\z<=t/\D z H,⟨t,by simp,cP _,u⟩,?_;rintro z N H ⟨rfl,B,a⟩;by_cases l:z<t
 .refine .inr ⟨l,D (z+1),λT x=>⟨t-(z+1),by lia,S,l,x⟩,λk T y=>?_⟩;let⟨m,y⟩:=y;subst m y;exact v z _ l a
 .have m:z=t:=by lia
  subst m;exact .inl ⟨aR _,w H a⟩
def hC{K:af}{xs:List V}{o:TT}(A:Nat->U->Prop)(u:A 0 (upd r d (.lst [])))(v:∀z H,z<=xs.length->A z H->av K H q xs)(w:∀z D H,xs[z]?=Y D->A z H->FM D (wipe py wE) H λG g=>wipe G wE=wipe py wE/\o G g λh c=>if h=I then sw G c λy a=>∃M,a d=Y (.lst M)/\M.length<aU/\A (z+1) (upd a d (.lst (M++[y])))else A (z+1) c) (x:∀H,A xs.length H->TW H):∃i:Nat->Nat->U->Prop,(∃N,i 0 N (upd r d (.lst [])))/\∀z N H,i z N H->((hy K q).stop z H/\TW H)\/((hy K q).go z H/\∃j:U->Prop,(∀T,j T->∃s,s<N/\i (z+1) s T)/\∀D T,(hy K q).hc z H D T->FM D (wipe py wE) T λG g=>wipe G wE=wipe py wE/\o G g λh c=>if h=I then sw G c λy a=>∃M,a d=Y (.lst M)/\M.length<aU/\j (upd a d (.lst (M++[y])))else j c):=by
 exists λz N H=>N=xs.length-z/\z<=xs.length/\A z H,⟨xs.length,by simp,cP _,u⟩,?_;rintro z N H ⟨rfl,B,k⟩;have l:=v z H B k
 by_cases t:z<xs.length
 .refine .inr ⟨⟨xs,xs[z],l,by simp [t]⟩,A (z+1),λT C=>⟨xs.length-(z+1),by lia,S,t,C⟩,λD T y=>?_⟩;let⟨m,y⟩:=y;subst m;exact w z D _ (y xs l) k
 .have m:z=xs.length:=by lia
  subst m;exact .inl ⟨⟨xs,l,aR _⟩,x H k⟩
def AM(A:List aa)(M z:eA)(D:List (aa×Nat)):Bool:=
 (match z.kind with|.function=>I|_=>ao)&&(z.names.all λy=>decide (z.names.lookup y.1=Y y.2))&&(D.all λG=>decide (A[G.2]?=Y G.1))&&
  (z.names.all λy=>match y.2 with
   |.free=>(match M.names.lookup y.1 with|some .cell=>I|some .free=>I|_=>ao)
   |.local=>decide (y.1∈D.map (·.1))||decide (y.1∉A)
   |.cell=>decide (y.1∈D.map (·.1))||decide (y.1∉A)
   |_=>I)
variable{tz:List aa}
def e3{N S:eA}(D:AM tz N S VU=I):qD tz N S VU:=by
 unfold AM at D;simp only [bx,js,j5]at D;let⟨⟨⟨U,b⟩,c⟩,a⟩:=D;exists ?_,b,c,λy G z=>?_,λy G z=>?_
 .split at U
  .assumption
  .cases U
 .have A:=a y G;simp only [z]at A;split at A<;>first|exact .inl (by assumption)|exact .inr (by assumption)|cases A
 .have A:=a y G;rcases z with z|z<;>(simp only [z,zi,j5]at A;exact A)
section
variable {κ:Type} [DecidableEq κ]
def cU(z:List (κ×V))(A:κ):Option V:=(z.find? λD=>decide (D.1=A)).map (·.2)
def putK(A:List (κ×V))(D:κ)(v:V):List (κ×V):=
 if(A.any λz=>decide (z.1=D))=I then A.map (λz=>if z.1=D then(z.1,v)else z)else A++[(D,v)]
def i2{p:κ×V}{A:List (κ×V)}{z:κ}(D:p.1=z):cU (p::A) z=Y p.2:=by simp [cU,gc,D]
def i3{p:κ×V}{A:List (κ×V)}{z:κ}(D:¬p.1=z):cU (p::A) z=cU A z:=by simp [cU,gc,D]
theorem ox(z:κ):∀D:List (κ×V),(D.any λG=>decide (G.1=z))=(cU D z).isSome
 |[]=>rfl
 |p::a=>by
  rw [uE];by_cases A:p.1=z
  .simp only [i2 A,cq A,Bool.true_or,R9]
  .rw [i3 A,bU A,zj];exact ox z a
theorem AN(D A:κ)(y:V):∀T:List (κ×V),cU (T.map λM=>if M.1=D then(M.1,y)else M) A=(cU T A).map λa=>if A=D then y else a
 |[]=>rfl
 |p::b=>by
  have U:=AN D A y b;rw [aZ];by_cases G:p.1=D
  .rw [ai G];by_cases z:p.1=A
   .rw [i2 (p:=(p.1,y)) z,i2 z,l9,ai (z.symm.trans G)]
   .rw [i3 (p:=(p.1,y)) z,i3 z,U]
  .rw [N G];by_cases z:p.1=A
   .rw [i2 (p:=p) z,i2 z,l9,N (λc=>G (z.trans c))]
   .rw [i3 (p:=p) z,i3 z,U]
theorem AO(A D:κ)(y:V):∀M:List (κ×V),cU M A=O->cU (M++[(A,y)]) D=if D=A then Y y else cU M D
 |[],_=>by
  by_cases z:A=D
  .rw [ai z.symm];exact i2 (p:=(A,y)) z
  .rw [N (λG=>z G.symm)];exact i3 (p:=(A,y)) z
 |p::b,a=>by
  rw [dg];have S:¬p.1=A:=λG=>by rw [i2 G]at a;cases a
  rw [i3 S]at a;by_cases z:p.1=D
  .rw [i2 z,i2 z,N (λG=>S (z.trans G))]
  .rw [i3 z,i3 z,AO A D y b a]
def J5(A:List (κ×V))(D G:κ)(y:V):cU (putK A D y) G=if G=D then Y y else cU A G:=by
 unfold putK;by_cases z:(A.any λU=>decide (U.1=D))=I
 .rw [ai z,AN];rw [ox]at z;by_cases M:G=D
  .obtain⟨T,a⟩:=rB.mp z;rw [ai M,M,a,l9,ai S]
  .rw [N M];cases cU A G with
   |none=>rfl
   |some T=>rw [l9,N M]
 .rw [N z];refine AO D G y A ?_;rw [ox]at z;cases b:cU A D with
  |none=>rfl
  |some T=>rw [b]at z;exact(z S).elim
def sx(A:List (κ×V))(D:κ)(v:V):(putK A D v).length<=A.length+1:=by
 unfold putK;split
 .rw [z];lia
 .rw [br,dn,iP];lia
def AQ{z:List (κ×V)}{A:κ}(v:V)(D:cU z A=O):putK z A v=z++[(A,v)]:=by unfold putK;rw [ox,D];exact N (by decide)
end
def fv.my{o:Option V}{u:Option J}(z:fv o u):o.isSome=u.isSome:=by
 cases o with
 |none=>cases u with
  |none=>rfl
  |some _=>exact(show False from z).elim
 |some _=>cases u with
  |none=>exact(show False from z).elim
  |some _=>rfl
def fv.getD{o:Option V}{u:Option J}(z:fv o u)(G:RelV v1 wp):RelV (o.getD v1) (u.getD wp):=by
 cases o with
 |none=>cases u with
  |none=>exact G
  |some _=>exact(show False from z).elim
 |some _=>cases u with
  |none=>exact(show False from z).elim
  |some _=>exact z
section
variable {κ:Type} [DecidableEq κ]
def KV.val{M:List (κ×V)}{N:List (κ×J)}(S:KV M N)(z:κ):fv (cU M z) (nM N z):=by
 unfold KV at S;induction S with
 |nil=>exact j2
 | @cons p a ps b c d e=>
  let⟨T,f⟩:=c;by_cases A:p.1=z
  .have D:=T.symm.trans A;have G:nM (a::b) z=Y a.2:=by simp [nM,gc,D]
   rwa [i2 A,G]
  .have D:¬a.1=z:=λU=>A (T.trans U);have G:nM (a::b) z=nM b z:=by simp [nM,gc,D]
   rwa [i3 A,G]
def KV.any{A:List (κ×V)}{D:List (κ×J)}(G:KV A D)(M:κ):(A.any λz=>decide (z.1=M))=D.any λz=>decide (z.1=M):=by
 unfold KV at G;induction G with
 |nil=>rfl
 |cons a c b=>rw [uE,uE,b,a.1]
def KV.wh{M:List (κ×V)}{S:List (κ×J)}(T:KV M S)(G:κ){y:V}{u:J}(U:RelV y u):KV (M.map λz=>if z.1=G then(z.1,y)else z) (S.map λz=>if z.1=G then(z.1,u)else z):=by
 unfold KV at T⊢;induction T with
 |nil=>exact .nil
 | @cons p e ps f a g b=>
  rw [aZ,aZ];refine .cons ?_ b;let⟨A,c⟩:=a;by_cases D:p.1=G
  .rw [ai D,ai (A.symm.trans D)];exists A,U
  .rw [N D,N (λd=>D (A.trans d))];exists A,c
def KV.put{M:List (κ×V)}{D:List (κ×J)}(G:KV M D)(z:κ){y:V}{u:J}(T:RelV y u):KV (putK M z y) (stored D z u):=by
 unfold putK stored;rw [G.any z];by_cases A:(D.any λU=>decide (U.1=z))=I
 .rw [ai A,ai A];exact G.wh z T
 .rw [N A,N A];exact Sd G ⟨S,T⟩
theorem KV.length{z:List (κ×V)}{A:List (κ×J)}(D:KV z A):z.length=A.length:=bO D
end
def jF{k:Key}{u:J}(M:RelV (kV k) u):(eK m p).is k u=I:=by
 cases k with
 |inl i=>let⟨z,G⟩:=(show∃z,u=pM i z from M);subst G;exact HM m p i z
 |inr x=>let⟨z,G⟩:=(show∃z,u=yZ x z from M);subst G;exact HN m p x z
theorem wi:∀{z:List Key} {A:List J},Vals (z.map kV) A->ItemsAre (eK m p) z A
 |[],_,a=>by rw [hP]at a;cases a;exact .nil
 |k::z,_,a=>by
  rw [aZ]at a;cases a with
  |cons b c=>exact .cons (jF b) (wi c)
abbrev KT(H:U):List (List Key×V)->List (List Key×Z×J)->Prop:=cE λz A=>z.1=A.1/\H A.2.1=Y (.tup (z.1.map kV))/\RelV z.2 A.2.2
variable{No:List (List Key×V)}{v4:List (List Key×Z×J)}
def KT.val{H:U}(T:KT H No v4)(z:List Key):fv (cU No z) ((fO v4 z).map (·.2)):=by
 induction T with
 |nil=>exact j2
 | @cons p a ps b c e f=>
  let⟨S,_,g⟩:=c;by_cases A:p.1=z
  .have D:=S.symm.trans A;have G:fO (a::b) z=Y a.2:=by simp [fO,gc,D]
   rwa [i2 A,G]
  .have D:¬a.1=z:=λd=>A (S.trans d);have G:fO (a::b) z=fO b z:=by simp [fO,gc,D]
   rwa [i3 A,G]
def KT.wh{H:U}(a:KT H No v4)(D:List Key){y:V}{u:J}(b:RelV y u):KT H (No.map λG=>if G.1=D then(G.1,y)else G) (v4.map (putAt D u)):=by
 induction a with
 |nil=>exact .nil
 | @cons p g ps h c i d=>
  rw [aZ,aZ];refine .cons ?_ d;let⟨z,T,e⟩:=c;unfold putAt;by_cases A:p.1=D
  .rw [ai A,ai (z.symm.trans A)];exists z,T,b
  .rw [N A,N (λf=>A (z.trans f))];exists z,T,e
def KT.put{H:U}(M:KT H No v4)(z:List Key){b:Z}{y:V}{u:J}(a:H b=Y (.tup (z.map kV)))(T:RelV y u):KT H (putK No z y) (hQ v4 z b u):=by
 have c:(No.any λd=>decide (d.1=z))=(fO v4 z).isSome:=by rw [ox,(M.val z).my,kU]
 unfold putK hQ;rw [c];by_cases D:(fO v4 z).isSome=I
 .rw [ai D,ai D];exact M.wh z T
 .rw [N D,N D];exact Sd M ⟨S,a,T⟩
theorem KT.keeps{H:U}(S:KT H No v4)(T:∀M N,H M=Y (.tup N)->r M=Y (.tup N)):KT r No v4:=
 Paired.b9 S λ_ _ z=>⟨z.1,T _ _ z.2.1,z.2.2⟩
variable{P:aD}
theorem AR{u:HO}(z:dv m p H P)(A:Rd H d u):d2 m p H P d u:=A.ok z
variable{KE:List (Key×V)}
theorem oy(D:dv m p H P)(G:Rd H d (.dK KE)):KE.length<=aU/\(d==eo)=ao/\∃A,KV KE A/\P.DictOf (eK m p) d A:=
 show d2 m p H P d (.dK KE)from AR D G
theorem J6(D:dv m p H P)(G:H d=Y (.dK KE)):KE.length<=aU/\(d==eo)=ao/\∃A,KV KE A/\P.DictOf (eK m p) d A:=oy D (.inl G)
variable{BT:List Key}
def qF(A:dv m p H P)(D:H d=Y (.tup (BT.map kV))):(iL (eK m p)).is P BT d:=by
 let⟨_,G,M,o,N,S,T,U⟩:=(show d2 m p H P d (.tup (BT.map kV))from A d _ D)
 exact⟨o,G.toArray,T,N,S,U,by simpa using wi M⟩
def oz(S:dv m p H P)(M:Rd H d (.dT No)):No.length<=aU/\(d==eo)=ao/\ ∃G,KT H No G/\P.DictOfH (iL (eK m p)) d G:=by
 let⟨D,y,G,T,o,e,f,g,i,j,k,l⟩:=(show d2 m p H P d (.dT No)from AR S M)
 exists D,y,G,T,o,e,f,g,i,j,k,λz A=>?_,l;have w:∀{U:List (List Key×V)} {N:List (List Key×Z×J)},KT H U N->∀z∈N,(iL (eK m p)).is P z.1 z.2.1:=by
  intro U N b;induction b with
  |nil=>intro z A;exact nomatch A
  | @cons h b ps q c r n=>
   intro z A;rcases bg.mp A with M|A
   .subst M;exact qF S (c.1▸c.2.1)
   .exact n z A
 exact w T z A
theorem J7(D:dv m p H P)(G:H d=Y (.dT No)):No.length<=aU/\(d==eo)=ao/\ ∃A,KT H No A/\P.DictOfH (iL (eK m p)) d A:=oz D (.inl G)
def ir(H:U)(D:Z)(y:V)(G:Option V):Prop:=
 (∃z A,Rd H D (.dK z)/\y=kV A/\G=cU z A)\/∃z A M,Rd H D (.dT z)/\y=.ref M/\H M=Y (.tup (A.map kV))/\G=cU z A
def mz(H:U)(D:Z)(y v:V)(G:U):Prop:=
 (∃z A,H D=Y (.dK z)/\y=kV A/\z.length<aU/\G=upd H D (.dK (putK z A v)))\/
 ∃z A M,H D=Y (.dT z)/\y=.ref M/\H M=Y (.tup (A.map kV))/\z.length<aU/\G=upd H D (.dT (putK z A v))
theorem ir.k{H:U}{k:Key}(D:H d=Y (.dK KE)):ir H d (kV k) (cU KE k):=.inl ⟨KE,k,.inl D,S,S⟩
theorem mz.k{H:U}{k:Key}{v:V}(D:H d=Y (.dK KE))(G:KE.length<aU):mz H d (kV k) v (upd H d (.dK (putK KE k v))):=.inl ⟨KE,k,D,S,G,S⟩
def Inv.big(z:Inv h pr py H B):eo<B.heap.objs.size:=by have D:=(z.mod.glob.keeps z.bk).lt;exact Nat.lt_trans (by decide) D
section
variable {X:Cx} {pins:List (Z×aL)} {σ:St} {H:U} {s:ak} {a:Z} {y v:V} {u r:J} {o:Option V} {A:bZ} {E:J->ak->Prop}
def J8{c:J->ak->Prop}(g:A.units+1<cK)(D:Inv X pins σ H s)(h:ir H a y (Y v))(d:RelV y u)(e:∀z f,Inv X pins σ H f->RelV v z->c z f):aI (aM X.prog X.w) A (nJ (.ref a) u) c E s:=by
 rcases h with⟨i,G,M,N,S⟩|⟨i,G,j,M,N,k,S⟩
 .subst N;let⟨l,m,n,T,U⟩:=oy D.bf M;let⟨z,hw,b⟩:=fv.some_of (v:=v) (o:=nM n G) (S▸T.val G);exact Se (jF d) U.mapOf hw (e z _ (D.tok _) b)
 .subst N;cases (show u=cp j from d);let⟨l,m,p,T,U⟩:=oz D.bf M;let⟨z,hw,b⟩:=fv.some_of (v:=v) (o:=(fO p G).map (·.2)) (S▸T.val G);let⟨w,q,t⟩:=cv.mp hw;refine GI (nN g) (qF D.bf k) U q ?_;rw [t];exact e z _ (D.tok _) b
def J9{b:J->ak->Prop}(g:A.units+1<cK)(z:Inv X pins σ H s)(h:ir H a y o)(c:RelV y u)(d:∀e,Inv X pins σ H e->b (.bool (!o.isSome)) e):aI (aM X.prog X.w) A (fD .NotIn u (.ref a)) b E s:=by
 rcases h with⟨i,D,G,M,N⟩|⟨i,D,j,G,M,k,N⟩
 .subst M;let⟨l,S,m,T,U⟩:=oy z.bf G;refine Sf (jF c) S U.mapOf ?_;rw [<-(T.val D).my,<-N];exact d _ (z.tok _)
 .subst M;cases (show u=cp j from c);let⟨l,S,n,T,U⟩:=oz z.bf G;refine wpAny_notIn_heap (nN g) (qF z.bf k) S U ?_;have f:=(T.val D).my
  rw [kU]at f;rw [<-f,<-N];exact d _ (z.tok _)
end
variable{Ev:HO}
theorem wj(N:Inv h pr py H B)(T:cX (H d))(U:ib d B.heap P)(b:∃G,P.get? d=Y G)(c:d2 h.prog h.w (upd H d Ev) P d Ev):Inv h pr py (upd H d Ev) {B with heap:=P,toks:=t}:=
 N.write (x:=d) (e:=d) T (.inl S) (λa G f g=>(U.2 a f).trans g) b c
theorem Ka{D:List (Key×J)}(T:KE.length<=aU)(b:(d==eo)=ao)(c:KV KE D)(z:P.DictOf (eK m p) d D):d2 m p r P d (.dK KE):=⟨T,b,D,c,z⟩
variable{KF:Unit->ak->Prop}{y v:V}{u:J}
def Kb(C:ss.units+1<cK)(M:Inv h pr py H B)(F:mz H d y v r)(n:RelV y u)(p:RelV v wp)(q:∀t,Inv h pr py r t->KF () t):aI (aM h.prog h.w) ss (setItem (.ref d) u wp) KF s5 B:=by
 rcases F with⟨N,z,D,e,K,f⟩|⟨N,z,L,D,e,w,K,f⟩
 .subst e f;let⟨S,g,P,T,l⟩:=J6 M.bf D;have i:P.length<=aU:=by rw [<-T.length];exact S
  have j:(putK N z v).length<=aU:=by have:=sx N z v;lia
  refine wpAny_setItem_pairs (hsz:=i) (jF n) l λx b k=>q _ ?_;have Q:∃G,x.get? d=Y G:=let⟨G,_,_,a,_⟩:=b;⟨G,a⟩
  exact wj M (by rw [D];exact j2) k Q (Ka j g (T.put z p) b)
 .subst e f;cases (show u=cp L from n);let⟨S,g,R,T,l⟩:=J7 M.bf D;have i:R.length<=aU:=by rw [<-bO T];exact S
  have j:(putK N z v).length<=aU:=by have:=sx N z v;lia
  refine Sg (hsz:=i) (nN C) (qF M.bf w) l λx b k=>q _ ?_;let⟨G,V,W,a,ab,ad,al,_,am⟩:=b;refine wj M (by rw [D];exact j2) k ⟨G,a⟩ ⟨j,g,_,(T.put z w p).keeps λc an X=>?_,G,V,W,a,ab,ad,al,am⟩;rw [ah (cW X D (λS=>nomatch S))];exact X
def oA(D:a7):Prop:=∀z A,zb D ao z A=Gz [z,A] (nJ z A)
def sy{U:dS}(z:Gx (.type EQ) "__getitem__"=dA (Y (.builtin TD))) (n:oA op)(A:aI (aM m p) ss (eval s2 U) (λo h=>aI (aM m p) ss (eval op U) (λS T=>T.TypeIs o EQ/\aI (aM m p) ss (nJ o S) IR s5 T) s5 h) s5 B):aI (aM m p) ss (eval (.Subscript s2 op pv) U) IR s5 B:=by
 refine Gy (g4 A (λo h q=>g4 q (λS T c=>?_) λ_ _ M=>M) λ_ _ M=>M);let⟨i,c⟩:=c;unfold RV;refine aH ?_;rw [getitemInPython_of_ne i.not_modules];refine aH (uK i z ?_);have d:aI (aM m p) ss (zb op ao o S) (λe j=>aI (aM m p) ss (letTemporaryGo s2 o e>>=λ_=>dA e) IR s5 j) s5 T:=by rw [n o S];exact wpAny_operating (g4 c (λe j r=>aH (wpAny_letTemporaryGo (bu r))) λ_ _ M=>M)
 first
  |exact bu (aH d)
  |exact aH (bu (aH d))
  |exact aH d
def Kc{H:U}{y:V}{o:Option V}(M:Inv h pr py H B)(a:ir H d y o):B.TypeIs (.ref d) "dict":=by
 rcases a with⟨b,c,z,_,_⟩|⟨b,c,D,z,_,_,_⟩
 .obtain⟨_,_,e,_,A⟩:=oy M.bf z;exact A.typeIs
 .obtain⟨_,_,f,_,A⟩:=oz M.bf z;exact A.typeIs
inductive Kd (A:VK) (x:V) (y:V) (z:U):Prop
 |mk(a v:_)(_:x=.ref a)(_:ir z a y (Y v))(_:A v z)
def Ke(A D:TE):TE:=λz H G=>A z H λM N=>D z N λy S=>Kd G M y S
inductive Kf (A:VK) (y:V) (x:V) (z:U):Prop
 |mk(a o:_)(_:x=.ref a)(_:ir z a y o)(_:A (.bl (!o.isSome)) z)
def Kg(A D:TE):TE:=λz H G=>A z H λy M=>D z M λN S=>Kf G y N S
def Kh(G M N:TE):TS:=λS z H=>N z H λv T=>G z T λU a=>M z a λy b=>∃A D,U=.ref A/\mz b A y v D/\S.nx z D
def AS(M:h.A.units+1<cK)(N:PE h o sw)(T:PE h op zn)(U:oA op):PE h (.Subscript o op pv) (Ke sw zn):=by intro z a A H s b c;refine sy zk.lookup U (aN (N z a A H _ b c) λu d ⟨t,f,g,X,j⟩=>aN (T z d A f _ g j) λw x ⟨y,k,D,l,m,v,n,G,p⟩=>?_);subst n;obtain rfl:u=cp m:=X;exists Kc D G,J8 M D G l λB C q r=>⟨v,k,q,r,p⟩
def Ki(D:h.A.units+1<cK)(G:PE h op zn)(M:PE h o sw):PC h .NotIn op o (Kg zn sw):=by intro z N A H r T U;refine aN (G z N A H _ T U) λs a ⟨y,b,c,d,f⟩=>aN (M z a A b _ c f) λu t ⟨v,g,X,j,k,l,m,n,p⟩=>?_;subst m;obtain rfl:u=cp k:=j;exact J9 D X n d λw q=>⟨.bl (!l.isSome),g,q,S,p⟩
variable{V8:TE}
def sA(D:h.A.units+1<cK)(G:PE h o sw)(M:PE h op zn)(N:PE h s2 V8)(T:l1 s2 (Y (.Subscript o op wn)) pv.line h.env=dA ao):PS h (.Assign [.Subscript o op wn] s2 pv) (Kh sw zn V8):=by intro A U z H C a b;refine Sh (aN (N A U z H _ a b) λE c ⟨v,d,f,g,X⟩=>aN (G A c z d _ f X) λu j ⟨F,k,l,m,n⟩=>aN (M A j z k _ l n) λK L ⟨y,P,p,q,r,s,t,w,x⟩=>?_) T;subst t;obtain rfl:u=cp r:=m;exact Kb D p w q g λQ B=>⟨z,s,B,x⟩
theorem Kj{H:U}(z:aD)(G:eo<z.objs.size):d2 m p H (z.push {cls:=.type "dict",data:=.dict #[]}) z.objs.size (.dK []):=
 ⟨cP _,iK.mpr (eP (fB G)),[],.nil,U5 z⟩
def Kk:TE:=λ_ H A=>∀z,H z=O->A (.ref z) (upd H z (.dK []))
theorem wk:PE h (.Dict [] [] pv) Kk:=λM z N H T A D=>
 Si ⟨.ref z.heap.objs.size,_,A.laid (a:=z.heap.objs.size) (o:=.dK []) (t':=z.toks) (λ_ _ G=>e8 _ G) (aR _) (Kj z.heap A.big),S,D _ (A.bf.fresh (aR _))⟩
def wm:List (TE×TE)->St->U->(List (V×V)->U->Prop)->Prop
 |[],_,H,a=>a [] H
 |(tk,c)::d,b,H,a=>tk b H λz A=>c b A λy D=>wm d b D λG M=>a ((z,y)::G) M
abbrev VV:List (V×V)->List (J×J)->Prop:=cE λz A=>RelV z.1 A.1/\RelV z.2 A.2
def wo(z:Cx)(T:b2)(a:List (Option a7))(b:List a7)(c:List (TE×TE)):Prop:=
 ∀(D:List (Z×aL)) (G:ak) (A:St) (H:U) (M:List (V×V)->U->Prop),Inv z D A H G->wm c A H M->
  aI (aM z.prog z.w) z.A (evalPairs (pairTrees a b z.env T)) (λd e=>∃N S,Inv z D A S e/\VV N d/\M N S) z.xe G
theorem Kl:wo h pv [] [] []:=λM N S H T D G=>pairTrees_nil_walk ⟨[],H,D,.nil,G⟩
theorem Km{v:a7}{N:List (Option a7)}{a:List (TE×TE)}(b:PE h op sw)(c:PE h v zn)(d:wo h pv N t0 a):wo h pv (Y op::N) (v::t0) ((sw,zn)::a):=λA e D H C f g=>
 pairTrees_cons_walk (aN (b A e D H _ f g) λu z ⟨i,j,k,l,m⟩=>aN (c A z D j _ k m) λE n ⟨y,o,p,q,r⟩=>aN (d A n D o _ p r) λF K ⟨s,t,w,x,B⟩=>⟨(i,y)::s,t,w,.cons ⟨l,q⟩ x,B⟩)
structure M1(z:Cx)(o:a7)(m:aa)(G:b2)(A:a7)(D:b2):Prop where
 base:j3 o m z.env (eval o z.env)=eval o z.env
 bL:((fp D (cA [A] z.env)).all (λx=> !x.1)&&(l3 D (l4 [] z.env)).all (λx=>x.1.isSome)
  &&decide (([A]:List a7).length+([]:List rD).length+(if([]:List rD).isEmpty then 0 else 1)<30))=I
 line:(G.endLine==D.line)=I
 trees:fp D (cA [A] z.env)=[(ao,eval A z.env)]
structure M2(z:Cx)(o:a7)(m:aa)(M:b2)(A D:a7)(G:b2):Prop where
 base:j3 o m z.env (eval o z.env)=eval o z.env
 bL:((fp G (cA [A,D] z.env)).all (λx=> !x.1)&&(l3 G (l4 [] z.env)).all (λx=>x.1.isSome)
  &&decide (([A,D]:List a7).length+([]:List rD).length+(if([]:List rD).isEmpty then 0 else 1)<30))=I
 line:(M.endLine==G.line)=I
 trees:fp G (cA [A,D] z.env)=[(ao,eval A z.env),(ao,eval D z.env)]
def AU(H:U)(A:Z):Prop:=(∃z,Rd H A (.dK z))\/∃z,Rd H A (.dT z)
def Kn{H:U}(c:Inv h pr py H B)(g:AU H d):B.TypeIs (.ref d) "dict"/\(∀G,cp d=.ref G->∃z,B.heap.get? G=Y z/\z.dict=O)/\(d==eo)=ao:=by
 rcases g with⟨D,N⟩|⟨D,N⟩
 .obtain⟨_,S,i,_,A⟩:=oy c.bf N;exists A.typeIs,λG T=>?_,S;cases T;let⟨z,_,_,a,b,_⟩:=A;exists z,a,b.2.1
 .obtain⟨_,S,j,_,A⟩:=oz c.bf N;exists A.typeIs,λG T=>?_,S;cases T;let⟨z,_,_,a,b,_⟩:=A;exists z,a,b.2.1
section
variable {X:Cx} {pins:List (Z×aL)} {σ:St} {H:U} {s:ak} {a:Z} {y d:V} {u r:J} {o:Option V} {A:bZ} {E:J->ak->Prop}
def Ko{b:J->ak->Prop}(j:A.units+1<cK)(z:Inv X pins σ H s)(k:ir H a y o)(c:RelV y u)(e:RelV d r)(f:∀g h,Inv X pins σ H h->RelV (o.getD d) g->b g h):aI (aM X.prog X.w) A (gO (.builtin "dict.get") [.ref a,u,r]) b E s:=by
 rcases k with⟨l,G,M,N,S⟩|⟨l,G,i,M,N,m,S⟩
 .subst N;let⟨n,T,q,U,D⟩:=oy z.bf M;refine uL GJ D.typeIs Sj (Sk _ _ _) (meets_dict_get_default (eK X.prog X.w) a (jF c) T r) ⟨_,D.mapOf,f _ _ (z.tok _) ?_⟩;rw [S];exact(U.val G).getD e
 .subst N;cases (show u=cp i from c);let⟨n,T,p,U,D⟩:=oz z.bf M;refine uL GJ D.typeIs Sj (Sk _ _ _) (meetsH_dict_get_default (iL (eK X.prog X.w)) a i T r) ⟨nN j,G,p,qF z.bf m,D,f _ _ (z.tok _) ?_⟩;rw [S];exact(U.val G).getD e
end
def Kp(M N S:TE):TE:=λz H T=>M z H λU D=>∃A,U=.ref A/\AU D A/\N z D λy a=>S z a λb G=>∃o,ir G A y o/\T (o.getD b) G
def Kq(M:h.A.units+1<cK)(N:PE h o sw)(T:PE h op zn)(U:PE h s2 V8)(z:M2 h o "get" pv op s2 wn):PE h (.Call (.Attribute o "get" pv) [op,s2] [] wn) (Kp sw zn V8):=by intro A a D H L b c;refine GK z.base z.bL z.line GL GJ PySem.F.type_dict_get (aN (N A a D H _ b c) λu d ⟨P,g,G,X,i,j,k,l⟩=>?_);subst j;obtain rfl:u=cp i:=X;let⟨m,n,_⟩:=Kn G k;exists m,n,?_;rw [z.trees];refine pZ S (uF (pX (aN (T A d D g _ G l) λQ p ⟨y,q,r,s,t⟩=>pX (aN (U A p D q _ r t) λR V ⟨W,v,w,x,ab,B,C⟩=>uA ?_))));exact Ko M w B s x λad al E K=>⟨_,v,E,K,C⟩
def Inv.Kr{ch:List Z}(e:Inv h pr py H B)(b:∀z o,z∉ch->B.heap.get? z=Y o->P.get? z=Y o)(U:∀z∈ch,i1 h pr H z)(g:B.heap.objs.size<=d)(j:d2 h.prog h.w (upd H d Ev) P d Ev):Inv h pr py (upd H d Ev) {B with heap:=P,toks:=t}:=by
 have s:=e.bf.fresh g;have a:∀z u,H z=Y u->z∉ch:=λz u A G=>by have D:=(U z G).1;rw [D]at A;cases A
 refine e.step (g':=B.gens) (d':=B.drawn) (ch:=ch) (λz N=>⟨(U z N).2.2.2.1,(U z N).2.1,(U z N).2.2.2.2.1,(U z N).2.2.2.2.2⟩) (λz o _ _ T A _=>b z o T A) (λz o _ _ T A _=>⟨o.slots,b z o T A⟩)
  (λz o _ A r=>?_) (λz o T A=>⟨o,b z o T A⟩) (λz k A=>?_) (λz o u A=>?_) (λz X A=>⟨#[],?_⟩) (λw l=>?_) (λz u A=>?_) e.bare
 .rwa [ah (fB (gM (dN A) g))]
 .rwa [ah (cB A s)]
 .rwa [ah (cB A s)]
 .rw [ah (cB A s),A];simp
 .obtain⟨o,m,n,p,q⟩:=l;exists o,m,n,b _ o (λG=>(U _ G).2.1 rfl) p,q
 .by_cases N:z=d
  .subst N;rw [M]at A;cases A;exact j
  .rw [ah N]at A;refine(e.bf z u A).iY (λc v T D=>b c v ?_ D) (λc D=>ah (cB D s)▸D) λc k D=>ah (cB D s)▸D;rcases T with G|G
   .rw [G];exact a z u A
   .exact a c _ G
variable{h':aD}
def Inv.lock{u:HO}(b:Inv h pr py H B)(N:H d=Y u)(T:cX (Y u)):∃G,Inv h pr py (upd H d (.bP G u)) B:=by
 have M:=b.bf d u N;have c:∃G,B.heap.get? d=Y G:=by
  cases u with
  |lst D=>let⟨_,_,_,_,z⟩:=M;exists _,z
  |dK f=>let⟨_,_,_,_,o,_,_,z,_⟩:=M;exists o,z
  |dT f=>let⟨_,_,_,_,o,_,_,z,_⟩:=M;exists o,z
  |set s n=>let⟨o,_,_,_,z,_⟩:=M;exists o,z
  |ins i j fs=>let⟨_,_,_,z,_⟩:=M;exists _,z
  |ext k=>let⟨_,⟨_,z⟩,_⟩:=M;exists _,z
  |_=>exact g5 T
 let⟨G,z⟩:=c;have g:d2 h.prog h.w (upd H d (.bP G u)) B.heap d (.bP G u):=by
  exists z,M.iY (λU v _ A=>A) (λU A=>?_) λU D A=>?_
  .rw [ah (λa=>by rw [a,N]at A;cases A;exact T)];exact A
  .rw [ah (λa=>by rw [a,N]at A;cases A;exact T)];exact A
 exists G,b.write (x:=d) (e:=d) (t':=B.toks) (h':=B.heap) (N▸T) (.inl S) (λU v _ A=>A) ⟨G,z⟩ g
theorem Inv.qG{u:HO}(M:Inv h pr py H B)(N:H d=Y u)(S:cX (Y u)):∀A D,h.jx d≠Y (.bP A D):=λA D T=>by have G:=M.base.iZ d A D T;rw [N]at G;cases G;exact S
variable{SL:aL}
def Inv.unlock{u:HO}(D:Inv h pr py H B)(e:H d=Y (.bP SL u))(l:∀f g,h.jx d≠Y (.bP f g)):Inv h pr py (upd H d u) B:=by
 have U:∀A o,H A=Y o->(∀f g,o≠.bP f g)->A≠d:=λA o z m G=>by rw [G,e]at z;cases z;exact m _ _ S
 have T:∀A,H A=O->A≠d:=λA z G=>by rw [G,e]at z;cases z
 exists D.ok,D.os,D.bare,⟨D.base.keep,D.base.slot,λA o z b j=>?_,D.base.there,λA X z=>?_,λA o a z=>?_,λA n z=>?_⟩,D.loc,D.cell,?_,λa c z=>?_,λp q=>?_,λA o z=>?_,D.len
 .rw [ah (T A (D.base.free A o z b j))];exact D.base.free A o z b j
 .have N:=D.base.ki A X z;rwa [ah (U A _ N (λ_ _ G=>nomatch G))]
 .have N:=D.base.iZ A o a z;rw [ah (λG=>by rw [G]at z;exact l _ _ z)];exact N
 .obtain⟨r,N⟩:=D.base.kj A n z;exact⟨r,by rwa [ah (U A _ N (λ_ _ G=>nomatch G))]⟩
 .rw [ah (T _ D.free)];exact D.free
 .rw [ah (T c (D.gG a c z))];exact D.gG a c z
 .obtain⟨z,b,t⟩:=D.pin p q;exists z,ah (T _ b)▸b,t
 .by_cases i:A=d
  .rw [i,M]at z;cases z;rw [i];let⟨_,a⟩:=D.bf d _ e;exact a.iY (λc v _ N=>N) (λc N=>by rwa [ah (U c _ N (λ_ _ G=>nomatch G))]) λc X N=>by rwa [ah (U c _ N (λ_ _ G=>nomatch G))]
  .rw [ah i]at z;exact(D.bf A o z).iY (λc v _ N=>N) (λc N=>by rwa [ah (U c _ N (λ_ _ G=>nomatch G))]) λc X N=>by rwa [ah (U c _ N (λ_ _ G=>nomatch G))]
inductive Ks (M:TS) (G:Ends) (N:St) (H:U):Prop
 |mk(d u:_)(_:H d=Y u)(_:cX (Y u))(_:∀A,M ⟨λD z=>z d=Y (.bP A u)/\G.nx D (upd z d u),λv z=>z d=Y (.bP A u)/\G.rt v (upd z d u),λD z=>z d=Y (.bP A u)/\G.bk D (upd z d u),λD z=>z d=Y (.bP A u)/\G.ct D (upd z d u)⟩ N (upd H d (.bP A u)))
inductive Kt (D:TE) (G:St) (H:U) (M:VK):Prop
 |mk(d u:_)(_:H d=Y u)(_:cX (Y u))(_:∀z,D G (upd H d (.bP z u)) λv A=>A d=Y (.bP z u)/\M v (upd A d u))
variable{wS:a8}{Ix:TS}
def mB(b:PS h wS Ix):PS h wS (Ks Ix):=by
 intro c d e H k M hw;let⟨l,u,N,S,hw⟩:=hw;let⟨f,g⟩:=M.lock N S;refine aN (b c d e _ _ g (hw f)) λU m z=>?_;cases U with
 |next=>let⟨A,T,D,G,z⟩:=z;exists A,_,D.unlock G (M.qG N S),z
 |brk=>let⟨A,T,D,G,z⟩:=z;exists A,_,D.unlock G (M.qG N S),z
 |cont=>let⟨A,T,D,G,z⟩:=z;exists A,_,D.unlock G (M.qG N S),z
 |ret v=>let⟨i,A,T,D,j,G,z⟩:=z;exists i,A,_,D.unlock G (M.qG N S),j,z
def AV(N:PE h op sw):PE h op (Kt sw):=by intro S T U H z D hw;let⟨i,u,G,M,hw⟩:=hw;let⟨a,b⟩:=D.lock G M;refine aN (N S T U _ _ b (hw a)) λv j ⟨c,k,d,e,f,g⟩=>?_;exists c,_,d.unlock f (D.qG G M),e,g
variable{Wg:It->U->Prop}
def wq{H:U}{A:It}{D:Nat->aD->Prop}{tk:Nat}(G:Inv h pr py H B)(o:aL)(d:Turn h.prog h.w h.K op A [B.heap.objs.size] B.heap.objs.size D) (e:D 0 (B.heap.push o)) (f:Wg A H):vz h pr py op Wg (.ref B.heap.objs.size) {B with heap:=B.heap.push o,toks:=tk}:=by
 exists B.heap.objs.size,[B.heap.objs.size],D,A,H,S,G.kept λc z M=>e8 _ M,d,e,λc g=>?_,f;have M:c=B.heap.objs.size:=by simpa using g
 subst M;exact G.oi (aR _) (G.bf.fresh (aR _))
def qH(A:aa):It:=⟨λz _=>z<A.cps.size,λz H v D=>D=H/\∃c,A.cps[z]?=Y c/\v=.str ⟨#[c]⟩,λz _=>A.cps.size<=z⟩
def AW{K:af}(D:Z)(T:aa)(h:dD)(d:String)(i:d="str_ascii_iterator"\/d="str_iterator"):Turn m p K op (qH T) [D] D (λG U=>U.IsStrIter D d T h G)where
 mem:=by simp
 obj:=λG U A M N=>by
  have z:M=D:=by simpa using N
  subst z;let⟨o,z,c,V⟩:=A;exact⟨o,z,λv x=>by rw [V]at x;cases x⟩
 keep:=λG U e A X=>let⟨o,ab,ad⟩:=A;⟨o,X D (by simp) o ab,ad⟩
 item:=by
  intro f q hw r g G y b B H C a j A t;subst q hw r;let⟨k,l,al,P,n,Q⟩:=j D (by simp);have am:Walks f.prog f.w f.A D [D] [D] T.cps.size (SignAt T) (λG U=>U.IsStrIter D d T h G):=by
   rcases i with z|z
   .rw [z];exact Walks.strAscii (a.ok.hd g) D T h
   .rw [z];exact Walks.strWide (a.ok.hd g) D T h
  have an:["enumerate","zip","dict_itemiterator","dict_reverseitemiterator","odict_iterator","itertools.zip_longest","itertools.pairwise"].contains d=ao:=by
   rcases i with z|z
   .rw [z];decide
   .rw [z];decide
  refine am.item G b _ _ t A λv e E ap F as=>?_;let⟨c,u,a0,rfl⟩:=ap;have a1:Inv f y B H {b with heap:=e,toks:=E}:=a.turned (λM o N z=>as M o (by simpa using N) z) k l P n Q
  let⟨a4,z,a2,a3⟩:=id F;exists _,S,qr (s:={b with heap:=e,toks:=E}) z a2 a3 an ⟨.str ⟨#[c]⟩,H,a1,⟨u,S⟩,⟨S,c,a0,S⟩,F,λM N=>(j M N).1⟩
 done:=by
  intro f q hw r g G y b B H C a j A t;subst q hw r;let⟨k,l,al,P,n,Q⟩:=j D (by simp);have L:T.cps[G]?=O:=Sl t
  rcases i with z|z
  .rw [z]at A;exact wpAny_pyNext_ascii_end (a.ok.hd g) A L λe w=>⟨S,a.turned (t':=b.toks) (λM o N z=>w M o N z) k l P n Q⟩
  .rw [z]at A;exact wpAny_pyNext_wide_end (a.ok.hd g) A L λe w=>⟨S,a.turned (t':=b.toks) (λM o N z=>w M o N z) k l P n Q⟩
 self:=λa5 G b bd C A U=>by
  rcases i with z|z
  .rw [z]at A;exact wpAny_pyIter_striter_ascii A U
  .rw [z]at A;exact wpAny_pyIter_striter_wide A U
inductive Ku (z:It->U->Prop) (v:V) (A:U):Prop
 |mk(x:_)(_:v=.str x)(_:z (qH x) A)
def Kv(z:TE):TI:=λA H D=>z A H λv G=>Ku D v G
def AX(c:PE h op sw):PI h s2 op (Kv sw):=by
 intro d e f H k g A;refine aN (c d e f H _ g A) λv M ⟨y,l,N,i,z,j,T⟩=>?_;subst j;let⟨U,rfl⟩:=i;cases a:z.cps.all (· <128)
 .exact wpAny_pyIter_wide a (wq (tk:=M.toks) N _ (AW _ z U "str_iterator" (.inr S)) ⟨_,gB _ S,S,S⟩ T)
 .exact wpAny_pyIter_ascii a (wq (tk:=M.toks) N _ (AW _ z U "str_ascii_iterator" (.inl S)) ⟨_,gB _ S,S,S⟩ T)
variable{GT:Array g6}
def AY{o:aL}(b:(d==eo)=ao)(D:B.heap.get? d=Y o)(c:o.ExactDict)(a:o.data=.dict GT t)(s:s5 (.ref B.heap.objs.size) {B with heap:=B.heap.push {cls:=.type "dict_keyiterator",data:=.fields #[.ref d,.int 0 0,.int GT.size 0,.int t 0]}}):aI (aM m p) ss (y3 (.ref d)) s5 IR B:=by
 have G:B.TypeIs (.ref d) "dict":=⟨o,D,c.1⟩
 refine GN G zl (rH zl G F.entry_dict_iter ?_ (F.args_dict_iter_1 _));unfold Builtin.«dict.__iter__»;refine aH ?_;unfold U6;refine aH (zm G ?_);show aI _ _ (dA (cp d)) _ _ B
 refine bu ?_;show aI _ _ (GO d>>=_) _ _ B
 unfold GO;rw [N (by rw [b];exact d5)];refine aH (bu ?_);refine aH (j6 D a ?_);refine aH (uM D a ?_);refine aH (zh (bu ⟨_,S,"dict_keyiterator",_,⟨_,gB _ S,S⟩,p5.lookup,?_⟩));simpa [ry]using s
variable{Wa:Nat}{s:ak}
def AZ{f:g6}{g:Option J->ak->Prop}(G:s.heap.IsKeyIter d q t wP Wa)(h:s.heap.get? q=Y SL)(i:SL.data=.dict GT Wa)(hsz:GT.size=wP) (k:GT[t]?=Y f) (l:∀c,c.IsKeyIter d q (t+1) wP Wa->ib d s.heap c->g (Y f.key) {s with heap:=c}):aI (aM m p) ss (pT (.ref d)) g s5 s:=by
 let⟨o,z,D,b⟩:=id G;unfold pT;refine aH (Sm (GP (name:=dO "__next__") G.typeIs p5 (rH p5 G.typeIs Sn ?_ (So _))));refine aH (bu ?_);refine aH ?_;refine aH ?_
 first|refine aH (zo G.typeIs (bu ?_))|refine aH (zp G.typeIs (bu ?_))
 refine aH (Sq z b ?_);have n:Sr "dict_keyiterator"=ao:=by decide
 simp only [n,nL,ie];show aI _ _ (if(cp q==kQ)=I then _ else _) _ _ s
 rw [N (show¬((cp q==kQ)=I)from d5)];refine aH (bu ?_);refine aH (j6 h i ?_);rw [N (by rw [hsz];simp)];refine aH (bu ?_);refine aH (uM h i ?_);rw [N (by simp)];refine bu ?_;let⟨M,T⟩:=Array.getElem?_eq_some_iff.mp k;simp only [show¬((t:Int)<0)from by lia,ie,uD,zq M];refine aH ?_
 first|refine aH (zo G.typeIs (bu ?_))|refine aH (zp G.typeIs (bu ?_))
 refine aH (Ss G.typeIs ?_);show aI _ _ (setField (.ref d) 1 (ry ((t:Int)+1))>>=_) _ _ s
 refine aH (Su z b (by simp) ?_);have j:(s.heap.update d (Sv (·.setIfInBounds 1 (ry ((t:Int)+1))))).IsKeyIter d q (t+1) wP Wa:=
  ⟨_,uN _ z (Obj.isFreed_of_fields (Sw b _)),(Obj.cls_mapFields ..).trans D,by rw [Sw b];simp [ry]⟩
 refine aH (nO ?_);refine aH (Ss (s:={s with heap:=s.heap.update d (Sv (·.setIfInBounds 1 (ry ((t:Int)+1))))}) j.typeIs ?_);show aI _ _ (dA GT[t].key) _ _ _
 rw [T];exact bu (bu ⟨_,S,bu (l _ j (iQ ..))⟩)
def A0{prog:aw}{T a:Nat}{b:aL}{c:Option J->ak->Prop}(i:ss.handled=O)(z:B.heap.IsKeyIter d q t T a)(s:B.heap.get? q=Y b)(e:b.data=.dict GT a)(hsz:GT.size=T) (j:T<=t) (k:∀f,Heap.ExtBut d B.heap f->c O {B with heap:=f}):aI (aM prog p) ss (pT (.ref d)) c s5 B:=by
 let⟨o,g,n,h⟩:=id z;unfold pT;refine aH (Sm (GP (name:=dO "__next__") z.typeIs p5 (rH p5 z.typeIs Sn ?_ (So _))));refine aH (bu ?_);refine aH ?_;refine aH ?_
 first|refine aH (zo z.typeIs (bu ?_))|refine aH (zp z.typeIs (bu ?_))
 refine aH (Sq g h ?_);have l:Sr "dict_keyiterator"=ao:=by decide
 simp only [l,nL,ie];show aI _ _ (if(cp q==kQ)=I then _ else _) _ _ B
 rw [N (show¬((cp q==kQ)=I)from d5)];refine aH (bu ?_);refine aH (j6 s e ?_);rw [N (by rw [hsz];simp)];refine aH (bu ?_);refine aH (uM s e ?_);rw [N (by simp)];refine bu ?_;have m:GT.size<=t:=by rw [hsz];exact j
 simp only [show¬((t:Int)<0)from by lia,ie,uD,Sl m];refine aH ?_
 first|refine aH (zo z.typeIs (bu ?_))|refine aH (zp z.typeIs (bu ?_))
 show aI _ _ (setField (.ref d) 0 .none>>=_) _ _ B;refine aH (Su g h (by simp) ?_);show aI _ _ (newExc (.type "StopIteration") []>>=_) _ _ _
 refine aH ?_;simp only [newExc,newTuple];refine aH (zh ?_ (by size_fits));refine aH (m:=Sx _ _) (wpAny_of_eq (a:=kQ) (by first|rfl|(simp only [Sx];rfl)) ?_);refine zh ?_ (by size_fits);simp only [raiseNew];refine aH (wpAny_handled ?_);rw [show ss.in1.handled=O from i];refine aH (bu (wpAny_throw ?_));refine aH (GQ (T:="StopIteration") (b:=I) ⟨_,gB _ S,S⟩ isSubtype_stop ?_);exact bu (k _ (((iQ ..).extBut.push _).push _))
variable{AC:Type}
def A1{a:sK->AC->Prop}{N:List sK}{T:List AC}(b:cE a N T):∀{A:Nat} {D:sK},N[A]?=Y D->∃G,T[A]?=Y G/\a D G:=by
 induction b with
 |nil=>intro A D z;simp at z
 | @cons D G N T c e d=>
  intro A f z;cases A with
  |zero=>
   simp only [List.getElem?_cons_zero,zr]at z;subst z;exists G,S,c
  |succ g=>
   simp only [List.getElem?_cons_succ]at z⊢;exact d z
variable{WJ:Array g6}
def A2{o:aL}(N:o.data=.dict GT t)(M:o.data=.dict WJ wP):WJ=GT/\wP=t:=by rw [N]at M;cases M;exists S,S
def lx(K:af)(G:Z):It:=
 ⟨λA H=>∃(z:List V) (D:V),av K H G z/\z[A]?=Y D,λA H v N=>∃M D,v=.ref M/\H M=O/\N=upd H M (.tup [.int (A:Nat),D])/\∀z,av K H G z->z[A]?=Y D,λA H=>∃z:List V,av K H G z/\z.length<=A⟩
def Kw{K:af}(C a N:Z):Turn m p K (.Tuple t0 t pv) (lx K C) [a,N] a (λA d=>(∃e,IsEnum d a N ((A:Nat):Int) e)/\d.IsListIter N C A/\a≠N)where
 mem:=by simp
 obj:=λA d b M T=>by
  let⟨⟨e,U⟩,⟨o,l,R,al⟩,_⟩:=b;have n:M=a\/M=N:=by simpa using T
  rcases n with G|G
  .rw [G];exists _,U,λv D=>nomatch D
  .rw [G];exact⟨o,l,λv D=>by rw [al]at D;cases D⟩
 keep:=λA d V b E=>let⟨⟨e,U⟩,am,f⟩:=b;⟨⟨e,E a (by simp) _ U⟩,am.at λo D=>E N (by simp) o D,f⟩
 item:=by
  intro g q hw r R A F z L H P c h b s;subst q hw r;let⟨⟨e,U⟩,i,f⟩:=b;let⟨an,j,k,X⟩:=s;let⟨ap,w,x,as⟩:=c.list k;let⟨u,a0,a1⟩:=w.get X;have Q:a<z.heap.objs.size:=dN U
  have a2:N<z.heap.objs.size:=by let⟨_,D,_⟩:=i;exact dN D
  refine wpAny_pyNext_enum_item U i x.isList (x:=u) (by simpa using a0) f λV l a3 a4 hsz a5=>?_;exists _,S,wpAny_letOwnedTupleGo_enum (s:={z with heap:=V,toks:=z.toks+1}) l λy bd B=>?_;have be:y.get? z.heap.objs.size=Y {cls:=.type "tuple",data:=.seq #[.int A z.toks,u]}:=(B.2 _ (RJ Q)).trans a4
  have bi:d2 g.prog g.w (upd H z.heap.objs.size (.tup [.int (A:Nat),j])) y z.heap.objs.size (.tup [.int (A:Nat),j]):=
   ⟨by show 2<=aU;decide,[.int A z.toks,u],.cons ⟨_,S⟩ (.cons a1 .nil),⟨_,be,S,_,S⟩⟩
  have bk:Inv g F L (upd H z.heap.objs.size (.tup [.int (A:Nat),j])) {z with heap:=y,toks:=z.toks+1}:=
   c.Kr (ch:=[a,N]) (λM bl T D=>(B.2 M (λG=>T (by simp [G]))).trans (a5 M bl (λG=>T (by simp [G])) (λG=>T (by simp [G])) D)) h (aR _) bi
  exists .ref z.heap.objs.size,_,bk,S,⟨_,j,S,c.bf.fresh (aR _),S,λcl bm=>by rw [c.z7 bm k];exact X⟩,⟨⟨u,?_⟩,a3.at λo D=>(B.2 N (eP f)).trans D,f⟩,λM T=>?_
  .have bn:((A+1:Nat):Int)=(A:Int)+1:=by lia
   rw [bn];exact bd
  .have bs:M<z.heap.objs.size:=by
    have n:M=a\/M=N:=by simpa using T
    rcases n with G|G
    .rw [G];exact Q
    .rw [G];exact a2
   rw [ah (fB bs)];exact(h M T).1
 done:=by
  intro g q hw r R A F z L H P c h b s;subst q hw r;let⟨⟨e,U⟩,i,f⟩:=b;let⟨an,k,X⟩:=s;let⟨ap,w,x,as⟩:=c.list k;let⟨bt,bv,cn,ca,cd,ce⟩:=h N (by simp);have co:=w.length
  exact wpAny_pyNext_enum_end (c.ok.hd R) U i x.isList (by simp;lia) λV ci=>⟨S,c.turned (t':=z.toks) (λM o T D=>ci M o T D) bt bv ca cd ce⟩
 self:=λcr A z cs P b d=>let⟨⟨_,U⟩,_⟩:=b;Sy U d
inductive Kx (K:af) (A:It->U->Prop) (D:List V) (z:U):Prop
 |mk(a xs:_)(_:D=[.ref a])(_:av K z a xs)(_:A (lx K a) z)
def Ky(K:af)(z:TA):TI:=λA H D=>z A H λG M=>Kx K D G M
def sC(A:Gl h "enumerate")(i:h.G "enumerate"=O)(j:PA h [op] IO)(k:cA [op] h.env=[(ao,eval op h.env)]:=by rfl):PI h (.Tuple t0 t Wc) (.Call (.Name "enumerate" wn) [op] [] pv) (Ky h.K IO):=by
 intro l m n H L a o;refine Call_ (r5 a A i boot_enumerate (Ge (aN (j pv l m n H _ a o) λP z ⟨Q,p,G,q,r⟩=>?_) k S));let⟨s,R,D,u,v⟩:=r;subst D;cases q with
 |cons w x=>
  cases x;cases w;let⟨V,W,y,X⟩:=G.list u;refine call_enumerate_list y.isList λab b B hsz C=>Sy b ?_;have E:=G.kept (t':=z.toks) C
  exists z.heap.objs.size+1,[z.heap.objs.size+1,z.heap.objs.size],_,_,p,S,E,Kw s (z.heap.objs.size+1) z.heap.objs.size,⟨⟨.none,b⟩,B,Nat.succ_ne_self _⟩,λM F=>?_,v;have K:M=z.heap.objs.size+1\/M=z.heap.objs.size:=by simpa using F
  have c:z.heap.objs.size<=M:=by
   rcases K with N|N
   .rw [N];exact Nat.le_add_right _ _
   .rw [N];exact aR _
  exact G.oi c (G.bf.fresh c)
end L2
namespace TL
open PySem.Builtin PySem.Builtin.Str PySem.StrLaws
abbrev tl(z:aa):List Nat:=z.cps.toList
def pre(z A:List Nat):Bool:=A.take z.length==z
def par(z:List Nat):List Nat->List Nat->Option (List Nat×List Nat)
 |_,[]=>O
 |acc,c::a=>if pre z (c::a)=I then Y (acc,(c::a).drop z.length)else par z (acc++[c]) a
theorem join_eq(y:aa)(z:List aa):zt y z=GR y z:=glued_eq_join y z
end TL
namespace L2
theorem wt:∀{z:List aa} {A:List J},Vals (z.map V.str) A->StrsAre A z
 |[],_,.nil=>.nil
 |y::z,_,.cons a b=>by let⟨D,rfl⟩:=a;exact .cons y D (wt b)
variable{h:Cx}
def Kz:lr h "str.join" (λd e H f=>∃D G,∃z:List aa,d=.str D/\e=[.ref G]/\(av h.K H G (z.map V.str)\/ax h.K H G (z.map V.str))/\ (z.map (·.length)).sum+z.length*D.length<=16777216/\f (.str (zt D z)) H):=by
 intro p q r H d e v s f M X T N;let⟨D,G,z,rfl,rfl,A,g,N⟩:=N;let⟨t,rfl⟩:=X;cases T with
 |cons i T=>
  cases T;cases i;rcases A with A|A
  .obtain⟨U,a,⟨o,j,k,l,_,m⟩,_⟩:=M.list A;exact U7 (items:=U.toArray) ⟨o,k,l,j,m⟩ (GS▸wt a) g λb c=>⟨.str _,H,M.tok c,⟨b,S⟩,N⟩
  .obtain⟨U,a,n,_⟩:=M.tuple A;exact U8 (items:=U.toArray) n (GS▸wt a) g λb c=>⟨.str _,H,M.tok c,⟨b,S⟩,N⟩
variable{EQ:String}
def Ba{C:aa->Prop}{g:aa->V}(b:∀(z:aa) (G:dD) (D:ak) (A:J->ak->Prop),C z->(∀(u:J) (M:Nat),RelV (g z) u->A u {D with toks:=M})->aI (aM h.prog h.w) h.A (gO (.builtin EQ) [.str z G]) A h.xe D):lr h EQ (λU a H A=>∃z,U=.str z/\a=[]/\C z/\A (g z) H):=by intro i D j H U a v k A c d e N;let⟨z,rfl,rfl,f,N⟩:=N;let⟨G,rfl⟩:=d;cases e;exact b z G D _ f λu M X=>⟨g z,H,c.tok M,X,N⟩
theorem KA:lr h "str.isdigit" (λA D H G=>∃z,A=.str z/\D=[]/\True/\G (.bl (zu z)) H):=
 Ba (C:=λ_=>True) (g:=λz=>.bl (zu z)) λ_ _ M _ _ N=>PySem.SC.isdigit (N _ M.toks S)
theorem KC:lr h "str.isalpha" (λA D H G=>∃z,A=.str z/\D=[]/\True/\G (.bl (zv z)) H):=
 Ba (C:=λ_=>True) (g:=λz=>.bl (zv z)) λ_ _ M _ _ N=>PySem.SC.isalpha (N _ M.toks S)
def KG(A:V->List V->U->VK->Prop)(to:TE):TE:=λD H G=>to D H λz M=>(∃N,z=.str N)/\A z [] M G
def Bb(D:V->List V->U->VK->Prop)(to te:TE):TE:=λz H G=>to z H λA M=>(∃N,A=.str N)/\te z M λy S=>D A [y] S G
variable{nw:aa}{pv wn:b2}{V1:V->List V->U->VK->Prop}{op o:a7}{sw:TE}
def Bc(b:Slot "str" nw EQ)(c:zd (.builtin EQ)=dA (.type "method_descriptor"))(d:lr h EQ V1)(f:PE h o sw)(g:j3 o nw h.env (eval o h.env)=eval o h.env:=by rfl) (X:(pv.endLine==wn.line)=I:=by rfl):PE h (.Call (.Attribute o nw pv) [] [] wn) (KG V1 sw):=by intro N i T H j k l;refine PySem.Call_method0 g X (aN (f N i T H _ k l) λv m ⟨q,n,p,a,A⟩=>?_);let⟨⟨r,rfl⟩,A⟩:=A;let⟨s,rfl⟩:=_root_.id a;exists "str",_,Sz,b,c,zc _ _ _,(λ_ op=>nomatch op),pZ S (R3 (d N m T n _ [] _ [] j p a .nil A))
variable{zn:TE}
def KH(b:Slot "str" nw EQ)(c:zd (.builtin EQ)=dA (.type "method_descriptor"))(d:lr h EQ V1)(f:PE h o sw)(g:PE h op zn)(X:cA [op] h.env=[(ao,eval op h.env)]:=by rfl) (i:j3 o nw h.env (eval o h.env)=eval o h.env:=by rfl) (j:(pv.endLine==wn.line)=I:=by rfl):PE h (.Call (.Attribute o nw pv) [op] [] wn) (Bb V1 sw zn):=by intro A k D H l m n;refine PySem.Call_method1 i X j (aN (f A k D H _ m n) λv p ⟨C,q,r,a,G⟩=>?_);let⟨⟨E,rfl⟩,G⟩:=G;let⟨K,rfl⟩:=_root_.id a;exists "str",_,Sz,b,c,zc _ _ _,(λ_ op=>nomatch op),pZ S (uF (pX ?_));exact aN (g A p D q _ r G) λu s ⟨y,t,w,x,B⟩=>uA (d A s D t _ [y] _ [u] l w a (.cons x .nil) B)
theorem KI(N:PE h o sw)(T:PE h op zn)(U:cA [op] h.env=[(ao,eval op h.env)]:=by rfl)(a:j3 o "join" h.env (eval o h.env)=eval o h.env:=by rfl)(b:(pv.endLine==wn.line)=I:=by rfl):PE h (.Call (.Attribute o "join" pv) [op] [] wn) (Bb (λc d H f=>∃A D,∃z:List aa,c=.str A/\d=[.ref D]/\(av h.K H D (z.map V.str)\/ax h.K H D (z.map V.str))/\ (z.map (·.length)).sum+z.length*A.length<=16777216/\f (.str (zt A z)) H) sw zn):=
 KH F.slot_str_join F.type_str_join Kz N T U a b
def KJ:eD h (fD .NotIn) (λA y H D=>∃(c:Nat) (z:aa),A=.str ⟨#[c]⟩/\y=.str z/\D (.bl (!decide (c∈z.cps.toList))) H):=by intro a b d H A y v u D G M N T;let⟨c,z,rfl,rfl,U⟩:=T;let⟨e,rfl⟩:=M;let⟨f,rfl⟩:=N;exact U9 (dV G U (bD Bool.not (Va z c).symm))
end L2
namespace KL
open PySem.W PySem.Calls
variable{SZ:j7}{P:aD}
def KN:∀(z:List Int) (D:List J),kW SZ P D (z.map zw)->rE D z:=by
 intro z;induction z with
 |nil=>
  intro D A;rw [hP]at A;cases A;exact .nil
 |cons n z b=>
  intro D A;rw [aZ]at A;cases A with
  |cons a c=>
   cases a;exact .cons _ _ (b _ c)
variable{t:Nat}{t1:List J}
def KO{N:GU}(e:N.most=Y t){args:List eJ}(a:N.row.toRowW.claim.pre args=I) (g:kW SZ P t1 args):∃b c A,t1=[cp b]/\args=[WData.list (A.map zw)]/\P.get? b=Y {cls:=.type "list",data:=.seq c.toArray}/\rE c A/\A.length<=t:=by
 have h:WShape.hasAll [] args [.list .int]=I:=(pre_splitW a).1;have d:N.pre.holds [] {args:=args}=I:=(pre_splitW a).2
 let⟨r,s,rfl,i,j⟩:=hasAllW_cons h;obtain rfl:=hasAllW_nil j;let⟨D,rfl,k⟩:=hasW_list i;let⟨A,rfl⟩:=items_int k;have l:A.length<=t:=by
  unfold OpenLaw.pre at d;have G:(WTm.not (.lt (.lit (.int (t:Int))) (.len (.arg 0)))).holds [] {args:=[.list (A.map .int)]}=I:=by have G:=(holds_andW d).1;rw [e]at G;exact G
  have M:=condW_of G (w_not (w_lt w_lit (w_len_list (w_arg S))));rw [z]at M;refine GV λu=>?_;have m:(t:Int)<((A.length:Nat):Int):=by lia
  first
   |(rw [cq m]at M;exact absurd M (by decide))
   |(simp at M;lia)
 cases g with
 |cons n o=>
  cases o;cases n with
  |list p q=>exists _,_,A,S,S,p,KN A _ q,l
theorem KP(z:GU)(args:List eJ):z.row.toRowW.claim.post args (.bool I) args=I:=
 postW_of (r:=z.row.toRowW) (X:=(I==I))
  (show SA [] (.bool I) .bool=I by first|rfl|decide|simp [SA,WShape.arms,WShape.armsAll])
  (show(WTm.eq .res (.lit (.bool I))).value [] {args:=args,res:=Y (.bool I),after:=args}=Y (.bool (I==I))from w_eq_bool (w_res S) w_lit) S
variable{nw:aa}{m:aw}{tz:List aa}{Wd:(aa->Option J)->aD->Prop}{VY:au->aD->Prop}
def attach{d:GU}{n:Nat}{z:DefRec}(B:d.most=Y n) (C:z.params.defaults=[])(E:∀T D U v:J,y9 (docDef z.name z.params z.body z.scope T D U) ⟨[v],[]⟩=dA [(nw,v)])(F:z.scope.names.lookup nw=Y .local\/z.scope.names.lookup nw=Y .cell)(H:z.scope.kind=.function) (K:z.scope.isCoroutine=ao) (L:z.scope.isGenerator=ao)(P:∀(b:au) (j A c:ak) (e k:aa->Option J) (G:Z) (o:aL) (T D U:J) (M:Z) (a:List J) (f:List Int),Ground m tz [] Wd b j e k A.heap->VY b A.heap->A.heap.get? G=Y o->o.data=.func (docDef z.name z.params z.body z.scope T D U)->A.heap.CodeRec D z.name->e z.name=Y (.ref G)->A.heap.get? M=Y {cls:=.type "list",data:=.seq a.toArray}->rE a f->f.length<=n->c.gens= #[]->c.os=A.os->Fr A.heap A.heap.objs.size c.heap (l5 (eI z.name z.scope A.heap.objs.size G D).kindOf [(nw,.ref M)] λ_=>O)->Cl A.heap.objs.size (fE (A.heap.objs.size+1) z.scope.names []) c.heap (l6 (eI z.name z.scope A.heap.objs.size G D).kindOf [(nw,.ref M)] λ_=>O)->aI (aM d.prog b) (p6.deeper (eI z.name z.scope A.heap.objs.size G D)) (execs z.body (eI z.name z.scope A.heap.objs.size G D)) (λg h=>g=.ret (.bool I)/\OldK A.heap h.heap/\h.os=A.os/\jZ h.gens) (λ_ _=>False) c):WalkO m tz Wd VY d.row.toRowW z [] (λg a=>gO g a):=by
 intro b j A e k s Q G o T D U R V t u w x W X args be bi ab bk bl ad bm;obtain rfl:R=.none:=Dflts.none x C;obtain rfl:V=.none:=Dflts.noKw x;let⟨M,a,f,rfl,rfl,al,am,an⟩:=KO B ab ad;refine SD ?_;refine call_cells_ret (o:=o) (by rw [depth_caller];decide) t (fd_plain u) s.T.nolimit w (E T D U (.ref M)) (λy ap=>?_) (λas a0 a1 a2=>?_) K L H
 .obtain rfl:y=(nw,cp M):=bb.mp ap;rcases F with i|i
  .exact .inl i
  .exact .inr ⟨i,Gw _ _ _ (.inl i)⟩
 .refine g4 (P b j A {A with heap:=as,toks:=a0} e k G o T D U M a f s Q t (fd_plain u) w W al am an X S a1 a2) (λg h l=>?_) (λ_ _ l=>l);let⟨rfl,a3,a4,a5⟩:=l;exists .inl ⟨.bool I,.bool I,[],S,λ_=>S,.bool I,KP d _,λ_=>⟨Vb,λ_ bd=>(nomatch bd)⟩⟩,a3,a4,a5
end KL
namespace L2
def inClass(z:a8)(A:Nat):a8:=match z with
 |.ClassDef _ _ _ a _ _ _ _ _ _ _=>a.getD A (.Pass ⟨0,0,0,0⟩)
 |_=>.Pass ⟨0,0,0,0⟩
def oB(z:a8):Arguments:=match z with
 |.FunctionDef _ a _ _ _ _ _ _ _ _=>a
 |_=>{posonlyargs:=[],args:=[],vararg:=O,kwonlyargs:=[],kw_defaults:=[],kwarg:=O,defaults:=[]}
def jG(z:a8):List a8:=match z with
 |.FunctionDef _ _ a _ _ _ _ _ _ _=>a
 |_=>[]
def eg(z:a8):eA:=match z with
 |.FunctionDef _ _ _ _ _ _ a _ _ _=>a
 |_=>{kind:=.function,names:=[],isGenerator:=ao,isCoroutine:=ao}
abbrev aE:gj:=λ_ _ _ _ _ _=>False
abbrev E0:XK:=λ_ _ _=>False
variable{h:Cx}
theorem cx:Passes aE h E0:=λ_ _ _ _ _ _ _ A=>A.elim
structure a9(K:af)(x A:aa)(z:a8)(D:Z)(G:bc):Prop where
 ex:∃(N:J) (S:Option Z) (kV T U:J) (a:Option Z) (M ct:J) (b:Array (Option J)),
  G=nH x A (oB z) (jG z) (eg z) .none kV T U a M ct/\K.lookup D=Y ⟨N,S,.func G,b⟩/\rC K M A=I
 kp:kT K (.ref D)=I
variable{wS:a8}{d:Z}{nw FS:aa}{tz Sc:List aa}{AT:Sp}{pc:bc}{t:Nat}{m:aw}{p:au}{L:aa->Option J}{P:aD}{K:af}
def a9.ok(l:a9 K FS nw wS d pc)(M:oo tz Sc (eg wS))(n:∀z H A D,AT z H A D->z.length=Sc.length)(o:∀(T:J) (a:bZ) (h:List dS) (b:ak) (H:U) (z:List V) (A:VK) (D:XK),dj t (a.deeper (eI nw (eg wS) b.heap.objs.size d T))->AT z H A D->∃c,gi (hh aE m p K L P tz nw (eg wS) d T a h b H D).qp (jG wS) c/\c (Ends.fn A) (start tz z) H):f_ (t+1) d pc Sc AT:=by let⟨u,v,x,y,B,C,T,E,F,rfl,lk,N⟩:=l.ex;refine Ax lk N M n λa h b H z A D q r=>?_;let⟨c,s,e⟩:=o T a h b H z A D q r;exists c,s.qp,e
def a9.binds{c:aa}(g:a9 K c nw wS d pc)(h:∀(D M N:J) (T:Option Z) (U a:J) (b:List J),b.length=tz.length->y9 (nH c nw (oB wS) (jG wS) (eg wS) .none D M N T U a) ⟨b,[]⟩=dA (tz.zip b)):Binds K pc tz []:=by let⟨i,j,D,M,N,T,U,a,k,rfl,lk,l⟩:=g.ex;exact .all (h D M N T U a)
variable{wp Pv VN VO VP V0:J}{P3 VX:Option Z}{V3:Array (Option J)}
theorem oC(h:K.lookup d=Y ⟨V0,VX,.func (nH FS nw (oB wS) (jG wS) (eg wS) .none Pv VN VO P3 wp VP),V3⟩)(c:rC K wp nw=I) (i:kT K (.ref d)=I):a9 K FS nw wS d (nH FS nw (oB wS) (jG wS) (eg wS) .none Pv VN VO P3 wp VP):=⟨⟨V0,VX,Pv,VN,VO,P3,wp,VP,V3,S,h,c⟩,i⟩
variable{pv:b2}
theorem T(A:Nat)(G:h.N[A]?=Y nw:=by rfl)(M:qn h.env.scope nw:=by first|exact zx rfl|exact GW (zx rfl)|exact GW (GW rfl))(N:(nw==("__debug__":aa))=ao:=by decide)(U:(nw==("__classdict__":aa))=ao:=by decide):PE h (.Name nw pv) (jy A):=HX G M N U
variable{Tk VQ:Prop}
def b1(D:Tk):if ao=I then VQ else Tk:=by rwa [N d5]
def cf(D:Tk):if I=I then Tk else VQ:=by rwa [ai S]
def eb{c:Prop}[Decidable c](G:c->Tk)(M:¬c->VQ):if c then Tk else VQ:=by
 by_cases z:c
 .rw [ai z];exact G z
 .rw [N z];exact M z
def KQ{c:Prop}[Decidable c](D:c)(G:Tk):if(!decide c)=I then VQ else Tk:=by rw [cq D];exact b1 G
end L2
open L2
namespace L3
structure Bd(H:U)(G:aD)(a z N:Z):Prop where
 ex:∃A D M ts a0,G.get? a=Y A/\(A.cls=.ref N/\D[0]?=Y a0)/\A.data=.fields D/\D[1]?=Y (.ref z)/\z≠a/\G.get? z=Y M/\M.data=.fields ts/\ts[3]?=Y .none
 fa:H a=O
 fT:H z=O
def bA(S:aw)(T:au):gj:=λa H A b c z=>∃(G M N:Z) (D:U),c=.ref G/\z.os=A.os/\jZ z.gens/\Un (ea a) [] H D A.heap z.heap/\dv S T D z.heap/\
 Bd D z.heap G M N/\A.heap.get? G=O/\A.heap.get? M=O/\b (.ref N) O D
variable{P:aD}{d:Z}{m:aw}{p:au}
def d2.got{H:U}{o:HO}(A:d2 m p H P d o):∃M,P.get? d=Y M:=by
 cases o with
 |lst a=>let⟨_,_,_,_,z⟩:=A;exists _,z
 |tup a=>let⟨_,_,_,M,z,_⟩:=A;exists _,z
 |dK b=>let⟨_,_,_,_,o,_,_,z,_⟩:=A;exists _,z
 |dT b=>let⟨_,_,_,_,o,_,_,z,_⟩:=A;exists _,z
 |set c n=>let⟨o,_,_,_,z,_⟩:=A;exists _,z
 |ins D e fs=>let⟨_,_,_,z,_⟩:=A;exists _,z
 |own y=>exact A
 |xd fs=>let⟨_,⟨_,_,_,z,_⟩,_⟩:=A;exists _,z
 |r1 lo f=>let⟨_,_,_,z⟩:=A;exists _,z
 |bP M u=>let⟨z,_⟩:=A;exists _,z
 |k9 ps=>exact⟨_,show P.get? d=Y _ from A⟩
 |met g y=>exact⟨_,show P.get? d=Y _ from A⟩
 |ext h=>let⟨_,z,_⟩:=A;exact z
variable{r:U}{B:ak}{h:Cx}{pr:List (Z×aL)}{s4:L2.St}
theorem Be(A:Inv h pr s4 r B){o:HO}(D:r d=Y o):∃G,B.heap.get? d=Y G:=d2.got (A.bf d o D)
def KR(D:Inv h pr s4 r B)(G:B.heap.get? d=O):r d=O:=by
 cases a:r d with
 |none=>rfl
 |some o=>
  let⟨M,A⟩:=Be D a;rw [G]at A;cases A
def Bg(M:Inv h pr s4 r B)(bt:h.stack=h.env::h.outer)(R:h.ex=[])(bv:h.env.frame=Y h.env.locals){ls:List Z}(y:∀z∈ls,r z=O/\h.d9.heap.get? z=O){b k:Z}{X:J}{d:aD}{C:XK}(V:r b=O) (ab:h.d9.heap.get? b=O)(ad:zy (pO B.heap (ls++ea h.stack)) h.outer b (.ref k) X d) (al:B.heap.UpToSlots d) (am:C (.ref k) O r):bA h.prog h.w h.outer h.jx h.d9 C (.ref b) {B with heap:=d}:=by
 let⟨an,ca,ap,as,a0,N,a1,E,a2,a3,a4,a5,i,bd,F,H,be⟩:=ad;have l:∀z,z∈ea h.stack->z=h.env.locals\/z∈h.fs:=λz T=>bg.mp (M.r3 z T)
 have m:∀z o,B.heap.get? z=Y o->z∉ls->z∉ea h.stack->d.get? z=Y o:=λz o A e U=>an z o (uk _ A λD=>(bR.mp D).elim e U);have K:∀z u,r z=Y u->z∉ls/\z∉ea h.stack:=λz u A=>⟨λD=>(by rw [(y z D).1]at A;cases A),λD=>(by rw [M.r4 z D]at A;cases A)⟩
 have n:∀z o,h.d9.heap.get? z=Y o->z≠h.env.locals:=λz o A=>fB (gM (dN A) M.ok.above);have p:∀z o,h.d9.heap.get? z=Y o->z∉ls:=λz o A D=>by rw [(y z D).2]at A;cases A
 have f:∀z:Z,z∉h.ex:=λz D=>by rw [R]at D;cases D
 have L:∀z o,z∈h.fs->B.heap.get? z=Y o->∃P,d.get? z=Y {o with slots:=P}:=λz o T A=>by let⟨_,bi,g,q⟩:=M.funs.mem T;rw [A]at g;cases g;exact al z o A q
 have bk:r N=O:=by
  cases G:r N with
  |none=>rfl
  |some u=>
   let⟨j,H1⟩:=Be M G;let⟨e,U⟩:=K N u G;rw [uk _ H1 λD=>(bR.mp D).elim e U]at i;cases i
 have bl:h.d9.heap.get? N=O:=by
  cases G:h.d9.heap.get? N with
  |none=>rfl
  |some j=>
   let⟨s,a⟩:=M.base.there N j G (f N);have D:N∈ea h.stack:=by refine GX λU=>?_;rw [uk _ a λD=>(bR.mp D).elim (p N j G) U]at i;cases i
   rcases l N D with A|A
   .exact absurd A (n N j G)
   .obtain⟨_,bi,g,q⟩:=ap.mem A;rw [F]at g;cases g;exact absurd H (q E)
 exists b,N,k,r,S,M.os,M.bare,⟨λz o A σ T t=>?_,λz o A σ T t=>?_,λz o A σ t=>M.base.free z o A σ (f z),λz o A t=>?_,M.base.ki,M.base.iZ,M.base.kj⟩,λz u A=>?_,⟨⟨as,a0,a1,E,X,a2,a3,a4,a5,bd,F,H,be⟩,V,bk⟩,ab,bl,am
 .refine m z o (M.base.keep z o A σ T (f z)) (p z o A) λD=>?_;rcases l z D with G|G
  .exact n z o A G
  .exact T G
 .obtain⟨P,a⟩:=M.base.slot z o A σ T (f z);let⟨Q,w⟩:=L z _ T a;exists Q,w
 .obtain⟨s,a⟩:=M.base.there z o A (f z);by_cases T:z∈h.fs
  .obtain⟨Q,w⟩:=L z _ T a;exists _,w
  .exact⟨s,m z s a (p z o A) λD=>(l z D).elim (n z o A) T⟩
 .refine(M.bf z u A).iY (λc v bm H1=>?_) (λ_ G=>G) λ_ _ G=>G;have bn:∃x,r c=Y x:=by
   rcases bm with G|G
   .exact⟨u,G▸A⟩
   .exact⟨_,G⟩
  let⟨x,bs⟩:=bn;let⟨e,U⟩:=K c x bs;exact m c v H1 e U
variable{q Q:Z}{Db:XK}{LE:kS}{s5:J->ak->Prop}
def KS(M:Inv h pr s4 r B)(N:h.stack=h.env::h.outer)(e:h.ex=[])(a:h.env.frame=Y h.env.locals)(f:Bd r B.heap d q Q)(c:h.d9.heap.get? d=O)(g:h.d9.heap.get? q=O)(A:Db (.ref Q) O r) :aI LE h.A (Gv h.env (.ref d)) (λ_ k=>bA h.prog h.w h.outer h.jx h.d9 Db (.ref d) k) s5 B:=by
 let⟨⟨l,m,n,p,S,b,s,t,u,v,w,x,y⟩,z,X⟩:=f;have C:∀T∈h.stack,∀D,T.frame=Y D->D∈[d,q]++ea h.stack:=λT E D U=>eH _ (j0.mpr ⟨T,E,U⟩)
 have F:zy (pO B.heap ([d,q]++ea h.stack)) (h.env::h.outer) d (.ref Q) S B.heap:=
  ⟨λD o G=>y0 _ G,um _ (by simp),N▸GY M.stack C,l,m,q,n,p,b,s,t,u,um _ (by simp),v,w,x,y⟩
 refine wpAny_leaves_onW (N▸M.ok.frames) a F λL H K=>?_;refine Bg M N e a (ls:=[d,q]) (λD U=>?_) z c H K A;rcases bg.mp U with G|G
 .rw [G];exists z,c
 .rw [bb.mp G];exists X,g
variable{t1:List J}
def KU{X:Cx}(z:Inv X pr s4 r B)(M:X.stack=X.env::X.outer)(a:X.ex=[])(b:X.env.frame=Y X.env.locals){c:Z}(G:Heap.MadeExcOf B.heap P d (.ref c) t1)(h:Db (.ref c) O r) :aI LE X.A (Gv X.env (.ref d)) (λ_ k=>bA X.prog X.w X.outer X.jx X.d9 Db (.ref d) k) s5 {B with heap:=P}:=by
 have l:∀N∈X.stack,∀D,N.frame=Y D->D∈([]:List Z)++ea X.stack:=λN m D T=>eH _ (j0.mpr ⟨N,m,T⟩);refine wpAny_leaves_madeW (base:=pO B.heap ([]++ea X.stack)) (h:=B.heap) (M▸z.ok.frames) b (λD o U=>y0 _ U) (by rw [<-M];exact GY z.stack l) G λq A n _ _ p=>?_;refine Bg z M a b (ls:=[]) (λD T=>nomatch T) (KR z G.new) ?_ n ((Vc G.keeps).trans p) h;cases U:X.d9.heap.get? d with
 |none=>rfl
 |some o=>
  let⟨s,f⟩:=z.base.there d o U (by rw [a];simp);rw [G.new]at f;cases f
abbrev fV:List J:=[.type "Exception",.type "BaseException",.type "object"]
set_option tactic.hygienic true
variable{EQ:String}
def wu{K:af}(D:K.In P)(z:gP K d t1 EQ=I):∃g h M N S T U a b c r s t u v w mN,P.get? d=Y (zz M N d h S g T U a b c r s t u v w EQ)/\P.Ns h mN/\mN "__init__"=O/\OwnTail P t1 g:=by
 unfold gP at z;split at z
 .rename_i x y i B;split at z
  .rename_i V C j k l m E n o F;simp only [bx,iM,Bool.not_eq_true']at z;let⟨⟨⟨⟨⟨H,L⟩,p⟩,A⟩,G⟩,q⟩:=z;subst H L;let⟨M,S,X,Q,N,T,U,a,b,c,ab⟩:=y;dsimp only at o p G q;subst o p;have R:i= #[j,k,l,m,Y (.builtin E),n]:=by
    cases i with
    |mk ad=>exact bD Array.mk F
   subst R;exists C,Q,M,N,S,T,U,a,b,c,x,j,k,l,m,n,_,D _ _ B,.of_isNs (PySem.W.isNs_of_in D G),PySem.W.nsMap_none_of_in D G q,PySem.W.tail_of_in D A
  .cases z
 .cases z
set_option tactic.hygienic false
variable{t:Nat}{SL:aL}{ss:bZ}{nw FS WM:aa}{pp s3:Z}{We Ww:List J}{Ty VZ WN WO:Bool}{tz:List aa}{Wx WP:Option Bool}{P3 VX:Option Z}{Wz WA WB WC WD WQ WR WS:Option J}{TD:String}
def KW{M:Array F9}{N:Drawn}{T:OsState}{b:Bool->ak->Prop}  {c:List J}   {o:List J}    {u v:Option J} {y:aa}    {H:List aa} {K:List J}     (z:P.get? q=Y (zz nw FS q pp We c Ty tz o VZ Wx P3 Wz WA u v WB EQ)) (e:P.get? d=Y (zz y WM d s3 Ww t1 WN H K WO WP VX WC WD WQ WR WS TD))(al:P.get? Q=Y SL) (am:SL.cls=.ref q) (an:t1.contains (.type "BaseException")=I) (ap:(cp q::c).contains (.ref d)=ao)(as:b ao ⟨P,M,N,t,T⟩):aI LE ss (excMatches (.ref Q) (.ref d)) b s5 ⟨P,M,N,t,T⟩:=by
 have a0:(cp d::t1).contains (.type "BaseException")=I:=by rw [SE,an,Bool.or_true]
 have a1:=tc_notTuple;unfold excMatches
 repeat (first|(with_reducible refine GZ al ?_;rw [am])|with_reducible refine GZ e ?_|with_reducible refine GZ z ?_|(with_reducible refine SF e ?_;rw [a0])|(with_reducible refine SF z ?_;rw [ap])|wp_step)
 exact as
variable{wS:a8}{Sc:List aa}{AT:Sp}{pc:bc}{L:aa->Option J}{K:af}
def KX{c:aa}(l:a9 K nw c wS d pc)(M:oo tz Sc (eg wS))(n:∀z H A D,AT z H A D->z.length=Sc.length)(o:∀(T:J) (a:bZ) (g:List dS) (b:ak) (H:U) (z:List V) (A:VK) (D:XK),dj t (a.deeper (eI c (eg wS) b.heap.objs.size d T))->AT z H A D->∃j,gi (hh (bA m p) m p K L P tz c (eg wS) d T a g b H D) (jG wS) j/\j (Ends.fn A) (start tz z) H):k_ (t+1) d pc Sc AT:=by let⟨s,w,u,v,x,y,T,B,C,rfl,lk,N⟩:=l.ex;exact Ax lk N M n λa g b H z A D q r=>o T a g b H z A D q r
theorem _root_.L2.a9.go(o:a9 K FS nw wS d pc)(e:List aa)(T:∀(a:J) (b:bZ) (h:List dS) (c:ak) (H:U) (z:List V) (D:VK) (M:XK),dj t (b.deeper (eI nw (eg wS) c.heap.objs.size d a))->AT z H D M->e.Nodup->(b.deeper (eI nw (eg wS) c.heap.objs.size d a)).units+1<cK->20000<aU->∃k,gi (hh aE m p K L P e nw (eg wS) d a b h c H M).qp (jG wS) k/\k (Ends.fn D) (start e z) H)(l:oo e tz (eg wS):=by exact⟨S,S,S,by decide+kernel,S,by decide+kernel,by decide+kernel⟩)(q:∀z H D M,AT z H D M->z.length=tz.length:=by intro _ _ _ _ N;first|(cases N;subst_vars;rfl)|repeat (first|(let⟨rfl,_⟩:=N;rfl)|let⟨_,N⟩:=N)):f_ (t+1) d pc tz AT:=
 o.ok l q λa b h c H z D M A N=>T a b h c H z D M A N l.nd (by have:=A.un;lia) (by decide)
theorem _root_.L2.a9.et(o:a9 K FS nw wS d pc)(e:List aa)(T:∀(a:J) (b:bZ) (h:List dS) (c:ak) (H:U) (z:List V) (D:VK) (M:XK),dj t (b.deeper (eI nw (eg wS) c.heap.objs.size d a))->AT z H D M->e.Nodup->(b.deeper (eI nw (eg wS) c.heap.objs.size d a)).units+1<cK->20000<aU->∃k,gi (hh (bA m p) m p K L P e nw (eg wS) d a b h c H M) (jG wS) k/\k (Ends.fn D) (start e z) H)(l:oo e tz (eg wS):=by exact⟨S,S,S,by decide+kernel,S,by decide+kernel,by decide+kernel⟩)(q:∀z H D M,AT z H D M->z.length=tz.length:=by intro _ _ _ _ N;first|(cases N;subst_vars;rfl)|repeat (first|(let⟨rfl,_⟩:=N;rfl)|let⟨_,N⟩:=N)):k_ (t+1) d pc tz AT:=
 KX o l q λa b h c H z D M A N=>T a b h c H z D M A N l.nd (by have:=A.un;lia) (by decide)
variable{wp:J}{ST:List dS}
def dw{c:List aa}{e:eA}{H:U}:Passes (bA m p) (hh (bA m p) m p K L P c nw e d wp ss ST B H Db) Db:=by
 intro y A C j N E T k;let⟨l,M,F,w,rfl,n,f,q,r,s,t,u,v⟩:=k;have a:∀z,j.heap.get? z=O->B.heap.get? z=O:=λz N=>by
  cases D:B.heap.get? z with
  |none=>rfl
  |some o=>
   let⟨Q,b⟩:=T.base.there z o D (λx=>nomatch x);rw [N]at b;cases b
 exact KS (T.qo n q r f (ch:=[]) λ_ D=>nomatch D) S rfl rfl s (a l t) (a M u) v
def KY(z:Z)(A:XK):TS:=λ_ _ H=>A (.ref z) O H
variable{pv wn Wc:b2}{WT:String}
def jH{b:eA}{c:Z}{H:U}(o:ExcBaseFacts EQ TD WT t1) (D:fV.contains (.type EQ)=I) (q:gP K d fV TD=I)(r:Gl (hh (bA m p) m p K L P tz FS b c wp ss ST B H Db) nw) (s:L nw=Y (.ref d)) (t:ss.handled=O) (u:(nw==("__debug__":aa))=ao:=by decide):PS (hh (bA m p) m p K L P tz FS b c wp ss ST B H Db) (.Raise (Y (.Call (.Name nw pv) [] [] wn)) O Wc) (KY d Db):=by
 intro a3 a4 a5 bd be N v;let⟨x,y,z,C,E,A,Q,R,V,X,ab,ad,al,am,an,ap,mN,as,a0,a1,i⟩:=wu N.fb q;refine wpAny_Raise_call_subU (C:=d) (nm:=z) (q:=C) (N:=y) (bs:=E) (bm:=x) (hdct:=A) (sn:=Q) (sub:=R) (ab:=V) (col:=X) (dd:=ab) (k0:=ad) (k1:=al) (k2:=am) (k3:=an) (k5:=ap)
  o D j8 (mN:=mN) (i.hasType (by decide)) (show(ss.deeper _).handled=O from t) S a1 (og N r s ⟨S,?_⟩ u)
 exact evalArgs_empty ⟨S,cP _,as,a0,i,λbi bk a2=>KU N S rfl rfl a2 v⟩
def mroIn(K:af)(z:Z):Bool:=match K.lookup z with
 |some ⟨_,_,.cls a,_⟩=>a.mro==.ref z::fV
 |_=>ao
set_option tactic.hygienic true
def KZ{K:af}(M:K.In P)(z:mroIn K d=I)(n:P.get? d=Y (zz nw FS d q We t1 Ty tz Ww VZ Wx P3 Wz WA WB WC WD EQ)):t1=fV:=by
 unfold mroIn at z;split at z
 .rename_i c p A r o;cases ((M _ _ o).symm.trans n);exact(p7 (iM.mp z)).2
 .cases z
set_option tactic.hygienic false
variable{s0:U}{s':ak}
def land(T:Inv h pr s4 s0 B)(i:s'.os=B.os)(j:jZ s'.gens)(N:Un (ea h.stack) [] s0 r B.heap s'.heap)(k:dv h.prog h.w r s'.heap)(x:r d=O)(y:r q=O)(X:B.heap.get? d=O) (E:B.heap.get? q=O)  (F:(pO s'.heap ([d,q]++ea h.stack)).StaysIn P) (H:s'.heap.UpToSlots P):Inv h pr s4 r {s' with heap:=P}:=by
 have l:=T.qo i N k j (ch:=[]) λ_ D=>nomatch D
 have e:∀z o,s'.heap.get? z=Y o->z≠d->z≠q->z∉ea h.stack->P.get? z=Y o:=λz o A K L S=>F z o (uk _ A λM=>by
  rcases bR.mp M with M|M
  .rcases bg.mp M with M|M
   .exact K M
   .exact L (bb.mp M)
  .exact S M)
 have m:∀z o,B.heap.get? z=Y o->z≠d:=λz o A D=>by rw [D,X]at A;cases A
 have n:∀z o,B.heap.get? z=Y o->z≠q:=λz o A D=>by rw [D,E]at A;cases A
 have p:∀z o,z∈ea h.stack->s'.heap.get? z=Y o->∃σ,P.get? z=Y {o with slots:=σ}:=λz o G A=>by let⟨_,ad,s1,Q⟩:=l.stack.mem G;rw [A]at s1;cases s1;exact H z o A Q
 refine T.qo (s':={s' with heap:=P}) i ⟨λz o A f G b=>?_,λz o A f G b=>?_,N.free,λz o A b=>?_,N.ki,N.iZ,N.kj⟩ (λz u A=>?_) j (ch:=[]) λ_ D=>nomatch D
 .exact e z o (N.keep z o A f G b) (m z o A) (n z o A) G
 .obtain⟨σ,a⟩:=N.slot z o A f G b;let⟨s,g⟩:=p z _ G a;exists s,g
 .obtain⟨t,a⟩:=N.there z o A b;by_cases G:z∈ea h.stack
  .obtain⟨s,g⟩:=p z _ G a;exists _,g
  .exact⟨t,e z t a (m z o A) (n z o A) G⟩
 .refine(k z u A).iY (λc v R V=>?_) (λ_ D=>D) λ_ _ D=>D;have ab:∃w,r c=Y w:=by
   rcases R with D|D
   .exact⟨u,D▸A⟩
   .exact⟨_,D⟩
  let⟨w,U⟩:=ab;refine e c v V (λD=>?_) (λD=>?_) λD=>?_
  .rw [D,x]at U;cases U
  .rw [D,y]at U;cases U
  .rw [l.r4 c D]at U;cases U
abbrev Cx.kx(z:Cx)(A:bZ)(D:List (Z×aL)):Cx:={z with A:=A,calm:=ao,pn:=D,xe:=λ_ _=>False}
abbrev Cx.oD(z:Cx)(A:List (Z×aL))(D:J->ak->Prop):Cx:={z with pn:=A,xe:=D}
theorem K0(z:h.Ok)(D:ss.frames=h.A.frames)(G:List (Z×aL)):(Cx.kx h ss G).Ok:=
 ⟨z.mod,z.kind,z.glob,z.blt,z.above,z.inj,z.has,z.mn,(λM=>nomatch M),D.trans z.frames,z.ob,z.oe,z.bs,z.ip,z.mq,z.mr,z.funs,z.km⟩
theorem K1(z:h.Ok)(A:List (Z×aL))(D:J->ak->Prop):(Cx.oD h A D).Ok:=
 ⟨z.mod,z.kind,z.glob,z.blt,z.above,z.inj,z.has,z.mn,z.hd,z.frames,z.ob,z.oe,z.bs,z.ip,z.mq,z.mr,z.funs,z.km⟩
variable{H:U}
theorem Bh(z:Inv h pr s4 H B)(G:ss.frames=h.A.frames):Inv (Cx.kx h ss (h.pn++pr)) [] s4 H B:=
 ⟨K0 z.ok G _,z.os,z.bare,z.base,z.loc,z.cell,z.free,z.gG,λM D=>z.pin M (by rw [b0]at D;exact D),z.bf,z.len⟩
theorem sD(A:h.Ok)(z:Inv (Cx.kx h ss (h.pn++pr)) [] s4 H B):Inv h pr s4 H B:=
 ⟨A,z.os,z.bare,z.base,z.loc,z.cell,z.free,z.gG,λG M=>z.pin G (by rwa [b0]),z.bf,z.len⟩
theorem K2(z:Inv h pr s4 H B)(D:J->ak->Prop):Inv (Cx.oD h (h.pn++pr) D) [] s4 H B:=
 ⟨K1 z.ok _ _,z.os,z.bare,z.base,z.loc,z.cell,z.free,z.gG,λG A=>z.pin G (by rw [b0]at A;exact A),z.bf,z.len⟩
variable{WH:List (Z×aL)}
theorem qI(A:h.Ok)(z:Inv (Cx.oD h (h.pn++pr) s5) WH s4 H B):Inv h pr s4 H B:=
 ⟨A,z.os,z.bare,z.base,z.loc,z.cell,z.free,z.gG,λM N=>z.pin M (gN _ N),z.bf,z.len⟩
variable{Gc:Ends}
def K3(M:h.Ok){S:Flow}(N:SP (Cx.kx h ss (h.pn++pr)) [] Gc S B):SP h pr Gc S B:=by
 cases S with
 |next=>let⟨z,A,D,G⟩:=N;exists z,A,sD M D,G
 |brk=>let⟨z,A,D,G⟩:=N;exists z,A,sD M D,G
 |cont=>let⟨z,A,D,G⟩:=N;exists z,A,sD M D,G
 |ret u=>let⟨v,z,A,D,a,G⟩:=N;exists v,z,A,sD M D,a,G
def sE(M:h.Ok){fl:Flow}(N:SP (Cx.oD h (h.pn++pr) s5) [] Gc fl B):SP h pr Gc fl B:=by
 cases fl with
 |next=>let⟨z,A,D,G⟩:=N;exists z,A,qI M D,G
 |brk=>let⟨z,A,D,G⟩:=N;exists z,A,qI M D,G
 |cont=>let⟨z,A,D,G⟩:=N;exists z,A,qI M D,G
 |ret u=>let⟨v,z,A,D,U,G⟩:=N;exists v,z,A,qI M D,U,G
inductive PH (z:Cx):List rI->List (Z×TS)->Prop
 |nil:PH z [] []
 |cons {x:aa} {np pos:b2} {b:a8} {kx:List a8} {rest:List rI} {a:Z} {t:TS} {rs:List (Z×TS)} {newId:String}:
   Gl z x->z.G x=Y (.ref a)->gP z.K a fV newId=I->mroIn z.K a=I->(x==("__debug__":aa))=ao->
   (∀(A:bZ) (pn:List (Z×aL)),gi (Cx.kx z A pn) (b::kx) t)->PH z rest rs->PH z (.ExceptHandler (Y (.Name x np)) O (b::kx) pos::rest) ((a,t)::rs)
def catchR(z:Nat)(A:Ends):List (Z×TS)->Z->U->Prop
 |[],_,_=>False
 |(b,c)::d,a,H=>if a=b then c A (Gu z O) H else catchR z A d a H
def Bi(A:Nat)(D:List (Z×TS))(G:Ends):XK:=λc _ H=>∃z,c=.ref z/\catchR A G D z H
def K4(A:Nat)(D:XK->TS)(G:List (Z×TS)):TS:=λz M H=>D (Bi A G z) z M H
set_option tactic.hygienic true
def K5{H:U}:∀{M:List rI} {G:List (Z×TS)},PH h M G->catchR t Gc G d H->∃a,gP h.K d fV a=I/\mroIn h.K d=I:=by
 intro M G N;induction N with
 |nil=>intro z;exact z.elim
 |cons e f fW b hd g N c=>
  intro z;unfold catchR at z;split at z
  .rename_i A;subst A;exists _,fW,b
  .exact c z
set_option tactic.hygienic false
variable{Ps:ak}
def K6(C:Inv h pr s4 s0 Ps)(T:B.os=Ps.os)(i:jZ B.gens)(j:Un (ea h.stack) [] s0 r Ps.heap B.heap)(k:dv h.prog h.w r B.heap)(l:r d=O)(m:r Q=O)(n:Ps.heap.get? d=O) (o:Ps.heap.get? Q=O)  (y:gP h.K q fV EQ=I) (X:mroIn h.K q=I) (p:∀G:J,(h.A.mark (Y G)).frames=h.A.frames):∀{e:List rI} {U:List (Z×TS)},PH h e U->∀{M:aD},zy (pO B.heap ([d,Q]++ea h.stack)) (h.env::h.outer) d (.ref q) wp M->B.heap.UpToSlots M->catchR h.N.length Gc U q r->aI (aM h.prog h.w) h.A (handleBy (.ref d) h.env e) (SP h pr Gc) h.xe {B with heap:=M}:=by
 intro e U D;induction D with
 |nil=>intro M _ _ A;exact A.elim
 | @cons x am an ap kx rest w as U a1 E F fW a2 hd H D K=>
  intro M b f A;have c:=land C T i j k l m n o b.1 f
  refine wpAny_handleBy_cons (codeAny_handlers_test (og (Bh c (p (.ref d))) E F ?_ hd)) (by intro z;cases z);let⟨a3,a4,a5,bd,be,bi,bk,bl,bm,bn,bs,bt,bv,ca,cd,ce,mN,g,ch,ci,L⟩:=wu c.fb y;let⟨cl,cn,co,cr,cs,ct,c0,c1,c2,c3,c4,c5,c6,c7,c8,c9,db,P,dd,dl,a⟩:=wu c.fb fW;let⟨dp,s,t⟩:=b.there;unfold catchR at A;by_cases G:q=w
  .subst G;rw [ai S]at A;refine wpAny_excMatches_sub_self g s t (L.hasType (by decide)) (codeAny_handlers_suite ?_);refine lands_againW b λR V ab=>?_;have u:=land C T i j k l m n o V.1 (f.trans ab)
   have ad:Inv h pr (Gu h.N.length O) r {B with heap:=R}:=u.weak (RT▸u.len.symm) λds v z=>by
    rw [RR]at z;split at z
    .cases z
    .cases z
   exact g4 (H (h.A.mark (Y (.ref d))) (h.pn++pr) [] _ _ r Gc (Bh ad (p (.ref d))) A) (λdx dK z=>K3 C.ok z) λ_ _ z=>z.elim
  .rw [N G]at A;refine KW g P s t (a.hasType (by decide)) ?_ (K b f A);rw [KZ c.fb X g];have al:(cp w==cp q)=ao:=by
    rw [iK];intro z;cases z;exact G S
   rw [SE,al];rfl
variable{Os:List a8}
def K7{U:rI}{b:List rI}{c:List (Z×TS)}{v:b2}{D:XK->TS}(i:h.stack=h.env::h.outer)(w:h.env.frame=Y h.env.locals)(T:∀(j:List (Z×aL)) (k:J->ak->Prop) (l:XK),Passes (bA h.prog h.w) (Cx.oD h j k) l->gi (Cx.oD h j k) Os (D l))(m:PH h (U::b) c):PS h (.Try Os (U::b) [] [] v) (K4 h.N.length D c):=by
 intro pr x s4 H Gc A y;refine wpAny_Try_except ?_;refine g4 (T (h.pn++pr) (λG B=>aI (aM h.prog h.w) h.A (noteFrame G h.env) (λ_ e=>aI (aM h.prog h.w) h.A (setFlight G O) (λ_ X=>aI (aM h.prog h.w) h.A (handleBy G h.env (U::b)) (SP h pr Gc) h.xe X) h.xe e) h.xe B) (Bi h.N.length c Gc) ?_ [] x s4 H Gc (K2 A _) y) (λE e z=>?_) λG e z=>z
 .intro ca cd r B G Ps F K;obtain⟨d,q,Q,s0,rfl,n,p,g,σ,L,P,a,M⟩:=K;let⟨ce,R,M⟩:=M;cases R;let⟨ci,V,ab⟩:=K5 m M;have s:=qI A.ok F
  have t:=s.qo n g σ p (ch:=[]) λ_ z=>nomatch z
  let⟨⟨ad,al,am,an,wp,ap,as,a1,a2,a3,a4,a5,bd⟩,be,bi⟩:=L;have bk:∀f∈h.stack,∀N,f.frame=Y N->N∈[d,q]++ea h.stack:=λf bl N T=>eH _ (j0.mpr ⟨f,bl,T⟩)
  have bm:zy (pO Ps.heap ([d,q]++ea h.stack)) (h.env::h.outer) d (.ref Q) wp Ps.heap:=
   ⟨λN o z=>y0 _ z,um _ (by simp),i▸GY t.stack bk,ad,al,q,am,an,ap,as,a1,a2,um _ (by simp),a3,a4,a5,bd⟩
  refine wpAny_looks_onW (i▸t.ok.frames) w bm λcl bn bs=>?_;refine wpAny_landsW bn λcn bt bv=>?_;exact K6 s n p g σ be bi P a V ab (λ_=>S) m bt (bs.trans bv) M
 .cases E with
  |next=>exact uu (sE A.ok z)
  |brk=>exact sE (fl:=.brk) A.ok z
  |cont=>exact sE (fl:=.cont) A.ok z
  |ret u=>exact sE (fl:=.ret u) A.ok z
abbrev bW:=List (List Key×Z×V)
abbrev eR:bW->List (List Key×Z×J)->Prop:=cE λz A=>z.1=A.1/\z.2.1=A.2.1/\RelV z.2.2 A.2.2
def qJ(M:aw)(N:au)(A:Z)(z:bW)(S:aD):Prop:=z.length<=aU/\(A==eo)=ao/\(z.map (·.1)).Nodup/\
 ∃D,eR z D/\∃o G T,S.get? A=Y o/\o.ExactDict/\o.data=.dict G T/\G.toList=D.map (jX (iL (eK M N)))
def dX(z:aw)(A:au)(D:Z)(G:bW):HO:=.ext (qJ z A D G)
def cb(K:af)(H:U)(A:bW):Prop:=∀z∈A,ax K H z.2.1 (z.1.map kV)
def cm(z:bW)(A:List Key):Option V:=(z.find? λD=>decide (D.1=A)).map (·.2.2)
def cy(A:bW)(D:List Key)(G:Z)(v:V):bW:=if(cm A D).isSome then A.map (λz=>if z.1=D then(z.1,z.2.1,v)else z)else A++[(D,G,v)]
variable{LT:aD}{pu:bW}
def K8(z:qJ m p d pu P)(A:∀o,P.get? d=Y o->LT.get? d=Y o):qJ m p d pu LT:=by let⟨D,G,M,N,S,o,T,U,b,c⟩:=z;exists D,G,M,N,S,o,T,U,A o b,c
theorem sF(z:qJ m p d pu P):d2 m p H P d (dX m p d pu):=
 ⟨z,(let⟨_,_,_,_,_,o,_,_,A,_⟩:=z;⟨o,A⟩),λM N D G=>K8 D G⟩
theorem sG(z:d2 m p H P d (dX m p d pu)):qJ m p d pu P:=z.1
variable{v4:List (List Key×Z×J)}
def eR.keys(A:eR pu v4):pu.map (·.1)=v4.map (·.1):=by
 induction A with
 |nil=>rfl
 |cons P _ b=>rw [aZ,aZ,P.1,b]
def eR.val(G:eR pu v4)(z:List Key):fv (cm pu z) ((fO v4 z).map (·.2)):=by
 induction G with
 |nil=>exact j2
 | @cons p c ps d P _ b=>
  unfold cm fO at b⊢;rw [gc,gc,<-P.1];by_cases D:p.1=z
  .rw [cq D];exact P.2.2
  .rwa [bU D]
def eR.mem(N:eR pu v4):∀z∈v4,∃A∈pu,A.1=z.1/\A.2.1=z.2.1:=by
 induction N with
 |nil=>intro z D;cases D
 | @cons A c ps d P _ b=>
  intro z D;rcases bg.mp D with G|G
  .subst G;exists A,bE,P.1,P.2.1
  .obtain⟨S,T,U⟩:=b z G;exists S,bC _ T,U
def eR.put(G:eR pu v4)(z:List Key)(b:Z){v:V}{u:J}(U:RelV v u):eR (cy pu z b v) (hQ v4 z b u):=by
 have d:(cm pu z).isSome=(fO v4 z).isSome:=by have:=(G.val z).my;rwa [kU]at this
 unfold cy hQ;rw [d];by_cases A:(fO v4 z).isSome=I
 .rw [ai A,ai A];clear d A;induction G with
  |nil=>exact .nil
  | @cons p e ps i P _ c=>
   refine .cons ?_ c;unfold putAt;simp only [<-P.1];by_cases f:p.1=z
   .simp only [ai f];exists j2,P.2.1,U
   .simp only [N f];exact P
 .rw [N A,N A];have g:∀{M:bW} {T:List (List Key×Z×J)},eR M T->eR (M++[(z,b,v)]) (T++[(z,b,u)]):=by
   intro M T e;induction e with
   |nil=>exact .cons ⟨S,S,U⟩ .nil
   |cons P _ c=>exact .cons P c
  exact g G
def wx(aX:bW)(A:List Key)(D:Z)(v:V):(cy aX A D v).length<=aX.length+1:=by
 unfold cy;split
 .rw [z];lia
 .rw [br];exact aR _
variable{BT:List Key}{aX:bW}
def ly{K:af}(z:cb K H aX)(v:V)(b:ax K H d (BT.map kV)):cb K H (cy aX BT d v):=by
 unfold cy;split
 .intro N A;let⟨T,U,rfl⟩:=bH.mp A;split
  .exact z T U
  .exact z T U
 .intro N A;rcases bR.mp A with D|D
  .exact z N D
  .rwa [bb.mp D]
theorem cb.same{K:af}(G:cb K H pu)(M:∀A D,ax K H A D->ax K r A D):cb K r pu:=λN S=>M _ _ (G N S)
variable{ul:List V}
def bF{K:af}{o:HO}{c:Z}(z:cX (H d)\/H d=O)(h:ax K H c ul):ax K (upd H d o) c ul:=by
 have N:∀u,H c=Y u->(∀M,u=.tup M->c≠d):=λu T M U D=>by
  subst D;rw [T,U]at z;rcases z with z|z
  .exact z
  .cases z
 rcases h with(h|⟨b,h⟩)|h
 .exact .inl (.inl (ah (N _ h _ S)▸h))
 .refine .inl (.inr ⟨b,?_⟩);have:c≠d:=λD=>by
   subst D;rw [h]at z;rcases z with z|z
   .exact z
   .cases z
  rwa [ah this]
 .exact .inr h
def lz(z:Inv h pr s4 H B)(D:ax h.K H d (BT.map kV)):(iL (eK h.prog h.w)).is B.heap BT d:=by let⟨G,M,⟨o,N,c,S,T⟩,_⟩:=z.tuple D;exact⟨o,G.toArray,S,N,c,T,by simpa using wi M⟩
def jI(G:Inv h pr s4 H B)(M:H d=Y (dX h.prog h.w d pu))(N:cb h.K H pu):pu.length<=aU/\(d==eo)=ao/\∃z,eR pu z/\B.heap.DictOfH (iL (eK h.prog h.w)) d z:=by
 let⟨S,T,U,z,D,o,c,X,e,f,g,a⟩:=sG (G.bf d _ M);exists S,T,z,D,o,c,X,e,f,g,a,λi j=>?_,D.keys▸U;let⟨l,m,n,p⟩:=D.mem i j;have:=lz G (N l m)
 rw [n,p]at this;exact this
variable{IR:J->ak->Prop}{v:V}
def K9(N:ss.units+1<cK)(D:Inv h pr s4 H B)(S:H d=Y (dX h.prog h.w d pu))(T:cb h.K H pu)(U:ax h.K H q (BT.map kV))(c:cm pu BT=Y v)(X:∀z M,Inv h pr s4 H M->RelV v z->s5 z M):aI (aM h.prog h.w) ss (nJ (.ref d) (.ref q)) s5 IR B:=by let⟨l,m,e,f,g⟩:=jI D S T;let⟨z,hw,k⟩:=fv.some_of (v:=v) (o:=(fO e BT).map (·.2)) (c▸f.val BT);let⟨n,i,j⟩:=cv.mp hw;refine GI (nN N) (lz D U) g i ?_;rw [j];exact X z _ (D.tok _) k
def Bj(N:ss.units+1<cK)(z:Inv h pr s4 H B)(S:H d=Y (dX h.prog h.w d pu))(T:cb h.K H pu)(U:ax h.K H q (BT.map kV))(c:∀G,Inv h pr s4 H G->s5 (.bool (cm pu BT).isSome) G):aI (aM h.prog h.w) ss (fD .In (.ref q) (.ref d)) s5 IR B:=by
 let⟨g,X,a,e,f⟩:=jI z S T;refine wpAny_in_heap (nN N) (lz z U) X f ?_;have M:=(e.val BT).my
 rw [kU]at M;rw [<-M];exact c _ (z.tok _)
def sH{t':Nat}{sI:bW}(S:Inv h pr s4 H B)(T:H d=Y (dX h.prog h.w d pu))(U:sI.length<=aU)(c:(d==eo)=ao)(G:eR sI v4)(X:P.DictOfH (iL (eK h.prog h.w)) d v4) (e:ib d B.heap P):Inv h pr s4 (upd H d (dX h.prog h.w d sI)) {B with heap:=P,toks:=t'}:=by let⟨M,f,g,N,a,i,j,_,l⟩:=X;refine wj S (T▸j2) e ⟨M,N⟩ (sF ⟨U,c,G.keys▸l,v4,G,M,f,g,N,a,i,j⟩)
variable{KF:Unit->ak->Prop}
def La(S:ss.units+1<cK)(z:Inv h pr s4 H B)(G:H q=Y (dX h.prog h.w q pu))(T:cb h.K H pu)(U:ax h.K H d (BT.map kV))(n:pu.length<aU)(c:RelV v wp)(X:∀M,Inv h pr s4 (upd H q (dX h.prog h.w q (cy pu BT d v))) M->KF () M):aI (aM h.prog h.w) ss (setItem (.ref q) (.ref d) wp) KF s5 B:=by
 let⟨e,f,g,N,b⟩:=jI z G T;have i:g.length<=aU:=bO N▸e
 have j:(cy pu BT d v).length<=aU:=by have:=wx pu BT d v;lia
 exact Sg (hsz:=i) (nN S) (lz z U) b λo l m=>X _ (sH z G j f (N.put BT d c) l m)
def wy(M:Inv h pr s4 H B)(N:H d=Y (dX h.prog h.w d pu)):B.TypeIs (.ref d) "dict"/\(∀q,cp d=.ref q->∃z,B.heap.get? q=Y z/\z.dict=O)/\(d==eo)=ao:=by let⟨U,S,c,a,e,o,f,g,D,G,b,i⟩:=sG (M.bf d _ N);exists ⟨o,D,G.1⟩,λq T=>by cases T;exact⟨o,D,G.2.1⟩,S
inductive Bk (z:aw) (w:au) (K:af) (H:U) (a:Z) (y:V) (o:Option V):Prop
 |mk(c k b:_)(_:H a=Y (dX z w a c))(_:cb K H c)(_:y=.ref b)(_:ax K H b (k.map kV))(_:o=cm c k)
inductive Lb (A:aw) (w:au) (K:af) (D:VK) (x:V) (y:V) (z:U):Prop
 |mk(a v:_)(_:x=.ref a)(_:Bk A w K z a y (Y v))(_:D v z)
def Bl(A:aw)(D:au)(K:af)(G M:TE):TE:=λz H N=>G z H λS T=>M z T λy U=>Lb A D K N S y U
inductive Lc (A:aw) (w:au) (K:af) (D:VK) (y:V) (x:V) (z:U):Prop
 |mk(a o:_)(_:x=.ref a)(_:Bk A w K z a y o)(_:D (.bl o.isSome) z)
def Bm(A:aw)(D:au)(K:af)(G M:TE):TE:=λz H N=>G z H λy S=>M z S λT U=>Lc A D K N y T U
inductive Ld (A:aw) (w:au) (K:af) (D:Ends) (G:L2.St) (v:V) (x:V) (y:V) (z:U):Prop
 |mk(a c k b:_)(_:x=.ref a)(_:z a=Y (dX A w a c))(_:cb K z c)(_:y=.ref b)(_:ax K z b (k.map kV))(_:c.length<aU)(_:D.nx G (upd z a (dX A w a (cy c k b v))))
def Le(A:aw)(D:au)(K:af)(G M N:TE):TS:=λS z H=>N z H λv T=>G z T λU a=>M z a λy b=>Ld A D K S z v U y b
def Lf(A:aw)(D:au)(K:af):TE:=λ_ H G=>∀z,H z=O->G (.ref z) (upd H z (dX A D z []))
variable{op o:a7}{sw zn:TE}
def ff(M:h.A.units+1<cK)(N:PE h o sw)(T:PE h op zn)(U:oA op):PE h (.Subscript o op pv) (Bl h.prog h.w h.K sw zn):=by intro z a A H C b c;refine sy zk.lookup U (aN (N z a A H _ b c) λu d ⟨E,e,f,g,X⟩=>aN (T z d A e _ f X) λj K ⟨y,k,D,l,m,v,n,⟨L,P,p,G,q,r,s,t⟩,w⟩=>?_);subst n r;obtain rfl:u=cp m:=g;cases (show j=cp p from l);exists (wy D G).1,K9 M D G q s t.symm λQ R x B=>⟨v,k,x,B,w⟩
def wz(D:h.A.units+1<cK)(G:PE h op zn)(M:PE h o sw):PC h .In op o (Bm h.prog h.w h.K zn sw):=by intro z N A H B T U;refine aN (G z N A H _ T U) λa b ⟨y,c,d,e,f⟩=>aN (M z b A c _ d f) λu C ⟨E,g,X,j,k,F,l,⟨m,n,p,q,r,s,t,v⟩,w⟩=>?_;subst l s v;obtain rfl:u=cp k:=j;cases (show a=cp p from e);exact Bj D X q r t λK x=>⟨.bl (cm m n).isSome,g,x,S,w⟩
variable{s2:a7}{V8:TE}
def i4(D:h.A.units+1<cK)(G:PE h o sw)(M:PE h op zn)(N:PE h s2 V8)(T:l1 s2 (Y (.Subscript o op wn)) pv.line h.env=dA ao):PS h (.Assign [.Subscript o op wn] s2 pv) (Le h.prog h.w h.K sw zn V8):=by intro A U z H L a b;refine Sh (aN (N A U z H _ a b) λP c ⟨v,d,e,f,g⟩=>aN (G A c z d _ e g) λu X ⟨Q,j,k,l,m⟩=>aN (M A X z j _ k m) λn R ⟨y,V,p,q,r,W,ab,s,t,w,x,B,C,E,F⟩=>?_) T;subst t B;obtain rfl:u=cp r:=l;cases (show n=cp s from q);exact La D p w x C E f λad K=>⟨z,_,K,F⟩
theorem ky:PE h (.Dict [] [] pv) (Lf h.prog h.w h.K):=λM z N H T A D=>
 Si ⟨.ref z.heap.objs.size,_,A.laid (a:=z.heap.objs.size) (o:=dX h.prog h.w z.heap.objs.size []) (t':=z.toks) (λ_ _ G=>e8 _ G) (aR _) (sF ⟨cP _,iK.mpr (eP (fB A.big)),gd,[],.nil,_,#[],0,gB _ S,⟨S,S,S⟩,S,S⟩),S,D _ (A.bf.fresh (aR _))⟩
structure KD(K:af)(D:aw)(w:au)(a:Z)(G:List (Key×V)):Prop where
 at_:∀z:aD,K.In z->∃A,KV G A/\z.DictOf (eK D w) a A
 ns:(a==eo)=ao
inductive KGet (z:aw) (w:au) (K:af) (a:Z) (y:V) (o:Option V):Prop
 |mk(b k:_)(_:KD K z w a b)(_:y=kV k)(_:o=cU b k)
inductive Lg (z:aw) (w:au) (K:af) (A:VK) (x:V) (y:V) (D:U):Prop
 |mk(a v:_)(_:x=.ref a)(_:KGet z w K a y (Y v))(_:A v D)
def Lh(A:aw)(D:au)(K:af)(G M:TE):TE:=λz H N=>G z H λS T=>M z T λy U=>Lg A D K N S y U
inductive Li (z:aw) (w:au) (K:af) (A:VK) (y:V) (x:V) (D:U):Prop
 |mk(a o:_)(_:x=.ref a)(_:KGet z w K a y o)(_:A (.bl o.isSome) D)
def Lj(A:aw)(D:au)(K:af)(G M:TE):TE:=λz H N=>G z H λy S=>M z S λT U=>Li A D K N y T U
inductive Ll (z:aw) (w:au) (K:af) (A:VK) (y:V) (x:V) (D:U):Prop
 |mk(a o:_)(_:x=.ref a)(_:KGet z w K a y o)(_:A (.bl (!o.isSome)) D)
def Lm(A:aw)(D:au)(K:af)(G M:TE):TE:=λz H N=>G z H λy S=>M z S λT U=>Ll A D K N y T U
def wA(N:PE h o sw)(T:PE h op zn)(U:oA op):PE h (.Subscript o op pv) (Lh h.prog h.w h.K sw zn):=by intro z a A H x b c;refine sy zk.lookup U (aN (N z a A H _ b c) λu d ⟨B,e,f,g,X⟩=>aN (T z d A e _ f X) λC E ⟨y,j,D,k,l,v,m,⟨K,G,n,p,q⟩,r⟩=>?_);subst m p;obtain rfl:u=cp l:=g;let⟨s,t,M⟩:=n.at_ _ D.fb;let⟨L,hw,w⟩:=fv.some_of (v:=v) (o:=nM s G) (q▸t.val G);exists M.typeIs,Se (jF k) M.mapOf hw ⟨v,j,D.tok _,w,r⟩
def wB(N:PE h op zn)(T:PE h o sw):PC h .In op o (Lj h.prog h.w h.K zn sw):=by intro z U A H t a b;refine aN (N z U A H _ a b) λv c ⟨y,d,e,f,g⟩=>aN (T z c A d _ e g) λu w ⟨x,X,D,j,k,B,l,⟨m,G,M,n,p⟩,q⟩=>?_;subst l n p;obtain rfl:u=cp k:=j;let⟨C,r,s⟩:=M.at_ _ D.fb;refine wpAny_in_of (jF f) M.ns s.mapOf ?_;rw [<-(r.val G).my];exists .bl (cU m G).isSome,X,D.tok _,S,q
def Bn(N:PE h op zn)(T:PE h o sw):PC h .NotIn op o (Lm h.prog h.w h.K zn sw):=by intro z U A H t a b;refine aN (N z U A H _ a b) λv c ⟨y,d,e,f,g⟩=>aN (T z c A d _ e g) λu w ⟨x,X,D,j,k,B,l,⟨m,G,M,n,p⟩,q⟩=>?_;subst l n p;obtain rfl:u=cp k:=j;let⟨C,r,s⟩:=M.at_ _ D.fb;refine Sf (jF f) M.ns s.mapOf ?_;rw [<-(r.val G).my];exists .bl (!(cU m G).isSome),X,D.tok _,S,q
section
variable (P:aw) (w:au) (K:af) (G:aa->Option J) (base:aD) (CX:gj) (k:Nat)
structure bz(x:aa)(ps:List aa)(sp:Sp):Prop where
 ex:∃z A,aV P w K G base CX k z A ps sp/\Binds K A ps []/\G x=Y (.ref z)/\kT K (.ref z)=I
structure cC(z:Z)(m:aa)(ps:List aa)(sp:Sp):Prop where
 ex:∃A D,aV P w K G base CX k A D ps sp/\Binds K D ps []/\Meth K z m A
 cl:fc K z
structure iu(x:aa)(z:Z)(ps:List aa)(sp:Sp):Prop where
 ex:∃A D,aV P w K G base CX k A D ps sp/\Binds K D ps []/\Mk K z A
 gl:G x=Y (.ref z)
end
variable{t0:List a7}{Fk:gj}{IO:TA}
def gI(c:bz h.prog h.w h.K h.G h.base Fk t nw tz AT)(z:dj t h.A)(A:Passes Fk h Db)(D:PA h (op::t0) IO)(G:Gl h nw:=by rfl)(M:(nw==("__debug__":aa))=ao:=by decide)(N:cA (op::t0) h.env=(ao,iR op h.env)::cA t0 h.env:=by rfl) (T:(fp pv (cA t0 h.env)).any (·.1)=ao:=by rfl):PE h (.Call (.Name nw wn) (op::t0) [] pv) (vP AT [] Db IO):=by let⟨f,g,U,a,b,d⟩:=c.ex;exact Jm U z G b d a .nil A D M N T
variable{VM:fC Bool}{E:XK}
def eL(G:PE h o sw)(c:cC h.prog h.w h.K h.G h.base Fk t d nw tz AT)(M:dj t h.A)(N:Passes Fk h E)(T:PA h (op::t0) IO)(U:cA (op::t0) h.env=(ao,iR op h.env)::cA t0 h.env:=by rfl) (a:(fp pv (cA t0 h.env)).any (·.1)=ao:=by rfl)(b:iR (.Call (.Attribute o nw wn) (op::t0) [] pv) h.env=(do
   let A<-iR o h.env
   pQ wn.atName
   let(D,first)<-nF [A] (pU A nw VM)
   rz pv D first (fp pv (cA (op::t0) h.env)) (l3 pv (l4 [] h.env))):=by rfl):PE h (.Call (.Attribute o nw wn) (op::t0) [] pv) (sh d nw AT [] E sw IO):=by
 let⟨D,e,X,f,g⟩:=c.ex;exact Jn (pl:=VM) G c.cl g X M f .nil N T U a b
def dR(G:PE h o sw)(c:cC h.prog h.w h.K h.G h.base Fk t d nw tz AT)(M:dj t h.A)(N:Passes Fk h E)(T:iR (.Call (.Attribute o nw wn) [] [] pv) h.env=(do
   let A<-iR o h.env
   pQ wn.atName
   let(D,first)<-nF [A] (pU A nw VM)
   rz pv D first (fp pv (cA [] h.env)) (l3 pv (l4 [] h.env))):=by rfl):PE h (.Call (.Attribute o nw wn) [] [] pv) (sh d nw AT [] E sw jA):=by
 let⟨D,X,U,a,b⟩:=c.ex;exact Jo (pl:=VM) G c.cl b U M a .nil N T
def iv(c:iu h.prog h.w h.K h.G h.base Fk t nw d tz AT)(z:dj (t+1) h.A)(A:Passes Fk h E)(D:PA h (op::t0) IO)(G:Gl h nw:=by rfl)(M:(nw==("__debug__":aa))=ao:=by decide)(N:cA (op::t0) h.env=(ao,iR op h.env)::cA t0 h.env:=by rfl) (T:(fp pv (cA t0 h.env)).any (·.1)=ao:=by rfl):PE h (.Call (.Name nw wn) (op::t0) [] pv) (si d AT [] E IO):=by let⟨X,f,U,a,b⟩:=c.ex;exact Jp b U z G c.gl a .nil A D M N T
def Ln(c:iu h.prog h.w h.K h.G h.base Fk t nw d tz AT)(z:dj (t+1) h.A)(A:Passes Fk h E)(D:Gl h nw:=by rfl)(G:(nw==("__debug__":aa))=ao:=by decide):PE h (.Call (.Name nw pv) [] [] wn) (si d AT [] E jA):=by let⟨U,a,M,N,T⟩:=c.ex;exact Jq T M z D c.gl N .nil A G
theorem bj(A:Nat)(G:h.N.Nodup)(M:PE h op sw)(N:h.N[A]?=Y nw:=by rfl)(T:Loc h.env.scope nw:=by first|exact .inl rfl|exact .inr rfl)(U:l1 op (Y (.Name nw wn)) pv.line h.env=dA ao:=by rfl)(a:h.fn nw=I\/h.env.scope.names.lookup nw=Y .local:=by first|exact .inl rfl|exact .inr rfl|assumption):PS h (.Assign [.Name nw wn] op pv) (vy sw (mv A)):=Iv G N T M U a
theorem bX(z:Nat)(A:h.N.Nodup)(D:h.N[z]?=Y nw:=by rfl)(G:Loc h.env.scope nw:=by first|exact .inl rfl|exact .inr rfl)(M:h.fn nw=I\/h.env.scope.names.lookup nw=Y .local:=by first|exact .inl rfl|exact .inr rfl|assumption):PG h (.Name nw pv) (mv z):=Iq A D G M
theorem aJ(z:Nat)(D:PE h (.Name nw pv) (jy z):=by exact L2.T _)(G:cA [.Name nw pv] h.env=[(ao,iR (.Name nw pv) h.env)]:=by rfl):PA h [.Name nw pv] (jB (jy z) jA):=A D aC G
theorem aF(z:Nat)(A:PE h (.Name nw pv) (jy z):=by exact L2.T _)(D:j3 (.Name nw pv) FS h.env (iR (.Name nw pv) h.env)=iR (.Name nw pv) h.env:=by rfl):PE h (.Attribute (.Name nw pv) FS wn) (vM h.K (jy z) FS):=fQ A D
theorem bI(c:bz h.prog h.w h.K h.G h.base aE t nw tz AT)(T:dj t h.A)(U:PA h (op::t0) IO)(a:Gl h nw:=by rfl)(b:(nw==("__debug__":aa))=ao:=by decide)(d:cA (op::t0) h.env=(ao,iR op h.env)::cA t0 h.env:=by rfl) (e:(fp pv (cA t0 h.env)).any (·.1)=ao:=by rfl):PE h (.Call (.Name nw wn) (op::t0) [] pv) (vP AT [] E0 IO):=gI c T cx U a b d e
variable{v0:Int}
theorem b7{a}(A:h.G nw=Y (.int v0 a))(D:Gl h nw:=by rfl)(G:(nw==("__debug__":aa))=ao:=by decide):PE h (.Name nw pv) (tC (.int v0)):=ei D A ⟨_,S⟩ G
theorem hl{a}(A:h.G nw=Y (.str FS a))(D:Gl h nw:=by rfl)(G:(nw==("__debug__":aa))=ao:=by decide):PE h (.Name nw pv) (tC (.str FS)):=ei D A ⟨_,S⟩ G
theorem _root_.L2.dj.mo(G:dj t ss)(D:Nat)(M:D<=t:=by decide):dj D ss:=G.mono M
def gV(A D:List (List Key×Z×J)):List (List Key×Z×J):=D.foldl (λG z=>hQ G z.1 z.2.1 z.2.2) A
def hX(A D:bW):bW:=D.foldl (λG z=>cy G z.1 z.2.1 z.2.2) A
def Lo(G A:List (List Key×Z×J))(D:Nat)(z:List Key×Z×J)(M:A[D]?=Y z):gV G (A.take (D+1))=hQ (gV G (A.take D)) z.1 z.2.1 z.2.2:=by simp [gV,dq,M,List.foldl_append]
def Lp(A:List (List Key×Z×J))(D:List Key)(G:Z)(v:J):(hQ A D G v).length<=A.length+1:=by
 unfold hQ;split
 .rw [z];lia
 .rw [br];exact aR _
theorem Bo:∀(A z:List (List Key×Z×J)),(gV z A).length<=z.length+A.length
 |[],z=>aR _
 |x::a,z=>by
  have D:=Bo a (hQ z x.1 x.2.1 x.2.2);have G:=Lp z x.1 x.2.1 x.2.2
  show(gV (hQ z x.1 x.2.1 x.2.2) a).length<=_;rw [dn]
  lia
def Lq(D:BT∉v4.map (·.1)):fO v4 BT=O:=by
 unfold fO;rw [nP.mpr λG M=>by intro N;exact D (bH.mpr ⟨G,M,eB N⟩)]
 rfl
theorem wC:∀(A z:List (List Key×Z×J)),((z++A).map (·.1)).Nodup->gV z A=z++A
 |[],z,_=>by simp [gV]
 |x::b,z,a=>by
  have D:x.1∉z.map (·.1):=by rw [aT,aZ,gC]at a;exactλG=>a.2.2 _ G _ bE S
  show gV (hQ z x.1 x.2.1 x.2.2) b=_;rw [uO (Lq D),wC b (z++[(x.1,x.2.1,x.2.2)]) (by simpa using a)];simp
theorem eR.merge:∀{D:bW} {G:List (List Key×Z×J)},eR D G->∀{A:bW} {z:List (List Key×Z×J)},eR A z->eR (hX A D) (gV z G)
 |_,_,.nil,_,_,b=>b
 |_,_,.cons (a:=p) (b:=a) c d,A,z,b=>by
  show eR (hX (cy A p.1 p.2.1 p.2.2) _) (gV (hQ z a.1 a.2.1 a.2.2) _);have M:hQ z a.1 a.2.1 a.2.2=hQ z p.1 p.2.1 a.2.2:=by rw [c.1,c.2.1]
  rw [M];exact eR.merge d (b.put p.1 p.2.1 c.2.2)
theorem Bp:∀(A z:bW),(hX z A).length<=z.length+A.length
 |[],z=>aR _
 |x::a,z=>by
  have D:=Bp a (cy z x.1 x.2.1 x.2.2);have G:=wx z x.1 x.2.1 x.2.2
  show(hX (cy z x.1 x.2.1 x.2.2) a).length<=_;rw [dn]
  lia
theorem qK{K:af}{H:U}:∀{more z:bW},cb K H z->cb K H more->cb K H (hX z more)
 |[],z,a,_=>a
 |x::c,z,a,b=>qK (more:=c) (ly a x.2.2 (b x bE)) λA D=>b A (bC _ D)
section
variable {prog:aw} {w:au} {knd:HeapKind prog w (List Key)} {A:bZ} {E:J->ak->Prop} {s:ak}
def Lr{T f:Z}{g:List (List Key×Z×J)}{N:List Key}{v:J}{j:Unit->ak->Prop}(p:knd.room A)(k:knd.is s.heap N f)(q:s.heap.DictOfH knd T g)(l:∀h,h.DictOfH knd T (hQ g N f v)->ib T s.heap h->j () {s with heap:=h}) (hsz:g.length<=aU):aI (aM prog w) A (G0 T (.ref f) (knd.hash N) v) j E s:=by
 let⟨u,m,n,G,o,z,U,i,M⟩:=q;unfold G0
 try with_reducible refine nO ?_
 refine aH (SG p k G z U i M (λa=>?_) λx B b=>?_)
 .have r:=SH a;have sz:m.size<=aU:=by have D:=ma U;lia
  refine aH (uP (SI (hz:=sz) G z (l _ ⟨_,_,n+1,uN _ G (zA (rJ z _)),o.mapDictKeys _,rJ z _,?_,?_,?_⟩ (iQ ..))))
  .rw [uO (zB a)];simp [U,jX]
  .rw [uO (zB a)];intro c d;rcases bR.mp d with D|D
   .exact knd.keeps (i c D) G z (iQ ..)
   .rw [bb.mp D];exact knd.keeps k G z (iQ ..)
  .rw [uO (zB a),aT,gC];exists M,by simp,λc d y e=>?_;rw [aZ,hP,bb]at e;rw [e];exactλD=>r (by rwa [show N=c from D.symm])
 .refine aH (uP (aH (wpAny_updateDict G z (wpAny_point (l _ ⟨_,_,n,uN _ G (zA (SJ z _)),o.mapDict _,SJ z _,?_,?_,?_⟩ (iQ ..))))))
  .rw [G1 (zC M b)];have D:=modify_map_putAt (jX knd) (λt:g6=>{t with val:=v}) N v (λ_ _=>S) M b
   rw [<-U]at D;let⟨C⟩:=m;simpa using D
  .rw [G1 (zC M b)];intro c d;let⟨y,e,rfl⟩:=bH.mp d;unfold putAt;split<;>exact knd.keeps (i y e) G z (iQ ..)
  .rwa [G1 (zC M b),keys_map_putAt]
end
abbrev tk(prog:aw)(w:au):HeapKind prog w (List Key):=iL (eK prog w)
def qL(prog:aw)(w:au)(z:List (List Key×Z×J)):Prop:=(z.map λD=>(tk prog w).hash D.1).Nodup
set_option tactic.hygienic true
theorem Bq:∀{G:List g6},(G.map (·.hash)).Nodup->∀z,(G.filter λD=>D.hash==z).length<=1
 |[],_,_=>by simp
 |a::c,b,z=>by
  rw [aZ,eh]at b;have N:=Bq b.2 z
  rw [ig];split
  .rename_i D;have:(c.filter λD=>D.hash==z)=[]:=SK.mpr λM S T=>by
    have U:a.hash=z:=by simpa using D
    have d:M.hash=z:=by simpa using T
    exact b.1 (bH.mpr ⟨M,S,d.trans U.symm⟩)
   rw [this];exact aR _
  .exact N
set_option tactic.hygienic false
variable{sK:Type}
theorem Br(z:sK->PUnit->fC (ForInStep PUnit)){T:PUnit->ak->Prop}:∀(U:List sK),(∀D∈U,aI LE ss (z D nQ) (λG b=>G=.yield nQ/\b=B) s5 B)->T nQ B->aI LE ss (uG U nQ z) T s5 B
 |[],_,a=>by rw [uH];exact bu a
 |D::G,c,a=>by rw [GC];refine aH (g4 (c D bE) (λy b M=>?_) λ_ _ M=>M);let⟨d,e⟩:=M;rw [d,e];exact Br z G (λy f=>c y (bC _ f)) a
theorem Ls:Gx (.type "tuple") "__eq__"=dA (Y (.builtin "tuple.__eq__")):=PySem.F.slot_tuple_eq.lookup
variable{GT:Array g6}
def Lu{o:aL}{c:Nat}{T:Array g6->ak->Prop}(w:B.heap.get? d=Y o)(e:o.data=.dict GT c)(U:GT.toList=v4.map (jX (tk m p))) (f:∀z∈v4,(tk m p).is B.heap z.1 z.2.1) (k:qL m p v4) (g:T GT B):aI (aM m p) ss (SM EQ d) T s5 B:=by
 unfold SM;refine aH (j6 w e ?_);refine aH ?_;rw [<-Array.forIn_toList];refine Br _ _ (λl a=>?_) (bu g);rw [U]at a;let⟨z,h,rfl⟩:=bH.mp a;have i:(GT.toList.map (·.hash)).Nodup:=by rwa [U,d6]
 have j:¬(GT.filter λy=>y.hash==(jX (tk m p) z).hash).size>1:=by
  have D:=Bq i (jX (tk m p) z).hash;have:(GT.filter λy=>y.hash==(jX (tk m p) z).hash).size=(GT.toList.filter λy=>y.hash==(jX (tk m p) z).hash).length:=by rw [<-Array.toList_filter,rx]
  lia
 refine aH ?_;unfold Vd;refine aH (uK (T:="tuple") (Ve (knd:=eK m p) (f z h)) Ls (bu ?_));rw [ai (by decide),N j];exact bu ⟨S,S⟩
variable{UF:List (List Key×Z×J)}
def wD{o:Z}(T:P.DictOfH (tk m p) d UF)(U:P.DictOfH (tk m p) o v4)(a:d≠o)(N:ib d P LT):LT.DictOfH (tk m p) o v4:=by let⟨D,q,r,b,_,c,_⟩:=T;let⟨w,e,f,g,h,i,j,k,l⟩:=U;exists w,e,f,(N.2 o (eP a)).trans g,h,i,j,λz n=>(tk m p).keeps (k z n) b c N,l
set_option tactic.hygienic true
def Bs{o:Z}(R:ss.units<cK)(f:d≠o)(V:(o==eo)=ao)(i:B.heap.DictOfH (tk m p) d UF) (j:B.heap.DictOfH (tk m p) o v4) (W:UF=[]->qL m p v4) (hsz:UF.length+v4.length<=aU)(M:∀z,z.DictOfH (tk m p) d (gV UF v4)->z.DictOfH (tk m p) o v4->ib d B.heap z->KF () {B with heap:=z}):aI (aM m p) ss (G2 EQ d o) KF s5 B:=by
 let⟨bl,bm,X,k,ab,g,ad,bn,bs⟩:=id i;let⟨bt,c,bv,l,ca,h,q,r,F⟩:=id j;have H:=ma q
 unfold G2;rw [N (show¬(d==o)=I by simpa using f)];unfold GO;rw [N (show¬(o==eo)=I by rw [V];exact d5)];refine aH (bu (aH (j6 l h ?_)));have walk:∀{t:Unit->ak->Prop},(∀z,z.DictOfH (tk m p) d (gV UF v4)->ib d B.heap z->t () {B with heap:=z})->aI (aM m p) ss (do
   let al<-dictEpoch o;let am<-dictEntries o
   uG [:am.size] nQ λG (_:PUnit)=>(do
     let an<-dictEntries o
     match an[G]? with
      |some w=>do
       nF [w.key,w.val] (G0 d w.key w.hash w.val)
       let ap<-dictEpoch o
       if(ap !=al)=I then do
         (unsupported (toString EQ++toString ":source-changed-during-callback"):fC PUnit)
         dA (p4 nQ)
        else dA (p4 nQ)
      |_=>do
       (unsupported "internal:dict-merge":fC PUnit)
       dA (p4 nQ):fC (ForInStep PUnit))
   dA ()) t s5 B:=by
  intro t as;refine aH (uM l h (aH (j6 l h (aH ?_))));rw [Vf];simp only [Vg,SN,SO,Nat.div_one];refine wpAny_forIn_list _ (λleft _ u=>∃z G,u={B with heap:=z}/\left=cj G (c.size-G)/\G<=c.size/\z.DictOfH (tk m p) d (gV UF (v4.take G))/\ib d B.heap z) _ ?_ ?_ _ _
   ⟨B.heap,0,S,by simp,cP _,i,SQ _ _⟩
  .rintro a left a0 u ⟨z,G,rfl,b,K,D,U⟩;have a1:=p8 λn=>by
    rw [Nat.sub_eq_zero_of_le n]at b;cases b
   have e:c.size-G=(c.size-(G+1))+1:=by lia
   rw [e,nR]at b;let⟨rfl,b⟩:=p7 b;have L:=(U.2 o (eP f)).trans l
   refine aH (j6 L h ?_);obtain⟨y,v⟩:∃y,v4[a]?=Y y:=⟨v4[a]'(by lia),gf _⟩
   have a2:c[a]?=Y (jX (tk m p) y):=by rw [zD q,v];rfl
   rw [a2];have sz:(gV UF (v4.take a)).length<=aU:=by
    have cd:=Bo (v4.take a) UF;have ce:(v4.take a).length<=v4.length:=by rw [dU];lia
    lia
   refine aH (nO (Lr (knd:=tk m p) R ((tk m p).keeps (r y (cG v)) k g U) D (λa3 a4 P=>?_) sz));refine aH (uM ((P.2 o (eP f)).trans L) h ?_);rw [N (by simp)];exact bu ⟨a3,a+1,S,b,a1,Lo UF v4 a y v▸a4,U.trans P⟩
  .rintro a0 u ⟨z,G,rfl,b,K,D,U⟩;have e:=Nat.le_antisymm K (GV λn=>by
    have e:c.size-G=(c.size-(G+1))+1:=by lia
    rw [e,nR]at b;cases b)
   refine bu (as z ?_ U);rw [e,H,dB]at D;exact D
 dsimp only;split
 .refine aH (j6 k g ?_);split
  .rename_i a5;have x:UF=[]:=by
    have bd:=SR.mp a5;have n:=ma ad
    rw [bd]at n;exact kX.mp n.symm
   refine aH (Lu l h q r (W x) ?_);have Q:gV UF v4=v4:=by rw [x,wC v4 [] (by simpa using F)];rfl
   split
   .have sz:c.size<=aU+1:=by lia
    refine aH (wpAny_updateDictKeysTo k g (bu (M _ ?_ (wD i j f (iQ ..)) (iQ ..))) sz);rw [Q];exists _,_,X+1,uN _ k (zA (rJ g _)),ab.mapDictKeys _,rJ g _,q,λa be=>(tk m p).keeps (r a be) k g (iQ ..),F
   .rename_i bi;have e:=SR.mp (by simpa using bi)
    have bk:=kX.mp (by rw [<-H,e];rfl);refine bu (M _ ?_ j (SQ _ _));rwa [Q,bk,<-x]
  .exact walk λz D U=>M z D (wD i j f U) U
 .exact walk λz D U=>M z D (wD i j f U) U
set_option tactic.hygienic false
theorem Lv(D:aw)(G:au)(z o:Z)(f:(o==eo)=ao):G3 D G (Builtin.«dict.update» ⟨[.ref z,.ref o],[]⟩) (λd b A=>d.in1.units<cK/\∃M T,A.heap.DictOfH (tk D G) z M/\A.heap.DictOfH (tk D G) o T/\M.length+T.length<=aU/\(M=[]->qL D G T)/\ ((z=o/\b (.ok (.ret .none)) A)\/(z≠o/\∀U,U.DictOfH (tk D G) z (gV M T)->ib z A.heap U->b (.ok (.ret .none)) {A with heap:=U}))):=
 .of_wp λd b A ⟨g,M,T,e,a,hsz,h,i⟩=>by
  unfold Builtin.«dict.update»;refine aH ?_;unfold SS;refine aH (zm e.typeIs ?_);refine bu ?_;show aI _ _ (zE "dict.update" z (.ref o) [] .none) _ _ A
  unfold zE;refine aH (SU a.typeIs ?_);rw [N (by decide)];refine aH ?_;unfold SV;refine aH ?_;unfold SW;refine aH (GQ a.typeIs SX ?_);simp only [SY,nL,ie];refine aH (uK a.typeIs zl.lookup (bu ?_));simp only [G4,eQ];refine aH (bu ?_);rcases i with⟨j,c⟩|⟨ne,c⟩
  .subst j;unfold G2;rw [ai (by simp)];refine aH (uP (bu ?_));exact aH (bu (bu ⟨.none,S,c⟩))
  .refine Bs g ne f e a h hsz λU k m l=>?_;exact aH (bu (bu ⟨.none,S,c U k l⟩))
def jJ(z:aw)(A:au)(D:bW):Prop:=(D.map λG=>(tk z A).hash G.1).Nodup
def Bt(T:eR pu v4)(N:jJ m p pu):qL m p v4:=by
 unfold jJ at N;unfold qL;have U:(pu.map λM=>(tk m p).hash M.1)=v4.map λM=>(tk m p).hash M.1:=by
  clear N;induction T with
  |nil=>rfl
  |cons a _ b=>rw [aZ,aZ,b,a.1]
 rwa [<-U]
def x_update{more:bW}(X:ss.units+1<cK)(D:Inv h pr s4 H B)(T:H d=Y (dX h.prog h.w d pu))(e:cb h.K H pu)(f:H q=Y (dX h.prog h.w q more))(g:cb h.K H more)(hsz:pu.length+more.length<=aU) (a:pu=[]->jJ h.prog h.w more)(U:(d=q->∀z,Inv h pr s4 H z->s5 .none z)/\(d≠q->∀z,Inv h pr s4 (upd H d (dX h.prog h.w d (hX pu more))) z->s5 .none z)):aI (aM h.prog h.w) ss (gO (.builtin "dict.update") [.ref d,.ref q]) s5 IR B:=by
 let⟨b,i,j,N,c⟩:=jI D T e;let⟨r,k,l,S,m⟩:=jI D f g;refine uL S1 c.typeIs PySem.F.entry_dict_update (PySem.F.args_dict_update_2 _ _) (Lv h.prog h.w d q k) ⟨X,j,l,c,m,by rwa [<-bO N,<-bO S],λn=>Bt S (a ?_),?_⟩
 .have:=bO N;rw [n]at this;exact kX.mp this
 .by_cases G:d=q
  .exact .inl ⟨G,U.1 G B D⟩
  .refine .inr ⟨G,λt o p=>U.2 G _ ?_⟩;exact sH (t':=B.toks) D T (cu (Bp more pu) hsz) i (eR.merge S N) o p
def Lw(G:aw)(M:au)(K:af)(b c:TE):TE:=λT H U=>b T H λd a=>∃z,d=.ref z/\(∃A,a z=Y (dX G M z A))/\c T a λy D=>∃A N S,y=.ref N/\D z=Y (dX G M z A)/\cb K D A/\
 D N=Y (dX G M N S)/\cb K D S/\A.length+S.length<=aU/\(A=[]->jJ G M S)/\(z=N->U .bw D)/\(z≠N->U .bw (upd D z (dX G M z (hX A S))))
def sJ{o:a7}(e:h.A.units+1<cK)(f:PE h o sw)(g:PE h op zn)(A:M1 h o "update" pv op wn):PE h (.Call (.Attribute o "update" pv) [op] [] wn) (Lw h.prog h.w h.K sw zn):=by intro b z c H ad i j;refine GK A.base A.bL A.line GL S1 PySem.F.type_dict_update (aN (f b z c H _ i j) λu k ⟨al,l,d,m,n,p,⟨am,q⟩,r⟩=>?_);subst p;obtain rfl:u=cp n:=m;let⟨s,t,_⟩:=wy d q;exists s,t,?_;rw [A.trees];refine pZ S (uF (pX (aN (g b k c l _ d r) λv an ⟨y,w,x,B,ap,C,as,E,K,L,P,Q,R,V,W,X⟩=>uA ?_)));subst E;cases (show v=cp C from B);exact x_update e x K L P Q R V ⟨λG ab M=>⟨.bw,w,M,S,W G⟩,λG ab M=>⟨.bw,_,M,S,X G⟩⟩
def Lx(w:ss.units+2<cK)(G:Inv h pr s4 H B)(x:H d=Y (dX h.prog h.w d pu))(y:cb h.K H pu)(X:jJ h.prog h.w pu)(C:∀M n,H M=O->Inv h pr s4 (upd H M (dX h.prog h.w M pu)) n->s5 (.ref M) n):aI (aM h.prog h.w) ss (gO (.type "dict") [.ref d]) s5 IR B:=by
 let⟨K,L,e,T,f⟩:=jI G x y;refine callType_codes (Q₁:=λp q=>p=.ref B.heap.objs.size/\q={B with heap:=B.heap.push {cls:=.type "dict",data:=.dict #[]}}) PySem.F.kt_called_dict (PySem.F.kt_typeCall_dict_1 _) PySem.F.entry_dict_init (kt_code_dict_new _ ⟨S,S⟩) ?_;rintro p q ⟨rfl,rfl⟩;have g:(B.heap.push {cls:=.type "dict",data:=.dict #[]}).DictOfH (tk h.prog h.w) B.heap.objs.size []:=Vh B.heap
 have U:(B.heap.push {cls:=.type "dict",data:=.dict #[]}).DictOfH (tk h.prog h.w) d e:=by let⟨s,b,i,z,j,k,l,r,D⟩:=f;exists s,b,i,e8 _ z,j,k,l,λP Q=>?_,D;let⟨R,V,W,ab,ad,al,am⟩:=r P Q;exists R,V,W,e8 _ ab,ad,al,am
 have an:B.heap.objs.size≠d:=λt=>by let⟨s,_,_,z,_⟩:=f;exact absurd (dN z) (t▸jY _)
 exists g.typeIs,PySem.F.args_dict_init_2 _ _,?_;unfold Builtin.«dict.__init__»;refine aH ?_;unfold SS;refine aH (zm g.typeIs ?_);refine bu ?_;show aI _ _ (zE "dict.__init__" B.heap.objs.size (.ref d) [] .none) _ _ _
 unfold zE;refine aH (SU U.typeIs ?_);rw [N (by decide)];refine aH ?_;unfold SV;refine aH ?_;unfold SW;refine aH (GQ U.typeIs SX ?_);simp only [SY,nL,ie];refine aH (uK U.typeIs zl.lookup (bu ?_));simp only [G4,eQ];refine aH (bu ?_);have ap:=let⟨_,_,_,_,_,_,_,_,D⟩:=f;D
 refine Bs (by exact w) an L g U (λ_=>Bt T X) (by rwa [iP,uQ,<-bO T]) λa0 u a1 as=>?_;rw [wC e [] (by simpa using ap),dh]at u;refine aH (bu (bu ⟨S,C _ _ (G.bf.fresh (aR B.heap.objs.size)) ?_⟩));let⟨s,b,i,z,j,k,l,r,D⟩:=u;refine G.laid (a:=B.heap.objs.size) (o:=dX h.prog h.w B.heap.objs.size pu) (t':=B.toks) (λc t v=>?_) (aR _) (sF ⟨K,iK.mpr (eP (fB G.big)),T.keys▸D,e,T,s,b,i,z,j,k,l⟩);exact(as.2 c (fB (dN v))).trans (e8 _ v)
def Bu(T:h.A.units+2<cK):hA h (.type "dict") (λM H N=>∃G D,M=[.ref G]/\H G=Y (dX h.prog h.w G D)/\cb h.K H D/\jJ h.prog h.w D/\∀A,H A=O->N (.ref A) (upd H A (dX h.prog h.w A D))):=by intro j k l H M m N U a b;let⟨G,D,rfl,c,d,e,f⟩:=b;let⟨u,rfl,g⟩:=vals1 a;cases g;exact Lx T U c d e λA n z i=>⟨.ref A,_,i,S,f A z⟩
theorem Ly(G:aw)(M:au)(A:Z)(S:(A==eo)=ao):G3 G M (Builtin.«dict.__len__» ⟨[.ref A],[]⟩) (λ_ N z=>∃D,z.heap.DictOfH (tk G M) A D/\N (.ok (.ret (.int D.length z.toks))) {z with toks:=z.toks+1}):=
 .of_wp λc N z ⟨D,T,d⟩=>by
  let⟨e,f,g,U,h,a,b,i,j⟩:=T;show aI _ _ (dictSize A>>=_) _ _ z
  unfold dictSize;refine aH (aH (j6 U a (bu ?_)));refine aH (wpAny_pendingCount_other S (wpAny_ret_mkInt ?_));rwa [j9,ma b]
def Lz{G:aw}(c:(d==eo)=ao)(T:B.heap.DictOfH (tk G p) d v4)(z:v4.length<=aU)(e:s5 (.int v4.length (B.toks+1)) {B with toks:=B.toks+1+1}):aI (aM G p) ss (gO (.builtin "len") [.ref d]) s5 IR B:=by
 have f:(v4.length:Int)<2^63:=by rw [y6]at z;lia
 refine Calls.call_function_entry kind_len plain_len entry_len (args_len1 _) ?_;unfold Vi;refine aH (m:=oneArg "len" _) (bu ?_);refine aH (m:=callSpecial? (.ref d) (dO "__len__")) (GP (name:=dO "__len__") T.typeIs S2 (uL S2 T.typeIs PySem.F.entry_dict_len (PySem.F.args_dict_len_1 _) (Ly G p d c) ⟨v4,T,?_⟩));refine aH (nO (bu (aH (wpAny_letGo ?_))));rw [N (by lia)];rw [N (by lia)];exact aH (wpAny_mkInt (bu ⟨_,S,e⟩))
def oE:hA h (.builtin "len") (λG H M=>∃D z,G=[.ref D]/\H D=Y (dX h.prog h.w D z)/\cb h.K H z/\M (.int z.length) H):=by intro j U k H G l M N a b;let⟨D,z,rfl,c,d,e⟩:=b;let⟨u,rfl,f⟩:=vals1 a;cases f;let⟨g,A,m,T,i⟩:=jI N c d;refine Lz A i (bO T▸g) ?_;exists .int z.length,H,N.tok _,⟨U.toks+1,by rw [bO T]⟩,e
variable{s:ak}
def LA{v:J}(g:ss.units<cK)(c:(tk m p).is s.heap BT q)(z:s.heap.DictOfH (tk m p) d v4)(hsz:v4.length<=aU)(n:∀T,fO v4 BT=Y T->s5 T.2 {s with toks:=s.toks+(tk m p).draws BT})(o:fO v4 BT=O->∀w,w.DictOfH (tk m p) d (v4++[(BT,q,v)])->ib d s.heap w->s5 v {s with heap:=w,toks:=s.toks+(tk m p).draws BT}):aI (aM m p) ss (G5 d (.ref q) v) s5 IR s:=by
 let⟨x,N,S,G,r,D,U,h,e⟩:=z;unfold G5
 try with_reducible refine nO ?_
 refine aH ((tk m p).pyHash g c (aH (SG (s:={s with toks:=s.toks+(tk m p).draws BT}) g c G D U h e (λi=>?_) λt T j=>?_)))
 .have u:=SH i;have sz:N.size<=aU:=by have M:=ma U;lia
  refine aH (uP (aH (SI (hz:=sz) (s:={s with toks:=s.toks+(tk m p).draws BT}) G D (bu (o (zB i) _ ⟨_,_,S+1,uN _ G (zA (rJ D _)),r.mapDictKeys _,rJ D _,?_,?_,?_⟩ (iQ ..))))))
  .simp [U,jX]
  .intro f k;rcases bR.mp k with M|M
   .exact(tk m p).keeps (h f M) G D (iQ ..)
   .rw [bb.mp M];exact(tk m p).keeps c G D (iQ ..)
  .rw [aT,gC];exists e,by simp,λf k y l=>?_;rw [aZ,hP,bb]at l;rw [l];exactλM=>u (by rwa [show BT=f from M.symm])
 .refine aH (j6 (s:={s with toks:=s.toks+(tk m p).draws BT}) G D ?_);rw [zD U t,j];exact aH (uP (bu (n T (zC e j))))
theorem LB(prog:aw)(w:au)(z T:Z)(v:J)(d:(z==eo)=ao):G3 prog w (Builtin.«dict.setdefault» ⟨[.ref z,.ref T,v],[]⟩) (λss a B=>ss.in1.units<cK/\∃D G,(tk prog w).is B.heap D T/\B.heap.DictOfH (tk prog w) z G/\G.length<=aU/\ (∀U,fO G D=Y U->a (.ok (.ret U.2)) {B with toks:=B.toks+(tk prog w).draws D})/\(fO G D=O->∀M,M.DictOfH (tk prog w) z (G++[(D,T,v)])->ib z B.heap M->a (.ok (.ret v)) {B with heap:=M,toks:=B.toks+(tk prog w).draws D})):=
 .of_wp λss a B ⟨e,D,G,f,c,hsz,g,h⟩=>by
  unfold Builtin.«dict.setdefault»;refine aH ?_;unfold Vj;refine aH (zm c.typeIs ?_);refine bu ?_;show aI _ _ (if(z==eo)=I then _ else(G5 z (.ref T) v>>=_)) _ _ B
  rw [N (d▸d5)];exact aH (LA e f c hsz (λU b=>bu ⟨_,S,g U b⟩) λb M i j=>bu ⟨_,S,h b M i j⟩)
def iw{k:List Key}(A:Z)(v:V)(D:cm pu k=O):cy pu k A v=pu++[(k,A,v)]:=by unfold cy;rw [D];rfl
def LC(b:ss.units+1<cK)(M:Inv h pr s4 H B)(T:H q=Y (dX h.prog h.w q pu))(i:cb h.K H pu)(j:ax h.K H d (BT.map kV))(x:pu.length<aU)(l:RelV v wp)(m:∀D,cm pu BT=Y D->∀U G,Inv h pr s4 H G->RelV D U->s5 U G) (n:cm pu BT=O->∀G,Inv h pr s4 (upd H q (dX h.prog h.w q (cy pu BT d v))) G->s5 wp G):aI (aM h.prog h.w) ss (gO (.builtin "dict.setdefault") [.ref q,.ref d,wp]) s5 IR B:=by
 let⟨o,k,p,S,e⟩:=jI M T i;have z:=S.val BT
 refine uL S3 e.typeIs PySem.F.entry_dict_setdefault (PySem.F.args_dict_setdefault_3 _ _ _) (LB h.prog h.w q d wp k) ⟨b,BT,p,lz M j,e,bO S▸o,λy a=>?_,λf X t u=>?_⟩
 .rw [a]at z;cases c:cm pu BT with
  |none=>rw [c]at z;exact z.elim
  |some D=>
   rw [c]at z;exact m D c _ _ (M.tok _) z
 .rw [f]at z;cases c:cm pu BT with
  |some D=>rw [c]at z;exact z.elim
  |none=>
   have g:=S.put BT d l;rw [uO f]at g;have w:(cy pu BT d v).length<=aU:=by have:=wx pu BT d v;lia
   exact n c _ (sH M T w k g t u)
def LD(M:aw)(N:au)(K:af)(c d e:TE):TE:=λS H U=>c S H λf a=>∃A,f=.ref A/\(∃z,a A=Y (dX M N A z))/\d S a λy g=>e S g λv D=>∃z G T,y=.ref T/\D A=Y (dX M N A z)/\cb K D z/\
 ax K D T (G.map kV)/\z.length<aU/\(∀b,cm z G=Y b->U b D)/\(cm z G=O->U v (upd D A (dX M N A (cy z G T v))))
def LF{o:a7}{c:TE}(i:h.A.units+1<cK)(j:PE h o sw)(k:PE h op zn)(l:PE h s2 c)(A:M2 h o "setdefault" pv op s2 wn):PE h (.Call (.Attribute o "setdefault" pv) [op,s2] [] wn) (LD h.prog h.w h.K sw zn c):=by intro M m N H a3 n p;refine GK A.base A.bL A.line GL S3 PySem.F.type_dict_setdefault (aN (j M m N H _ n p) λu q ⟨a4,r,f,s,t,w,⟨a5,x⟩,B⟩=>?_);subst w;obtain rfl:u=cp t:=s;let⟨C,E,_⟩:=wy f x;exists C,E,?_;rw [A.trees];refine pZ S (uF (pX (aN (k M q N r _ f B) λK L ⟨y,P,Q,R,V⟩=>pX (aN (l M L N P _ Q V) λbd be ⟨v,W,X,g,bi,bk,ab,ad,al,am,an,ap,as,a0⟩=>uA ?_))));subst ad;cases (show K=cp ab from R);exact LC i X al am an ap g (λz T bl a1 U a2=>⟨z,W,U,a2,as z T⟩) λT a1 U=>⟨v,_,U,g,a0 T⟩
def Bv(z:Z)(o:aL)(A:aD):Prop:=A.get? z=Y o
theorem LG(r:ss.handled=O)(G M:Z)(s:M≠G){o:aL}(j:o.data=.dict GT t):Walks m p ss G [G,M] [G] GT.size (λA v=>∃D,GT[A]?=Y D/\D.key=v) (λA k=>k.IsKeyIter G M A GT.size t/\Bv M o k)where
 sub:=λb T=>by rw [bb.mp T];exact bE
 frame:=λ_ _ _ z l=>⟨z.1.at λc U=>l G bE c U,l M (bC _ bE) o z.2⟩
 item:=λA d N n i z a=>by
  obtain⟨D,h⟩:∃D,GT[A]?=Y D:=⟨GT[A],zq i⟩
  refine AZ z.1 z.2 j S h λe u q=>?_;exact a D.key e d.toks ⟨D,h,S⟩ ⟨u,(q.2 M s).trans z.2⟩ λb c T U=>(q.2 b λf=>T (f▸bb.mpr S)).trans U
 done:=λd N n z a=>A0 r z.1 z.2 j S (aR _) λe x=>a e d.toks λb c T U=>x b c (λf=>T (f▸bb.mpr S)) U
 self:=λA d N n z a=>by have g:=z.1.typeIs;refine GN g zF (rH zF g S4 ?_ (S5 _));exact bu ⟨_,S,"dict_keyiterator",_,g,p5.lookup,a⟩
variable{prog:aw}{w:au}
theorem LH(U:(d==eo)=ao){o:aL}(D:o.ExactDict)(N:o.data=.dict GT t):PySem.W.KdlSrc prog w "dict" d d GT.size (λb v=>∃T,GT[b]?=Y T/\T.key=v) (Bv d o)where
 type:=λ_ z=>⟨o,z,D.1⟩
 there:=λ_ z=>⟨dN z,dN z⟩
 keep:=λ_ _ z c=>c d (.inl S) o z
 notList:=by decide
 notTuple:=by decide
 hint:=λ_ _ _ _ z M=>PySem.W.kdl_hint_dict ⟨o,z,D.1⟩ M
 iter:=λ_ e A z=>⟨_,_,(λ_ _ M=>AY U z D N M),LG A _ d (fB (dN z)) N,⟨⟨_,gB _ S,S,S⟩,e8 _ z⟩⟩
def LI(t:h.calm=I):hA h (.type "list") (λk H l=>∃d N,k=[.ref d]/\H d=Y (dX h.prog h.w d N)/\∀A,H A=O->l (.ref A) (upd H A (.lst (N.map λG=>V.ref G.2.1)))):=by
 intro bi m bk H k bl l e x B;let⟨d,N,rfl,C,E⟩:=B;let⟨u,rfl,F⟩:=vals1 x;cases F;let⟨K,L,bm,i,n,o,P,bn,Q,R,X,f⟩:=sG (e.bf d _ C);have ab:P.size=N.length:=by rw [ma f,bO n]
 refine PySem.W.kdl_call (LH (prog:=h.prog) (w:=h.w) L R X) (e.ok.hd t) Q (ab▸K) λbs ad T c al b am=>?_;have an:Vals (N.map λG=>V.ref G.2.1) T.toList:=by
  let⟨p,ap⟩:=am;have as:∀(D:Nat) (M:List Key×Z×J),i[D]?=Y M->T.toList[D]?=Y (.ref M.2.1):=λD M g=>by
   have q:D<T.size:=by rw [p,ma f];exact(cF.mp g).1
   let⟨bt,r,a0⟩:=ap D T[D] (zq q);rw [zD f D,g]at r;have a1:=(aS r).symm
   rw [R5,zq q,<-a0,a1];rfl
  have a2:T.toList.length=i.length:=by rw [rx,p,ma f]
  have a3:∀(j:List (List Key×Z×V)) (U:List (List Key×Z×J)) (A:List J),eR j U->A.length=U.length->(∀(D:Nat) (M:List Key×Z×J),U[D]?=Y M->A[D]?=Y (.ref M.2.1))->Vals (j.map λG=>V.ref G.2.1) A:=by
   intro j U A a4;induction a4 generalizing A with
   |nil=>
    intro b _;rw [kX.mp b];exact .nil
   | @cons G M ps bv g _ a5=>
    intro b s;cases A with
    |nil=>cases b
    |cons v A=>
     have bd:=aS (s 0 M S);refine .cons ?_ (a5 A (by simpa using b) λD y be=>s (D+1) y be);rw [bd,<-g.2.1];rfl
  exact a3 N i T.toList n a2 as
 exists .ref m.heap.objs.size,_,e.laid (a:=m.heap.objs.size) (o:=.lst (N.map λG=>V.ref G.2.1)) (t':=ad) al (aR _) ?_,S,E _ (e.bf.fresh (aR _));exact⟨by rwa [z],T.toList,c,an,by simpa using b⟩
def lA(G:aw)(M:au)(D:Z)(o:aL)(z:bW):It:=
 ⟨λA H=>H D=Y (.bP o (dX G M D z))/\A<z.length,λA H S T=>T=H/\∃N,z[A]?=Y N/\S=.ref N.2.1,λA H=>H D=Y (.bP o (dX G M D z))/\z.length<=A⟩
def wF{H:U}{o:aL}(j:Inv h pr s4 H B)(k:H d=Y (.bP o (dX h.prog h.w d pu))):(d==eo)=ao/\B.heap.get? d=Y o/\o.ExactDict/\∃(A:Array g6) (N:Nat),o.data=.dict A N/\A.size=pu.length/\∀(D:Nat) (T:List Key×Z×V),pu[D]?=Y T->∃b:g6,A[D]?=Y b/\b.key=.ref T.2.1:=by
 let⟨c,l,_⟩:=j.bf d _ k;let⟨t,m,u,v,z,w,A,N,e,n,p,f⟩:=l;rw [c]at e;cases e;exists m,c,n,A,N,p,by rw [ma f,bO z],λD T q=>?_;let⟨x,r,y,s,_⟩:=A1 z q;have g:=zD f D
 rw [r]at g;exists _,g,?_;rw [s];rfl
def LJ{y:au}{K:af}{o:aL}(G:Z)(E:o.data=.dict GT t):Turn m y K op (lA m y d o pu) [G] G (λD U=>U.IsKeyIter G d D pu.length t)where
 mem:=by simp
 obj:=λD U z M N=>by
  have A:M=G:=by simpa using N
  subst A;let⟨f,A,c,h⟩:=z;exact⟨f,A,λv L=>by rw [h]at L;cases L⟩
 keep:=λD U i z am=>z.at λf A=>am G (by simp) f A
 item:=by
  intro an j hw k P D ap a as H Q T g z l;subst j hw k;let⟨x,n⟩:=l;let⟨p,q,a0,r,B,u⟩:=g G (by simp);let⟨a1,w,a2,a3,a4,b,hsz,R⟩:=wF T x;let⟨rfl,rfl⟩:=A2 E b;obtain⟨e,V⟩:∃e,pu[D]?=Y e:=⟨pu[D],gf n⟩
  let⟨a5,bd,be⟩:=R D e V;refine AZ z w b hsz bd λi X bi=>?_;have bk:=T.turned (t':=a.toks) (λM ab N A=>(bi.2 M N).trans A) p q r B u
  let⟨f,A,c,h⟩:=id X;exists a5.key,S,qr (s:={a with heap:=i}) A c h (by decide) ⟨.ref e.2.1,H,bk,be,⟨S,e,V,S⟩,X,λM N=>(g M N).1⟩
 done:=by intro an j hw k P D ap a as H Q T g z l;subst j hw k;let⟨x,n⟩:=l;let⟨p,q,a0,r,B,u⟩:=g G (by simp);let⟨a1,w,a2,a3,a4,b,hsz,R⟩:=wF T x;let⟨rfl,rfl⟩:=A2 E b;exact A0 (T.ok.hd P) z w b hsz n λi bl=>⟨S,T.turned (t':=a.toks) (λM ab N A=>bl M ab N A) p q r B u⟩
 self:=λbm D a bn Q z U=>by refine GN z.typeIs zF (rH zF z.typeIs S4 ?_ (S5 _));exact bu ⟨_,S,"dict_keyiterator",_,z.typeIs,p5.lookup,U⟩
inductive LK (z:aw) (w:au) (D:It->U->Prop) (x:V) (A:U):Prop
 |mk(d o a:_)(_:x=.ref d)(_:A d=Y (.bP o (dX z w d a)))(_:D (lA z w d o a) A)
def LL(z:aw)(A:au)(K:af)(D:TE):TI:=λG H M=>D G H λN S=>LK z A M N S
def lB(T:PE h op sw):PI h s2 op (LL h.prog h.w h.K sw):=by intro U a b H n c d;refine aN (T U a b H _ c d) λu e ⟨p,q,G,f,g,o,r,z,i,j⟩=>?_;subst z;obtain rfl:u=cp g:=f;let⟨k,l,m,s,t,M,hsz,v⟩:=wF G i;refine AY k l m M (wq (tk:=e.toks) G _ (LJ _ M) ⟨_,gB _ S,S,?_⟩ j);rw [hsz]<;>rfl
end L3
local macro_rules | `(tactic| dsimp) => `(tactic| dsimp only [L2.xK, L2.xP, L2.xW])
open L3
namespace Cf
section
variable {α:Type} [DecidableEq α]
theorem qM:∀{A u:List α},A.Nodup->(∀z∈A,z∈u)->A.length<=u.length
 |[],u,_,_=>cP _
 |a::b,u,c,d=>by
  let⟨M,D⟩:=eh.mp c;have N:=d a bE
  have G:∀z∈b,z∈u.erase a:=λz S=>by grind
  have:=qM D G;grind
def dW(u:List α)(z:α):List α:=if u.contains z=I then u else u++[z]
def kz{u:List α}{z y:α}:y∈dW u z↔y∈u\/y=z:=by unfold dW;grind
def Bw{u:List α}{z:α}(G:u.Nodup):(dW u z).Nodup:=by
 unfold dW;by_cases A:u.contains z=I
 .rw [ai A];exact G
 .rw [N A];have M:z∉u:=λD=>A (gQ.mpr D)
  rw [gC];exists G,by simp,λU S a T=>?_;rw [bb.mp T];exactλD=>M (D▸S)
def Bx{u:List α}{z:α}:u.length<=(dW u z).length:=by
 unfold dW;split
 .exact aR _
 .rw [br];lia
def LM{u:List α}{z:α}(A:(dW u z).length=u.length):z∈u/\dW u z=u:=by grind [dW]
def cS(u:List α)(z:List α):List α:=z.foldl dW u
theorem hn:∀{A u:List α} {y:α},y∈cS u A↔y∈u\/y∈A
 |[],u,y=>by simp [cS]
 |a::b,u,y=>by
  show y∈cS (dW u a) b↔_;rw [hn,kz,bg];constructor
  .rintro((z|z)|z)
   .exact .inl z
   .exact .inr (.inl z)
   .exact .inr (.inr z)
  .rintro(z|z|z)
   .exact .inl (.inl z)
   .exact .inl (.inr z)
   .exact .inr z
theorem mD:∀{m u:List α},u.Nodup->(cS u m).Nodup
 |[],u,b=>b
 |a::c,u,b=>mD (m:=c) (Bw b)
theorem mE:∀{m u:List α},u.length<=(cS u m).length
 |[],u=>aR _
 |a::b,u=>cu Bx (mE (m:=b))
theorem oF:∀{m u:List α},(cS u m).length=u.length->(∀z∈m,z∈u)/\cS u m=u
 |[],u,_=>⟨λ_ A=>(nomatch A),S⟩
 |a::b,u,A=>by
  have e:u.length<=(dW u a).length:=Bx;have f:(dW u a).length<=(cS (dW u a) b).length:=mE
  have G:(cS (dW u a) b).length=u.length:=A;have N:(dW u a).length=u.length:=by lia
  let⟨T,M⟩:=LM N;rw [M]at G;let⟨U,c⟩:=oF (m:=b) G;exists λz d=>?_,?_
  .rcases bg.mp d with D|D
   .rw [D];exact T
   .exact U z D
  .show cS (dW u a) b=u;rw [M];exact c
end
variable{sK:Type}
def By[DecidableEq sK]{u:List sK}{A:sK}(D:A∈u):dW u A=u:=by simp_all [dW,ai]
def Bz[DecidableEq sK]{u:List sK}{A:sK}(D:¬A∈u):dW u A=u++[A]:=by simp_all [dW,N]
abbrev Pred:=aA->cw->Prop
def eS(N:ae)(M:Pred)(S:ae)(z A:aA):Prop:=match S with
 |.var b _=>∃G,g7 N b=Y G/\z=.name G/\A=.node b
 |.app b c a=>∃D,M (b5 c) (.fn D)/\((z=b5 a/\A=.name D)\/∃G,uR N D=Y G/\z=.node G/\A=.node b)
 |.letE b _ d G=>(z=b5 d/\A=.name b)\/(z=b5 G/\A=.node b)
 |.ifz b _ a G=>(z=b5 a/\A=.node b)\/(z=b5 G/\A=.node b)
 |.pair b a G=>(z=b5 a/\A=.first b)\/(z=b5 G/\A=.second b)
 |.fst b d=>∃D,M (b5 d) (.pair D)/\z=.first D/\A=.node b
 |.snd b d=>∃D,M (b5 d) (.pair D)/\z=.second D/\A=.node b
 |.new b d=>z=b5 d/\A=.inside b
 |.get b d=>∃D,M (b5 d) (.ref D)/\z=.inside D/\A=.node b
 |.set b e d=>(z=b5 d/\A=.node b)\/∃D,M (b5 e) (.ref D)/\z=b5 d/\A=.inside D
 |_=>False
def ec(z:ae)(A:Pred)(D G:aA):Prop:=∃M∈aG z,eS z A M D G
def fG(z:ae):Pred:=λA D=>(⟨A,D⟩:hv)∈rK z
def e4(z:iS):Pred:=λA D=>(⟨A,D⟩:hv)∈z
variable{l rc:ae}{wv T0:Pred}{or:aA}
def eS.mono(U:∀a b,wv a b->T0 a b){c:aA}(z:eS rc wv l c or):eS rc T0 l c or:=by
 cases l<;>simp only [eS]at z⊢<;>first
  |exact z
  |(let⟨D,G,M⟩:=z;exists D,U _ _ G,M)
  |(rcases z with z|⟨D,G,M⟩
    .exact .inl z
    .exact .inr ⟨D,U _ _ G,M⟩)
variable{v2:aA}
theorem ec.mono(T:∀G M,wv G M->T0 G M)(U:ec l wv or v2):ec l T0 or v2:=
 let⟨a,b,hw⟩:=U;⟨a,b,hw.mono T⟩
variable{ut:cw}
def iy{D:iS}:ut∈nS D or↔e4 D or ut:=by
 unfold nS e4;rw [bH];constructor
 .rintro⟨G,M,rfl⟩;let⟨U,N⟩:=dz.mp M
  have:G.place=or:=by simpa using N
  rwa [<-this]
 .intro T;exists ⟨or,ut⟩,dz.mpr ⟨T,by simp⟩,S
variable{t wP:Nat}
def wG{G M N T:aA}:(∃U,(⟨or,v2,U⟩:ka)∈([⟨G,M,t⟩,⟨N,T,wP⟩]:List ka))↔(or=G/\v2=M)\/(or=N/\v2=T):=by
 constructor
 .rintro⟨U,z⟩;rcases bg.mp z with z|z
  .cases z;exact .inl ⟨S,S⟩
  .cases bb.mp z;exact .inr ⟨S,S⟩
 .rintro(⟨rfl,rfl⟩|⟨rfl,rfl⟩)
  .exact⟨_,bE⟩
  .exact⟨_,bC _ bE⟩
def BB{U:iS}:(∃A,(⟨or,v2,A⟩:ka)∈kb rc U l)↔eS rc (e4 U) l or v2:=by
 cases l with
 |num A n=>simp [kb,eS]
 |var A y=>
  grind [kb,eS]
 |fn A y d=>simp [kb,eS]
 |app A i a=>
  simp [kb,eS,di];constructor
  .rintro⟨M,v,D,hw⟩;cases v with
   |fn z=>
    exists z,iy.mp D,?_;grind
   |num=>cases hw
   |pair z=>cases hw
   |ref z=>cases hw
  .rintro⟨z,G,j⟩;exists A,.fn z,iy.mpr G,?_;grind
 |letE A y b d=>exact wG
 |ifz A c a d=>exact wG
 |pair A a d=>exact wG
 |fst A b=>
  simp [kb,eS,di];constructor
  .rintro⟨M,v,D,hw⟩;cases v with
   |pair z=>
    exists z,iy.mp D,?_;cases bb.mp hw;exists S,S
   |num=>cases hw
   |fn z=>cases hw
   |ref z=>cases hw
  .rintro⟨z,G,rfl,rfl⟩;exists A,.pair z,iy.mpr G,bb.mpr S
 |snd A b=>
  simp [kb,eS,di];constructor
  .rintro⟨M,v,D,hw⟩;cases v with
   |pair z=>
    exists z,iy.mp D,?_;cases bb.mp hw;exists S,S
   |num=>cases hw
   |fn z=>cases hw
   |ref z=>cases hw
  .rintro⟨z,G,rfl,rfl⟩;exists A,.pair z,iy.mpr G,bb.mpr S
 |new A b=>simp [kb,eS]
 |get A b=>
  simp [kb,eS,di];constructor
  .rintro⟨M,v,D,hw⟩;cases v with
   |ref z=>
    exists z,iy.mp D,?_;cases bb.mp hw;exists S,S
   |num=>cases hw
   |fn z=>cases hw
   |pair z=>cases hw
  .rintro⟨z,G,rfl,rfl⟩;exists A,.ref z,iy.mpr G,bb.mpr S
 |set A k b=>
  simp [kb,eS,bg,di];constructor
  .rintro⟨M,hw|⟨v,D,hw⟩⟩
   .grind
   .cases v with
    |ref z=>
     have:=bb.mp hw;injection this with g h N;exact .inr ⟨z,iy.mp D,g,h⟩
    |num=>cases hw
    |fn z=>cases hw
    |pair z=>cases hw
  .rintro(⟨rfl,rfl⟩|⟨z,G,rfl,rfl⟩)
   .grind
   .exact⟨A,.inr ⟨.ref z,iy.mpr G,bb.mpr S⟩⟩
 |add A a d=>simp [kb,eS]
def oG{D:iS}:(∃z,(⟨or,v2,z⟩:ka)∈uS l D)↔ec l (e4 D) or v2:=by
 unfold uS ec;constructor
 .rintro⟨z,N⟩;rw [S6,di]at N;let⟨S,T,hw⟩:=N
  exists S,T,BB.mp ⟨z,hw⟩
 .rintro⟨S,T,hw⟩;let⟨z,U⟩:=BB.mpr hw
  grind [S6]
def oH{M:iS}:(⟨or,ut⟩:hv)∈nT l M↔fG l or ut\/∃D,ec l (e4 M) D or/\e4 M D ut:=by
 unfold nT;rw [bR,di];constructor
 .rintro(N|⟨U,hw,T⟩)
  .exact .inl N
  .unfold S7 at T;rw [bH]at T;let⟨h,a,b⟩:=T;injection b with c d;subst c d;exact .inr ⟨U.src,oG.mp ⟨U.by_,hw⟩,iy.mp a⟩
 .rintro(N|⟨D,hw,e⟩)
  .exact .inl N
  .obtain⟨f,g⟩:=oG.mpr hw;refine .inr ⟨⟨D,or,f⟩,g,?_⟩;unfold S7;rw [bH];exists ut,iy.mpr e,S
structure oI(A:ae)(z:Pred):Prop where
 iz:∀p a,fG A p a->z p a
 way:∀D d a,ec A z D d->z D a->z d a
def gJ(A:ae):Pred:=λD G=>∀z:Pred,oI A z->z D G
theorem qN(G:ae):oI G (gJ G):=
 ⟨λM z A D c=>c.iz M z A,λN S z T A D c=>c.way N S z (T.mono λM a U=>U D c) (A D c)⟩
theorem least_le(c:oI l wv)(M:gJ l or ut):wv or ut:=M wv c
theorem LN{z:iS}(G:∀M∈nT l z,M∈z):oI l (e4 z):=
 ⟨λU N A=>G _ (oH.mpr (.inl A)),λA a N S T=>G _ (oH.mpr (.inr ⟨A,S,T⟩))⟩
def hY(z:ae):Pred:=λA D=>A∈aq z/\D∈bp z
def hZ:or∈aq l↔(∃G∈aG l,or=b5 G)\/(∃D,or=.name D/\((∃y M,p9 D y M∈aG l)\/∃y T M,S8 D y T M∈aG l))\/(∃D,(or=.first D\/or=.second D)/\∃U M,G6 D U M∈aG l)\/∃D,or=.inside D/\∃T,G7 D T∈aG l:=by
 unfold aq;dsimp only;rw [bR,bR,bR,di,di,di,di];refine rL ⟨λ⟨G,z,A⟩=>⟨G,z,bb.mp A⟩,λ⟨G,z,A⟩=>⟨G,z,bb.mpr A⟩⟩ (rL ⟨?_,?_⟩ (rL ⟨?_,?_⟩ ⟨?_,?_⟩))
 .rintro⟨G,z,A⟩;cases G<;>first|(cases A;done)|exact⟨_,bb.mp A,.inl ⟨_,_,z⟩⟩|exists _,bb.mp A,.inr ⟨_,_,_,z⟩
 .rintro⟨D,rfl,⟨y,M,z⟩|⟨y,T,M,z⟩⟩<;>exists _,z,bb.mpr S
 .rintro⟨G,z,A⟩;cases G<;>first|(cases A;done)|exists _,(bg.mp A).imp id bb.mp,_,_,z
 .rintro⟨D,A,U,M,z⟩;exists _,z,bg.mpr (A.imp id bb.mpr)
 .rintro⟨G,z,A⟩;cases G<;>first|(cases A;done)|exists _,bb.mp A,_,z
 .rintro⟨D,rfl,T,z⟩;exists _,z,bb.mpr S
def i5:ut∈bp l↔ut=.num\/(∃z y N,ut=.fn z/\p9 z y N∈aG l)\/(∃z G y,ut=.pair z/\G6 z G y∈aG l)\/∃z T,ut=.ref z/\G7 z T∈aG l:=by
 unfold bp;rw [bg,j0];refine rL .rfl ⟨?_,?_⟩
 .rintro⟨G,A,M⟩;cases G<;>first|(cases M;done)|exact .inl ⟨_,_,_,(aS M).symm,A⟩|exact .inr (.inl ⟨_,_,_,(aS M).symm,A⟩)|exact .inr (.inr ⟨_,_,(aS M).symm,A⟩)
 .rintro(⟨z,y,N,rfl,A⟩|⟨z,G,y,rfl,A⟩|⟨z,T,rfl,A⟩)<;>exists _,A,S
def wH(G:G8 t∈bp l):∃y D,p9 t y D∈aG l:=by rcases i5.mp G with z|⟨a,y,D,z,b⟩|⟨a,x,y,z,b⟩|⟨a,d,z,b⟩<;>cases z;grind
def BC(G:Vk t∈bp l):∃D,G7 t D∈aG l:=by rcases i5.mp G with z|⟨b,y,c,z,a⟩|⟨b,x,y,z,a⟩|⟨b,D,z,a⟩<;>cases z;exists _,a
def BD(G:Vl t∈bp l):∃M D,G6 t M D∈aG l:=by rcases i5.mp G with z|⟨b,y,D,z,a⟩|⟨b,x,y,z,a⟩|⟨b,d,z,a⟩<;>cases z;exists _,_,a
theorem gm(A:l∈aG rc):G9 (ag l)∈aq rc:=hZ.mpr (.inl ⟨l,A,S⟩)
def oJ(a:∀c b,wv c b->b∈bp l)(z:ec l wv v2 or):or∈aq l:=by
 let⟨f,D,z⟩:=z;have A:=gm D
 cases f<;>simp [eS]at z<;>try exact z.elim
 .obtain⟨N,_,_,rfl⟩:=z;exact A
 .obtain⟨G,T,⟨_,rfl⟩|⟨N,_,_,rfl⟩⟩:=z
  .let⟨y,N,g⟩:=wH (a _ _ T);exact hZ.mpr (.inr (.inl ⟨G,S,.inl ⟨y,N,g⟩⟩))
  .exact A
 .rcases z with⟨_,rfl⟩|⟨_,rfl⟩
  .exact hZ.mpr (.inr (.inl ⟨_,S,.inr ⟨_,_,_,D⟩⟩))
  .exact A
 .rcases z with⟨_,rfl⟩|⟨_,rfl⟩<;>exact A
 .rcases z with⟨_,rfl⟩|⟨_,rfl⟩
  .exact hZ.mpr (.inr (.inr (.inl ⟨_,.inl S,_,_,D⟩)))
  .exact hZ.mpr (.inr (.inr (.inl ⟨_,.inr S,_,_,D⟩)))
 .obtain⟨G,_,_,rfl⟩:=z;exact A
 .obtain⟨G,_,_,rfl⟩:=z;exact A
 .obtain⟨_,rfl⟩:=z;exact hZ.mpr (.inr (.inr (.inr ⟨_,S,_,D⟩)))
 .obtain⟨G,_,_,rfl⟩:=z;exact A
 .rcases z with⟨_,rfl⟩|⟨G,T,_,rfl⟩
  .exact A
  .let⟨or,h⟩:=BC (a _ _ T);exact hZ.mpr (.inr (.inr (.inr ⟨_,S,_,h⟩)))
def lC(z:fG l or ut):hY l or ut:=by
 unfold fG rK at z;rw [di]at z;let⟨N,D,z⟩:=z;have A:=gm D
 cases N<;>simp only [uT,bb,gR,S9]at z<;>try exact z.elim
 .obtain⟨rfl,rfl⟩:=z;exists A,i5.mpr (.inl S)
 .split at z
  .rw [bb,S9]at z;let⟨rfl,rfl⟩:=z;exists A,i5.mpr (.inl S)
  .cases z
 .obtain⟨rfl,rfl⟩:=z;exists A,i5.mpr (.inr (.inl ⟨_,_,_,S,D⟩))
 .obtain⟨rfl,rfl⟩:=z;exists A,i5.mpr (.inr (.inr (.inl ⟨_,_,_,S,D⟩)))
 .obtain⟨rfl,rfl⟩:=z;exists A,i5.mpr (.inr (.inr (.inr ⟨_,_,S,D⟩)))
 .obtain⟨rfl,rfl⟩:=z;exists A,i5.mpr (.inl S)
theorem BE(e:ae):oI e (hY e):=⟨λ_ _ z=>lC z,λ_ _ _ A z=>⟨oJ (λ_ _ D=>D.2) A,z.2⟩⟩
theorem wI(D:gJ l or ut):hY l or ut:=least_le (BE l) D
def BF:(⟨or,ut⟩:hv)∈nU l↔hY l or ut:=by unfold nU hY;grind
theorem BG(z:Nat):∀A:List sK,(A.map λ_=>z).sum=A.length*z
 |[]=>by simp
 |a::b=>by
  rw [aZ,eC,BG z b,dn,Ta]
  lia
def BH(e:ae):(nU e).length=qa e:=by unfold nU qa;rw [Ha];simp only [z];exact BG _ _
variable{e:ae}
theorem BI:∀(M:Nat) (z:iS),z.Nodup->(∀A∈z,gJ e A.place A.abs)->qa e<M+z.length->(∀A∈uU e M z,gJ e A.place A.abs)/\∀A∈nT e (uU e M z),A∈uU e M z
 |0,z,a,b,f=>by
  have:z.length<=(nU e).length:=qM a λA U=>by
   have:=wI (b A U);let⟨D,G⟩:=A
   exact BF.mpr this
  grind [BH]
 |M+1,z,a,b,f=>by
  have g:Vacfab.roundOf e z=cS z (nT e z):=rfl;unfold uU;rw [g];by_cases c:(cS z (nT e z)).length=z.length
  .rw [ai c];grind [oF]
  .rw [N c];have:=mE (m:=nT e z) (u:=z)
   refine BI M _ (mD a) (λA U=>?_) (by lia);rcases hn.mp U with T|T
   .grind
   .let⟨D,G⟩:=A;have d:∀D G,e4 z D G->gJ e D G:=λD G h=>b ⟨D,G⟩ h
    rcases oH.mp T with T|⟨i,w,j⟩
    .exact(qN e).iz D G T
    .exact(qN e).way i D G (w.mono d) (d _ _ j)
def BJ:e4 (uU e (qa e+1) []) or ut↔gJ e or ut:=by let⟨G,M⟩:=BI (e:=e) (qa e+1) [] gd (λS N=>nomatch N) (by simp);exists λz=>G _ z,λz=>least_le (LN M) z
def LO{D:iS}:(⟨or,ut⟩:hv)∈zG l D↔hY l or ut/\e4 D or ut:=by unfold zG hY e4 zH;grind
def LP:e4 (d7 l) or ut↔gJ l or ut:=by
 unfold d7;show(⟨or,ut⟩:hv)∈_↔_
 rw [LO,BJ];exists λz=>z.2,λz=>⟨wI z,z⟩
def eT(z:ae)(D:aA->cw->Bool):iS:=(aq z).flatMap λA=>((bp z).filter (D A)).map λG=>⟨A,G⟩
variable{AC:Type}
theorem wJ(c:sK->Bool)(z:sK->AC):∀M:List sK,(M.filterMap λA=>if c A=I then Y (z A)else O)=(M.filter c).map z
 |[]=>rfl
 |A::a=>by
  rw [kR,ig];by_cases D:c A=I
  .rw [ai D,ai D,aZ,wJ c z a]
  .rw [N D,N D,wJ c z a]
def LQ(z:ae)(A:iS):zG z A=eT z (zH A):=by unfold zG eT;congr 1;funext p;exact wJ _ _ _
theorem filter_flatMap(c:AC->Bool)(z:sK->List AC):∀G:List sK,(G.flatMap z).filter c=G.flatMap λM=>(z M).filter c
 |[]=>rfl
 |M::a=>by rw [b3,b3,nV,filter_flatMap c z a]
def wK(z:ae)(A:hv->Bool):(nU z).filter A=eT z λD G=>A ⟨D,G⟩:=by unfold nU eT;rw [filter_flatMap];congr 1;funext D;rw [rM];rfl
def LR(z:ae):nU z=eT z λ_ _=>I:=by rw [<-wK z λ_=>I];exact(Hb.mpr λ_ _=>S).symm
variable{Tl Wr:aA->cw->Bool}
def LS(T:∀z∈aq l,∀A∈bp l,Tl z A=Wr z A):eT l Tl=eT l Wr:=by
 unfold eT;have:∀G:List aA,(∀z∈G,∀A∈bp l,Tl z A=Wr z A)->(G.flatMap λz=>((bp l).filter (Tl z)).map λA=>(⟨z,A⟩:hv))=G.flatMap λz=>((bp l).filter (Wr z)).map λA=>(⟨z,A⟩:hv):=by
  intro G;induction G with
  |nil=>intro _;rfl
  |cons z c a=>
   intro T;rw [b3,b3,a λU b=>T U (bC _ b)];rw [kY (T z bE)]
 exact this _ T
def LU:e4 (eT l Tl) or ut↔hY l or ut/\Tl or ut=I:=by unfold eT e4 hY;grind
def wL(c:(aq l).Nodup)(G:aA->cw->Bool)(d:or∈aq l):nS (eT l G) or=(bp l).filter (G or):=by
 unfold nS eT;rw [filter_flatMap,qb];have U:∀A:aA,(((((bp l).filter (G A)).map λT=>(⟨A,T⟩:hv)).filter λM=>M.place==or).map λM=>M.abs)=if A=or then(bp l).filter (G or)else []:=by
  intro A;by_cases a:A=or
  .subst a;rw [ai S,rM];have:((λM:hv=>M.place==A)∘λT=>(⟨A,T⟩:hv))=λ_=>I:=by
    funext T;simp
   rw [this,Hb.mpr λ_ _=>S,d6];exact nW _
  .simp_all [rM]
 have b:=funext U;rw [b];have e:∀(N:List aA),N.Nodup->(N.flatMap λA=>if A=or then(bp l).filter (G or)else [])=if or∈N then(bp l).filter (G or)else []:=by
  intro N;induction N with
  |nil=>grind
  |cons A f g=>
   grind
 grind
def LV(z:ae)(A:aA->cw->Bool):(eT z A).length=((aq z).map λD=>((bp z).filter (A D)).length).sum:=by grind [eT,Ha]
noncomputable def gn(z:ae):aA->cw->Bool:=λA D=> @decide (gJ z A D) (Hc _)
def qO:gn l or ut=I↔gJ l or ut:=by simp_all [gn]
def oK(z:ae):d7 z=eT z (gn z):=by unfold d7;rw [LQ];refine LS λA _ D _=>?_;rw [ic,qO,<-BJ];unfold zH e4;exact gQ
theorem LW(A:iS):Vacfaf.kindsOf l A=eT l λD G=>(nS A D).any (uV G):=wK l _
theorem BK(A:nX):rN l A=eT l λD G=>(cH A D).any λM=>(rK l).contains ⟨M,G⟩:=wK l _
def kids:ae->List ae
 |.num _ _=>[]
 |.var _ _=>[]
 |.fn _ _ d=>[d]
 |.app _ e a=>[e,a]
 |.letE _ _ b d=>[b,d]
 |.ifz _ c f b=>[c,f,b]
 |.pair _ a d=>[a,d]
 |.fst _ b=>[b]
 |.snd _ b=>[b]
 |.new _ b=>[b]
 |.get _ b=>[b]
 |.set _ g b=>[g,b]
 |.add _ a d=>[a,d]
def gp(z:ae):aG z=z::(kids z).flatMap aG:=by cases z<;>simp [aG,kids]
def gW(z:ae):z∈aG z:=by grind [gp]
def h3{y:ae}(z:y∈kids l):gg y<gg l:=by
 cases l<;>simp only [kids,bg,gR,g8]at z<;>try exact z.elim
 all_goals first
  |(subst z;simp;done)
  |(subst z;simp;lia)
  |(rcases z with rfl|rfl<;>simp<;>lia)
  |(rcases z with rfl|rfl|rfl<;>simp<;>lia)
def sL:∀{z A:ae},A∈aG z->∀y∈aG A,y∈aG z:=by
 intro z;induction a:gg z using Tc generalizing z with
 |_ n b=>
  intro A G y M;rw [gp]at G;rcases bg.mp G with D|D
  .subst D;exact M
  .obtain⟨N,T,U⟩:=di.mp D;have:=b (gg N) (by rw [<-a];exact h3 T) S U y M
   rw [gp];exact bC _ (di.mpr ⟨N,T,this⟩)
theorem i6{y:ae}(D:rc∈aG l)(G:y∈kids rc):y∈aG l:=
 sL D y (by rw [gp];exact bC _ (di.mpr ⟨y,G,gW y⟩))
def oL(D:ae)(G:List (dr×Nat))(z:Nat):Prop:=(∃M∈G,M.2=z)\/(∃y A,p9 z y A∈aG D)\/∃y A c,S8 z y A c∈aG D
variable{VR:List (dr×Nat)}
def oL.up{x:ae}(N:l∈kids x)(z:oL l VR t):oL x VR t:=by
 have u:∀{M},M∈aG l->M∈aG x:=λz=>by rw [gp];exact bC _ (di.mpr ⟨l,N,z⟩)
 rcases z with z|⟨y,d,z⟩|⟨y,d,c,z⟩
 .exact .inl z
 .exact .inr (.inl ⟨y,d,u z⟩)
 .exact .inr (.inr ⟨y,d,c,u z⟩)
def LX:∀(U:ae) (D:List (dr×Nat)) (A G:Nat),(A,Y G)∈qc D U->oL U D G:=by
 intro U;induction U with
 |num A n=>intro D A G z;cases z
 |var A x=>
  intro D T G z;simp only [qc,bb,uW]at z;let⟨rfl,z⟩:=z;cases h:D.find? (λM=>M.1==x)with
  |none=>rw [h]at z;cases z
  |some M=>
   rw [h]at z;cases z;exact .inl ⟨M,fq h,S⟩
 |fn A x G f=>
  intro D T g z;rcases oL.up (x:=.fn A x G) (bE) (f _ _ _ z)with⟨M,N,rfl⟩|z
  .rcases bg.mp N with rfl|N
   .exact .inr (.inl ⟨x,G,gW _⟩)
   .exact .inl ⟨M,N,S⟩
  .exact .inr z
 |letE A x d G b e=>
  intro D T g z;rcases bR.mp z with z|z
  .exact(b _ _ _ z).up bE
  .rcases oL.up (x:=.letE A x d G) (bC _ bE) (e _ _ _ z)with⟨M,N,rfl⟩|z
   .rcases bg.mp N with rfl|N
    .exact .inr (.inr ⟨x,d,G,gW _⟩)
    .exact .inl ⟨M,N,S⟩
   .exact .inr z
 |app A i a b e|pair A i a b e|set A i a b e|add A i a b e=>
  intro D T g z;rcases bR.mp z with z|z
  .exact(b _ _ _ z).up bE
  .exact(e _ _ _ z).up (bC _ bE)
 |ifz A c k d b e j=>
  intro D T g z;rcases bR.mp z with z|z
  .exact(b _ _ _ z).up bE
  .rcases bR.mp z with z|z
   .exact(e _ _ _ z).up (bC _ bE)
   .exact(j _ _ _ z).up (bC _ (bC _ bE))
 |fst A d f|snd A d f|new A d f|get A d f=>
  intro D T g z;exact(f _ _ _ z).up bE
def LY(z:g7 l wP=Y t):Td t∈aq l:=by
 unfold g7 at z;cases a:(uX l).find? λG=>G.1==wP with
 |none=>grind
 |some G=>
  rw [a]at z;let⟨N,U⟩:=G
  cases z;rcases LX l [] N t (fq a)with⟨G,T,_⟩|z|z
  .cases T
  .exact hZ.mpr (.inr (.inl ⟨t,S,.inl z⟩))
  .exact hZ.mpr (.inr (.inl ⟨t,S,.inr z⟩))
set_option tactic.hygienic true
def LZ(z:uR l wP=Y t):G9 t∈aq l:=by
 unfold uR at z;split at z
 .rename_i S y T M;cases z;have N:=fq M
  exact gm (i6 N (by simp [kids]))
 .cases z
set_option tactic.hygienic false
theorem jK{y:ae}(D:rc∈aG l)(G:y∈kids rc):b5 y∈aq l:=gm (i6 D G)
def qP(a:∀f G,wv f G->G∈bp l)(z:ec l wv v2 or):v2∈aq l:=by
 let⟨g,M,z⟩:=z;cases g<;>simp only [eS]at z<;>try exact z.elim
 .obtain⟨N,c,rfl,_⟩:=z;exact LY c
 .obtain⟨A,D,⟨rfl,_⟩|⟨N,c,rfl,_⟩⟩:=z
  .exact jK M (by simp [kids])
  .exact LZ c
 .rcases z with⟨rfl,_⟩|⟨rfl,_⟩<;>exact jK M (by simp [kids])
 .rcases z with⟨rfl,_⟩|⟨rfl,_⟩<;>exact jK M (by simp [kids])
 .rcases z with⟨rfl,_⟩|⟨rfl,_⟩<;>exact jK M (by simp [kids])
 .obtain⟨A,D,rfl,_⟩:=z;let⟨G,N,T⟩:=BD (a _ _ D);exact hZ.mpr (.inr (.inr (.inl ⟨A,.inl S,G,N,T⟩)))
 .obtain⟨A,D,rfl,_⟩:=z;let⟨G,N,T⟩:=BD (a _ _ D);exact hZ.mpr (.inr (.inr (.inl ⟨A,.inr S,G,N,T⟩)))
 .obtain⟨rfl,_⟩:=z;exact jK M (by simp [kids])
 .obtain⟨A,D,rfl,_⟩:=z;let⟨or,T⟩:=BC (a _ _ D);exact hZ.mpr (.inr (.inr (.inr ⟨A,S,or,T⟩)))
 .rcases z with⟨rfl,_⟩|⟨A,D,rfl,_⟩<;>exact jK M (by simp [kids])
def L0(e:∀A∈aG l,∀D,wv (b5 A) D->T0 (b5 A) D)(z:ec l wv or v2):ec l T0 or v2:=by
 let⟨A,c,z⟩:=z;exists A,c,?_;have d:∀y∈kids A,∀D,wv (b5 y) D->T0 (b5 y) D:=λy f=>e y (i6 c f)
 cases A<;>simp only [eS]at z⊢<;>first
  |exact z
  |(let⟨S,T,U⟩:=z;exists S,d _ (by simp [kids]) _ T,U)
  |(rcases z with z|⟨S,T,U⟩
    .exact .inl z
    .exact .inr ⟨S,d _ (by simp [kids]) _ T,U⟩)
theorem BL{G:sK->AC}:∀{A:List sK},(A.map G).Nodup->A.Nodup
 |[],_=>gd
 |a::c,b=>by rw [aZ,eh]at b;exact eh.mpr ⟨λM=>b.1 (bH.mpr ⟨a,M,S⟩),BL b.2⟩
structure e5(z:ae):Prop where
 cY:bJ z=eY (bJ z).length
def BM(z:nY l=I):e5 l:=by unfold nY at z;simp only [bx,iM]at z;exists z.2.1
section
variable {e:ae} (L:e5 e)
include L
def e5.at{A:Nat}{D:ae}(G:(aG e)[A]?=Y D):ag D=A:=by
 have M:(bJ e)[A]?=Y (ag D):=by unfold bJ;rw [bh,G];rfl
 rw [L.cY,List.getElem?_range (by have:=(cF.mp G).1;unfold bJ;rwa [z])]at M
 exact(aS M).symm
def e5.get{x:ae}(z:x∈aG e):(aG e)[ag x]?=Y x:=by let⟨i,A⟩:=hR.mp z;rwa [L.at A]
def e5.uniq{z y:ae}(A:z∈aG e)(D:y∈aG e)(G:ag z=ag y):z=y:=by have M:=L.get A;rw [G,L.get D]at M;grind
def e5.nodeAt(z:Nat):mb e z=(aG e)[z]?:=by
 unfold mb;cases a:(aG e)[z]? with
 |none=>
  rw [nP];intro A D G;have:ag A=z:=by simpa using G
  have S:=L.get D;grind
 |some A=>
  have M:=cG a;have N:=L.at a
  cases b:(aG e).find? λy=>ag y==z with
  |none=>
   grind
  |some y=>
   have:ag y=z:=by simpa using(mc b)
   rw [L.uniq (fq b) M (this.trans N.symm)]
def e5.nodup:(aG e).Nodup:=by
 have z:(bJ e).Nodup:=by rw [L.cY];exact Hd
 unfold bJ at z;exact BL z
def L4{T:Type}{A:ae->List T}(U:∀z,(A z).Nodup)(a:∀z y,z∈aG e->y∈aG e->∀M,M∈A z->M∈A y->z=y):((aG e).flatMap A).Nodup:=by
 have:∀D:List ae,D.Nodup->(∀z∈D,z∈aG e)->(D.flatMap A).Nodup:=by
  intro D;induction D with
  |nil=>intro _ _;exact gd
  |cons z k b=>
   intro c N;let⟨d,f⟩:=eh.mp c;rw [b3,gC];exists U z,b f λy G=>N y (bC _ G),λg h M S i=>?_;subst i;let⟨y,G,S⟩:=di.mp S;have:=a z y (N z bE) (N y (bC _ G)) g h S
   exact d (this▸G)
 exact this _ L.nodup λ_ j=>j
def kP:aA->Nat×Nat
 |.node a=>(0,a)|.name a=>(1,a)|.first a=>(2,a)|.second a=>(2,a)|.inside a=>(3,a)
def e5.places:(aq e).Nodup:=by
 have b:∀{c:ae->List aA} {D:Nat},(∀A,(c A).Nodup)->(∀A z,z∈c A->kP z=(D,ag A))->((aG e).flatMap c).Nodup/\∀z∈(aG e).flatMap c,(kP z).1=D:=λk G=>⟨L4 L k λA y U h z M d=>L.uniq U h (bD Prod.snd ((G A z M).symm.trans (G y z d))),λz l=>by let⟨A,_,M⟩:=di.mp l;rw [G A z M]⟩
 have i:∀{f g:List aA} {N T:Nat->Prop},(f.Nodup/\∀z∈f,N (kP z).1)->(g.Nodup/\∀z∈g,T (kP z).1)->(∀D,N D->T D->False)->(f++g).Nodup/\∀z∈f++g,N (kP z).1\/T (kP z).1:=λa z m=>⟨gC.mpr ⟨a.1,z.1,λA U y h n=>m _ (a.2 A U) (n▸z.2 y h)⟩,λA U=>(bR.mp U).imp (a.2 A) (z.2 A)⟩
 have j:∀{a:aA},[a].Nodup:=by simp
 dsimp only [aq];refine And.left (i (N:=(· =0)) (T:=λD=>D=1\/D=2\/D=3) (b (λA=>j) λA z G=>by rw [bb.mp G];rfl) ?_ λD M d=>by lia);refine i (N:=(· =1)) (T:=λD=>D=2\/D=3) (b (λA=>?_) λA z G=>?_) (i (N:=(· =2)) (T:=(· =3)) (b (λA=>?_) λA z G=>?_) (b (λA=>?_) λA z G=>?_) λD M d=>by lia) λD M d=>by lia
 all_goals cases A
 all_goals first|exact j|exact .nil|(cases G;done)|(rw [bb.mp G];rfl)|(simp;done)|(rcases bg.mp G with rfl|G<;>first|rfl|(rw [bb.mp G];rfl))
end
def size(z:ae):Nat:=(aG z).length
def size_eq(z:ae):size z=1+((kids z).map size).sum:=by
 unfold size;rw [gp,dn,Ha]
 lia
def size_pos(z:ae):0<size z:=by rw [size_eq];lia
def aW:Nat->ae->ae
 |n,.num _ k=>.num n k
 |n,.var _ x=>.var n x
 |n,.fn _ x b=>.fn n x (aW (n+1) b)
 |n,.app _ e a=>.app n (aW (n+1) e) (aW (n+1+size e) a)
 |n,.letE _ x d b=>.letE n x (aW (n+1) d) (aW (n+1+size d) b)
 |n,.ifz _ c f d=>.ifz n (aW (n+1) c) (aW (n+1+size c) f) (aW (n+1+size c+size f) d)
 |n,.pair _ a b=>.pair n (aW (n+1) a) (aW (n+1+size a) b)
 |n,.fst _ d=>.fst n (aW (n+1) d)
 |n,.snd _ d=>.snd n (aW (n+1) d)
 |n,.new _ d=>.new n (aW (n+1) d)
 |n,.get _ d=>.get n (aW (n+1) d)
 |n,.set _ g d=>.set n (aW (n+1) g) (aW (n+1+size g) d)
 |n,.add _ a b=>.add n (aW (n+1) a) (aW (n+1+size a) b)
theorem BN:size (.num t wP)=1:=rfl
variable{FB:dr}
theorem BO:size (.var t FB)=1:=rfl
def oM:size (.fn t FB l)=1+size l:=by simp [size_eq (.fn t FB l),kids]
def oN:size (.app t l rc)=1+size l+size rc:=by simp [size_eq (.app t l rc),kids];lia
def oO:size (.letE t FB l rc)=1+size l+size rc:=by simp [size_eq (.letE t FB l rc),kids];lia
def oP{c:ae}:size (.ifz t c l rc)=1+size c+size l+size rc:=by simp [size_eq (.ifz t c l rc),kids];lia
def oQ:size (.pair t l rc)=1+size l+size rc:=by simp [size_eq (.pair t l rc),kids];lia
def oR:size (.fst t l)=1+size l:=by simp [size_eq (.fst t l),kids]
def oS:size (.snd t l)=1+size l:=by simp [size_eq (.snd t l),kids]
def oT:size (.new t l)=1+size l:=by simp [size_eq (.new t l),kids]
def oU:size (.get t l)=1+size l:=by simp [size_eq (.get t l),kids]
def oV:size (.set t l rc)=1+size l+size rc:=by simp [size_eq (.set t l rc),kids];lia
def oW:size (.add t l rc)=1+size l+size rc:=by simp [size_eq (.add t l rc),kids];lia
def fH(z:UInt8):Bool:=z==40||(z==41||z==32)
def i7(z:aj):Bool:= !z.isEmpty&&z.all λA=> !fH A
def ends(z:aj):Prop:=z=[]\/∃A D,z=A::D/\fH A=I
theorem BP:∀(z A D:aj),(z.all λG=> !fH G)=I->dt A (z++D)=dt (A++z) D
 |[],A,D,_=>by simp
 |G::z,A,D,a=>by simp_all [fH,dt,BP]
variable{sB Re:aj}
def L5(hw:Re.isEmpty=ao)(D:ends sB):dt Re sB=Re::dt [] sB:=by
 rcases D with rfl|⟨b,sB,rfl,a⟩
 .grind [dt]
 .unfold fH at a;simp [zi,iM]at a;unfold dt;grind
def wM(D:i7 sB=I)(G:ends Re):dt [] (sB++Re)=sB::dt [] Re:=by simp_all [i7,BP,L5]
def i8(z:aj):dt [] (40::z)=[40]::dt [] z:=by rw [dt,ai (.inl S)];rfl
def i9(z:aj):dt [] (41::z)=[41]::dt [] z:=by rw [dt,ai (.inr S)];rfl
def lD(z:aj):dt [] (32::z)=dt [] z:=by rw [dt,N (by decide),ai S];rfl
theorem fg(z:aj):ends (41::z):=.inr ⟨41,z,S,by decide⟩
theorem eu(z:aj):ends (32::z):=.inr ⟨32,z,S,by decide⟩
def lE{x:dr}(z:gD x=I):i7 x=I:=by
 unfold gD at z;simp only [bx]at z;let⟨A,_,D,_⟩:=z
 unfold i7;rw [bx];exists A,js.mpr λG M=>?_;have:=js.mp D G M
 unfold kZ at this;simp [bx,j5]at this;grind [fH]
def L6:∀z:Fin 100,i7 (d8 z)=I/\zI (d8 z)=Y z.val/\d8 z≠[41]/\d8 z≠[40]/\(nZ.contains (d8 z))=ao:=by decide+kernel
theorem kA{n:Nat}(z:n<=99):i7 (d8 n)=I/\zI (d8 n)=Y n/\d8 n≠[41]/\d8 n≠[40]/\(nZ.contains (d8 n))=ao:=L6 ⟨n,by lia⟩
def name_num(A:gD FB=I):zI FB=O:=by
 unfold gD at A;simp only [bx]at A;let⟨M,_,D,_⟩:=A
 unfold zI;rw [N];rintro⟨_,G,_⟩;cases FB with
 |nil=>simp at M
 |cons a b=>
  rw [iN,bx]at D G;have S:=D.1
  have T:=G.1;unfold kZ at S;unfold iT at T;grind
def BQ(A:gD FB=I):nZ.contains FB=ao:=by simp_all [gD]
def sM(A:gD FB=I):FB≠[41]/\FB≠[40]:=by have:=lE A;constructor<;>(intro D;subst D;exact absurd this (by decide))
def toks:ae->List aj
 |.num _ n=>[d8 n]
 |.var _ x=>[x]
 |.fn _ x d=>[40]::az "fun"::x::(toks d++[[41]])
 |.app _ e a=>[40]::(toks e++(toks a++[[41]]))
 |.letE _ x b d=>[40]::az "let"::x::(toks b++(toks d++[[41]]))
 |.ifz _ c f b=>[40]::az "if"::(toks c++(toks f++(toks b++[[41]])))
 |.pair _ a d=>[40]::az "pair"::(toks a++(toks d++[[41]]))
 |.fst _ b=>[40]::az "fst"::(toks b++[[41]])
 |.snd _ b=>[40]::az "snd"::(toks b++[[41]])
 |.new _ b=>[40]::az "new"::(toks b++[[41]])
 |.get _ b=>[40]::az "get"::(toks b++[[41]])
 |.set _ g b=>[40]::az "set"::(toks g++(toks b++[[41]]))
 |.add _ a d=>[40]::az "add"::(toks a++(toks d++[[41]]))
def iA(D:i7 sB=I)(A:aj):dt [] (sB++32::A)=sB::dt [] A:=by rw [wM D (eu A),lD]
open Vacfaf (isTold)in
def L7:∀(G:ae),bo G=I->∀A,ends A->dt [] (bq G++A)=toks G++dt [] A:=by
 intro G;induction G with
 |num b n=>
  intro z A D;have:n<=99:=eB z
  exact wM (kA this).1 D
 |var b x=>intro z A D;exact wM (lE z) D
 |fn b x g h=>
  intro z A D;simp only [bo,bx]at z;show dt [] (40::(az "fun"++([32]++(x++([32]++bq g)))++[41])++A)=_
  simp only [dg,ck,dh];rw [i8,iA (by decide),iA (lE z.1),h z.2.2 _ (fg A),i9];simp [toks]
 |app b i a e f=>
  intro z A D;simp only [bo,bx]at z;show dt [] (40::(bq i++([32]++bq a)++[41])++A)=_
  simp_all [i8,eu,lD,fg,i9,toks]
 |letE b x d g e f=>
  intro z A D;simp only [bo,bx]at z;show dt [] (40::(az "let"++([32]++(x++([32]++(bq d++([32]++bq g)))))++[41])++A)=_
  simp only [dg,ck,dh];rw [i8,iA (by decide),iA (lE z.1),e z.2.2.1 _ (eu _),lD,f z.2.2.2 _ (fg A),i9];simp [toks]
 |ifz b c j d e f k=>
  intro z A D;simp only [bo,bx]at z;show dt [] (40::(az "if"++([32]++(bq c++([32]++(bq j++([32]++bq d)))))++[41])++A)=_
  simp only [dg,ck,dh];rw [i8,iA (by decide),e z.1 _ (eu _),lD,f z.2.1 _ (eu _),lD,k z.2.2 _ (fg A),i9];simp [toks]
 |pair b a g e f=>
  intro z A D;simp only [bo,bx]at z;show dt [] (40::(az "pair"++([32]++(bq a++([32]++bq g)))++[41])++A)=_
  simp only [dg,ck,dh];rw [i8,iA (by decide),e z.1 _ (eu _),lD,f z.2 _ (fg A),i9];simp [toks]
 |set b a g e f=>
  intro z A D;simp only [bo,bx]at z;show dt [] (40::(az "set"++([32]++(bq a++([32]++bq g)))++[41])++A)=_
  simp only [dg,ck,dh];rw [i8,iA (by decide),e z.1 _ (eu _),lD,f z.2 _ (fg A),i9];simp [toks]
 |add b a g e f=>
  intro z A D;simp only [bo,bx]at z;show dt [] (40::(az "add"++([32]++(bq a++([32]++bq g)))++[41])++A)=_
  simp only [dg,ck,dh];rw [i8,iA (by decide),e z.1 _ (eu _),lD,f z.2 _ (fg A),i9];simp [toks]
 |fst b d h=>
  intro z A D;show dt [] (40::(az "fst"++([32]++bq d)++[41])++A)=_
  simp only [dg,ck,dh];rw [i8,iA (by decide),h z _ (fg A),i9];simp [toks]
 |snd b d h=>
  intro z A D;show dt [] (40::(az "snd"++([32]++bq d)++[41])++A)=_
  simp only [dg,ck,dh];rw [i8,iA (by decide),h z _ (fg A),i9];simp [toks]
 |new b d h=>
  intro z A D;show dt [] (40::(az "new"++([32]++bq d)++[41])++A)=_
  simp only [dg,ck,dh];rw [i8,iA (by decide),h z _ (fg A),i9];simp [toks]
 |get b d h=>
  intro z A D;show dt [] (40::(az "get"++([32]++bq d)++[41])++A)=_
  simp only [dg,ck,dh];rw [i8,iA (by decide),h z _ (fg A),i9];simp [toks]
set_option tactic.hygienic true
def L8:∀z:ae,bo z=I->∃D G,toks z=D::G/\D≠[41]/\nZ.contains D=ao:=by
 intro z A;cases z
 case num a n=>exists _,_,S,(kA (eB A)).2.2.1,(kA (eB A)).2.2.2.2
 case var a x=>exists _,_,S,(sM A).1,BQ A
 all_goals exact⟨_,_,S,by decide,by decide⟩
set_option tactic.hygienic false
def L9(A:nZ.contains sB=ao):sB≠az "fun"/\sB≠az "let"/\sB≠az "if"/\sB≠az "pair"/\sB≠az "fst"/\sB≠az "snd"/\sB≠az "new"/\sB≠az "get"/\sB≠az "set"/\sB≠az "add":=by refine⟨?_,?_,?_,?_,?_,?_,?_,?_,?_,?_⟩<;>(intro D;subst D;exact absurd A (by decide))
def ja(G z:ae)(A:Nat)(D:List aj):Te ⟨G,A,[41]::D⟩ z=Y ⟨z,A,D⟩:=by unfold Te;simp
def Ma:∀(U:ae),bo U=I->∀z A D,dH U<z->g9 z A (toks U++D)=Y ⟨aW A U,A+size U,D⟩:=by
 intro U;induction U with
 |num b k=>
  intro G z A D T;let⟨_,m,n,o,_⟩:=kA (eB G)
  obtain⟨z,rfl⟩:∃M,z=M+1:=⟨z-1,by lia⟩
  show g9 (z+1) A (d8 k::D)=_;rw [Vacfaa.read.eq_def];dsimp only;rw [N n,ai o];simp only [m];rfl
 |var b x=>
  intro G z A D T;obtain⟨z,rfl⟩:∃M,z=M+1:=⟨z-1,by lia⟩
  show g9 (z+1) A (x::D)=_;rw [Vacfaa.read.eq_def];dsimp only;rw [N (sM G).1,ai (sM G).2];simp only [name_num G];rfl
 |fn b x e f=>
  intro G z A D T;obtain⟨z,rfl⟩:∃M,z=M+1:=⟨z-1,by lia⟩
  simp only [bo,bx]at G;simp only [dH]at T;show g9 (z+1) A ([40]::az "fun"::x::(toks e++[[41]])++D)=_
  simp only [dg,ck,dh];rw [Vacfaa.read.eq_def];dsimp only;rw [N (show¬([40]:aj)=[41]by decide),N (show¬([40]:aj)≠[40]by simp)];simp only [eQ];grind [aW,ja,oM]
 |app b M a g h=>
  intro G z A D T;obtain⟨z,rfl⟩:∃M,z=M+1:=⟨z-1,by lia⟩
  simp only [bo,bx]at G;simp only [dH]at T;let⟨i,E,j,F,p⟩:=L8 M G.1
  let⟨q,r,s,t,u,v,w,y,B,C⟩:=L9 p;show g9 (z+1) A ([40]::(toks M++(toks a++[[41]]))++D)=_
  have l:=g G.1 z (A+1) (toks a++([41]::D)) (by lia);rw [j]at l;simp only [dg]at l;rw [j];simp only [dg,ck,dh];rw [Vacfaa.read.eq_def];dsimp only;rw [N (show¬([40]:aj)=[41]by decide),N (show¬([40]:aj)≠[40]by simp)];simp only [N q,N r,N s,N t,N u,N v,N w,N y,N B,N C];grind [ja,oN,aW]
 |letE b x d e g h=>
  intro G z A D T;obtain⟨z,rfl⟩:∃M,z=M+1:=⟨z-1,by lia⟩
  simp only [bo,bx]at G;simp only [dH]at T;show g9 (z+1) A ([40]::az "let"::x::(toks d++(toks e++[[41]]))++D)=_
  simp only [dg,ck,dh];rw [Vacfaa.read.eq_def];dsimp only;rw [N (show¬([40]:aj)=[41]by decide),N (show¬([40]:aj)≠[40]by simp)];simp only [N (show az "let"≠az "fun"by decide),eQ];grind [ja,oO,aW]
 |ifz b c i d g h H=>
  intro G z A D T;obtain⟨z,rfl⟩:∃M,z=M+1:=⟨z-1,by lia⟩
  simp only [bo,bx]at G;simp only [dH]at T;show g9 (z+1) A ([40]::az "if"::(toks c++(toks i++(toks d++[[41]])))++D)=_
  simp only [dg,ck,dh];rw [Vacfaa.read.eq_def];dsimp only;rw [N (show¬([40]:aj)=[41]by decide),N (show¬([40]:aj)≠[40]by simp)];simp only [N (show az "if"≠az "fun"by decide),N (show az "if"≠az "let"by decide),eQ];grind [ja,oP,aW]
 |pair b a e g h=>
  intro G z A D T;obtain⟨z,rfl⟩:∃M,z=M+1:=⟨z-1,by lia⟩
  simp only [bo,bx]at G;simp only [dH]at T;show g9 (z+1) A ([40]::az "pair"::(toks a++(toks e++[[41]]))++D)=_
  simp only [dg,ck,dh];rw [Vacfaa.read.eq_def];dsimp only;rw [N (show¬([40]:aj)=[41]by decide),N (show¬([40]:aj)≠[40]by simp)];simp only [N (show az "pair"≠az "fun"by decide),N (show az "pair"≠az "let"by decide),N (show az "pair"≠az "if"by decide),eQ];grind [ja,oQ,aW]
 |set b a e g h=>
  intro G z A D T;obtain⟨z,rfl⟩:∃M,z=M+1:=⟨z-1,by lia⟩
  simp only [bo,bx]at G;simp only [dH]at T;show g9 (z+1) A ([40]::az "set"::(toks a++(toks e++[[41]]))++D)=_
  simp only [dg,ck,dh];rw [Vacfaa.read.eq_def];dsimp only;rw [N (show¬([40]:aj)=[41]by decide),N (show¬([40]:aj)≠[40]by simp)];simp only [N (show az "set"≠az "fun"by decide),N (show az "set"≠az "let"by decide),N (show az "set"≠az "if"by decide),N (show az "set"≠az "pair"by decide),N (show az "set"≠az "fst"by decide),N (show az "set"≠az "snd"by decide),N (show az "set"≠az "new"by decide),N (show az "set"≠az "get"by decide),eQ];grind [ja,oV,aW]
 |add b a e g h=>
  intro G z A D T;obtain⟨z,rfl⟩:∃M,z=M+1:=⟨z-1,by lia⟩
  simp only [bo,bx]at G;simp only [dH]at T;show g9 (z+1) A ([40]::az "add"::(toks a++(toks e++[[41]]))++D)=_
  simp only [dg,ck,dh];rw [Vacfaa.read.eq_def];dsimp only;rw [N (show¬([40]:aj)=[41]by decide),N (show¬([40]:aj)≠[40]by simp)];simp only [N (show az "add"≠az "fun"by decide),N (show az "add"≠az "let"by decide),N (show az "add"≠az "if"by decide),N (show az "add"≠az "pair"by decide),N (show az "add"≠az "fst"by decide),N (show az "add"≠az "snd"by decide),N (show az "add"≠az "new"by decide),N (show az "add"≠az "get"by decide),N (show az "add"≠az "set"by decide),eQ];grind [ja,oW,aW]
 |fst b d f=>
  intro G z A D T;obtain⟨z,rfl⟩:∃M,z=M+1:=⟨z-1,by lia⟩
  simp only [dH]at T;show g9 (z+1) A ([40]::az "fst"::(toks d++[[41]])++D)=_
  simp only [dg,ck,dh];rw [Vacfaa.read.eq_def];dsimp only;rw [N (show¬([40]:aj)=[41]by decide),N (show¬([40]:aj)≠[40]by simp)];simp only [N (show az "fst"≠az "fun"by decide),N (show az "fst"≠az "let"by decide),N (show az "fst"≠az "if"by decide),N (show az "fst"≠az "pair"by decide),eQ];rw [f G z (A+1) _ (by lia)];grind [ja,oR,aW]
 |snd b d f=>
  intro G z A D T;obtain⟨z,rfl⟩:∃M,z=M+1:=⟨z-1,by lia⟩
  simp only [dH]at T;show g9 (z+1) A ([40]::az "snd"::(toks d++[[41]])++D)=_
  simp only [dg,ck,dh];rw [Vacfaa.read.eq_def];dsimp only;rw [N (show¬([40]:aj)=[41]by decide),N (show¬([40]:aj)≠[40]by simp)];simp only [N (show az "snd"≠az "fun"by decide),N (show az "snd"≠az "let"by decide),N (show az "snd"≠az "if"by decide),N (show az "snd"≠az "pair"by decide),N (show az "snd"≠az "fst"by decide),eQ];rw [f G z (A+1) _ (by lia)];grind [ja,oS,aW]
 |new b d f=>
  intro G z A D T;obtain⟨z,rfl⟩:∃M,z=M+1:=⟨z-1,by lia⟩
  simp only [dH]at T;show g9 (z+1) A ([40]::az "new"::(toks d++[[41]])++D)=_
  simp only [dg,ck,dh];rw [Vacfaa.read.eq_def];dsimp only;rw [N (show¬([40]:aj)=[41]by decide),N (show¬([40]:aj)≠[40]by simp)];simp only [N (show az "new"≠az "fun"by decide),N (show az "new"≠az "let"by decide),N (show az "new"≠az "if"by decide),N (show az "new"≠az "pair"by decide),N (show az "new"≠az "fst"by decide),N (show az "new"≠az "snd"by decide),eQ];rw [f G z (A+1) _ (by lia)];grind [ja,oT,aW]
 |get b d f=>
  intro G z A D T;obtain⟨z,rfl⟩:∃M,z=M+1:=⟨z-1,by lia⟩
  simp only [dH]at T;show g9 (z+1) A ([40]::az "get"::(toks d++[[41]])++D)=_
  simp only [dg,ck,dh];rw [Vacfaa.read.eq_def];dsimp only;rw [N (show¬([40]:aj)=[41]by decide),N (show¬([40]:aj)≠[40]by simp)];simp only [N (show az "get"≠az "fun"by decide),N (show az "get"≠az "let"by decide),N (show az "get"≠az "if"by decide),N (show az "get"≠az "pair"by decide),N (show az "get"≠az "fst"by decide),N (show az "get"≠az "snd"by decide),N (show az "get"≠az "new"by decide),eQ];rw [f G z (A+1) _ (by lia)];grind [ja,oU,aW]
def sN:∀(A:ae) (z:Nat),size (aW z A)=size A:=by
 intro A;induction A with
 |num b k=>intro z;rfl
 |var b x=>intro z;rfl
 |fn b x h g=>intro z;simp only [aW,oM,g]
 |app b i a e f=>intro z;simp only [aW,oN,e,f]
 |letE b x i a e f=>intro z;simp only [aW,oO,e,f]
 |ifz b c l d e f j=>intro z;simp only [aW,oP,e,f,j]
 |pair b i a e f=>intro z;simp only [aW,oQ,e,f]
 |fst b h g=>intro z;simp only [aW,oR,g]
 |snd b h g=>intro z;simp only [aW,oS,g]
 |new b h g=>intro z;simp only [aW,oT,g]
 |get b h g=>intro z;simp only [aW,oU,g]
 |set b i a e f=>intro z;simp only [aW,oV,e,f]
 |add b i a e f=>intro z;simp only [aW,oW,e,f]
def BR:∀(z:ae) (A:Nat),dH (aW A z)=dH z:=by
 intro z;induction z with
 |num a k=>intro A;rfl
 |var a x=>intro A;rfl
 |_=>intro A;simp only [aW,dH, *]
def dI(z:ae):bJ z=ag z::(kids z).flatMap bJ:=by unfold bJ;rw [gp,aZ,qb]
def gX(z:ae):(bJ z).length=size z:=by unfold bJ size;grind
def lF:∀(N:ae) (z:Nat),bJ (aW z N)=cj z (size N):=by
 have A:∀z T:Nat,z::cj (z+1) T=cj z (1+T):=λz T=>by rw [zJ 1 T,nR]
 have M:∀z D G:Nat,cj z D++cj (z+D) G=cj z (D+G):=λz D G=>by rw [<-kc]
 intro N;induction N with
 |num a k=>intro z;rfl
 |var a x=>intro z;rfl
 |fn a x G f=>intro z;rw [dI];simp only [aW,kids,ag,oM,b3,ep,b0,f,A]
 |fst a G f=>intro z;rw [dI];simp only [aW,kids,ag,oR,b3,ep,b0,f,A]
 |snd a G f=>intro z;rw [dI];simp only [aW,kids,ag,oS,b3,ep,b0,f,A]
 |new a G f=>intro z;rw [dI];simp only [aW,kids,ag,oT,b3,ep,b0,f,A]
 |get a G f=>intro z;rw [dI];simp only [aW,kids,ag,oU,b3,ep,b0,f,A]
 |app a g D b e=>intro z;rw [dI];simp only [aW,kids,ag,oN,b3,ep,b0,b,e];rw [M,A,qd]
 |letE a x g D b e=>intro z;rw [dI];simp only [aW,kids,ag,oO,b3,ep,b0,b,e];rw [M,A,qd]
 |pair a g D b e=>intro z;rw [dI];simp only [aW,kids,ag,oQ,b3,ep,b0,b,e];rw [M,A,qd]
 |set a g D b e=>intro z;rw [dI];simp only [aW,kids,ag,oV,b3,ep,b0,b,e];rw [M,A,qd]
 |add a g D b e=>intro z;rw [dI];simp only [aW,kids,ag,oW,b3,ep,b0,b,e];rw [M,A,qd]
 |ifz a c i d b e h=>
  intro z;rw [dI];simp only [aW,kids,ag,oP,b3,ep,b0,b,e,h];rw [M (z+1+size c),M (z+1),A,qd,qd]
def wN:∀(G:ae) (D:Nat),bJ G=cj D (size G)->aW D G=G:=by
 have i:∀(D:Nat) (G:ae) (m:List Nat) (g:Nat),bJ G++m=cj D g->size G<=g->bJ G=cj D (size G)/\m=cj (D+size G) (g-size G):=λD G m g A n=>by
  have o:cj D g=cj D (size G)++cj (D+size G) (g-size G):=by
   rw [kc];congr 1
   lia
  rw [o]at A;exact md A (by rw [gX,qe])
 have N:∀(G:ae) (D:Nat),bJ G=cj D (size G)->ag G=D/\(kids G).flatMap bJ=cj (D+1) (size G-1):=λG D A=>by
  rw [dI]at A;obtain⟨g,n⟩:∃g,size G=g+1:=⟨size G-1,by have:=size_pos G;lia⟩
  rw [n,nR]at A;let⟨M,z⟩:=p7 A;exact⟨M,by rw [z,n];rfl⟩
 intro G;induction G with
 |num b k=>intro D A;let⟨M,_⟩:=N _ _ A;cases M;rfl
 |var b k=>intro D A;let⟨M,_⟩:=N _ _ A;cases M;rfl
 |fn b x j h=>
  intro D A;let⟨M,z⟩:=N _ _ A;cases M;simp only [kids,b3,ep,b0,oM]at z;rw [aW,h _ (z.trans (by congr 1;lia))];rfl
 |fst b j h=>
  intro D A;let⟨M,z⟩:=N _ _ A;cases M;simp only [kids,b3,ep,b0,oR]at z;rw [aW,h _ (z.trans (by congr 1;lia))];rfl
 |snd b j h=>
  intro D A;let⟨M,z⟩:=N _ _ A;cases M;simp only [kids,b3,ep,b0,oS]at z;rw [aW,h _ (z.trans (by congr 1;lia))];rfl
 |new b j h=>
  intro D A;let⟨M,z⟩:=N _ _ A;cases M;simp only [kids,b3,ep,b0,oT]at z;rw [aW,h _ (z.trans (by congr 1;lia))];rfl
 |get b j h=>
  intro D A;let⟨M,z⟩:=N _ _ A;cases M;simp only [kids,b3,ep,b0,oU]at z;rw [aW,h _ (z.trans (by congr 1;lia))];rfl
 |app b l a e f=>
  intro D A;let⟨M,z⟩:=N _ _ A;cases M;simp only [kids,b3,ep,b0,oN]at z;let⟨T,U⟩:=i _ _ _ _ z (by lia);rw [aW,e _ T,f _ (U.trans (by congr 1;lia))];rfl
 |letE b x l a e f=>
  intro D A;let⟨M,z⟩:=N _ _ A;cases M;simp only [kids,b3,ep,b0,oO]at z;let⟨T,U⟩:=i _ _ _ _ z (by lia);rw [aW,e _ T,f _ (U.trans (by congr 1;lia))];rfl
 |pair b l a e f=>
  intro D A;let⟨M,z⟩:=N _ _ A;cases M;simp only [kids,b3,ep,b0,oQ]at z;let⟨T,U⟩:=i _ _ _ _ z (by lia);rw [aW,e _ T,f _ (U.trans (by congr 1;lia))];rfl
 |set b l a e f=>
  intro D A;let⟨M,z⟩:=N _ _ A;cases M;simp only [kids,b3,ep,b0,oV]at z;let⟨T,U⟩:=i _ _ _ _ z (by lia);rw [aW,e _ T,f _ (U.trans (by congr 1;lia))];rfl
 |add b l a e f=>
  intro D A;let⟨M,z⟩:=N _ _ A;cases M;simp only [kids,b3,ep,b0,oW]at z;let⟨T,U⟩:=i _ _ _ _ z (by lia);rw [aW,e _ T,f _ (U.trans (by congr 1;lia))];rfl
 |ifz b c s d e f p=>
  intro D A;let⟨M,z⟩:=N _ _ A;cases M;simp only [kids,b3,ep,b0,oP]at z;let⟨T,U⟩:=i _ _ _ _ z (by lia);let⟨q,r⟩:=i _ _ _ _ U (by lia);rw [aW,e _ T,f _ q,p _ (r.trans (by congr 1;lia))];rfl
def Mb:∀(D:ae) (A:List dr),hS A D=I->bo D=I:=by
 intro D;induction D with
 |num b k=>intro A z;exact z
 |var b x=>intro A z;simp [hS,bx]at z;exact z.1
 |fn b x e f=>intro A z;simp [hS,bo,bx]at z⊢;grind
 |letE b x d e g h=>intro A z;simp [hS,bo,bx]at z⊢;grind
 |ifz b c j d g h l=>intro A z;simp [hS,bo,bx]at z⊢;grind
 |fst b e f|snd b e f|new b e f|get b e f=>intro A z;exact f A z
 |app b i a g h|pair b i a g h|set b i a g h|add b i a g h=>intro A z;simp [hS,bo,bx]at z⊢;grind
def Mc:∀z:ae,dH z<(toks z).length:=by intro z;induction z<;>simp only [dH,toks,dn,br,iP]<;>lia
def qQ(D:bo l=I):g9 ((dt [] (bq l)).length+1) 0 (dt [] (bq l))=Y ⟨aW 0 l,size l,[]⟩:=by
 have A:=L7 l D [] (.inl S);rw [b0]at A;have M:dt [] ([]:aj)=[]:=rfl
 rw [M,b0]at A;have G:=Ma l D ((toks l).length+1) 0 [] (by have:=Mc l;lia)
 rw [b0,uQ]at G;rw [A];exact G
def Md(D:nY l=I):aW 0 l=l:=by have A:=(BM D).cY;rw [gX,zK]at A;exact wN l 0 A
def qR:hT sB=Y l↔nY l=I/\bq l=sB:=by
 unfold hT;constructor
 .intro G;simp only at G;cases a:g9 ((dt [] sB).length+1) 0 (dt [] sB)with
  |none=>grind
  |some b=>
   grind
 .rintro⟨D,rfl⟩;have M:bo l=I:=by
   unfold nY at D;rw [bx]at D;exact Mb _ _ D.1
  simp_all [qQ,Md]
set_option tactic.hygienic true
def BS:He sB=Y l↔bo l=I/\bq l=sB/\aW 0 l=l:=by
 unfold He;constructor
 .intro z;simp only at z;cases a:g9 ((dt [] sB).length+1) 0 (dt [] sB)with
  |none=>grind
  |some b=>
   rw [a]at z;simp only [gh]at z;split at z
   .rename_i G;cases z;simp [bx,iM]at G;let⟨_,M,N⟩:=G
    subst N;rw [qQ M]at a;grind
   .cases z
 .rintro⟨M,rfl,T⟩;simp_all [qQ]
set_option tactic.hygienic false
def wO{y:ae}(A:bo l=I)(D:bo y=I)(G:bq l=bq y):aW 0 l=aW 0 y:=by
 have M:=qQ A;have N:=qQ D
 grind
set_option backward.eqns.nonrecursive true
set_option backward.eqns.deepRecursiveSplit true
def bY:aj->aj->List aj
 |w,[]=>if w.isEmpty=I then []else [w]
 |w,a::b=>if fH a=I then(if w.isEmpty=I then []else [w])++([a]::bY [] b)else bY (w++[a]) b
theorem qS:∀(z A:aj),(bY A z).flatten=A++z
 |[],A=>by unfold bY;grind
 |b::z,A=>by
  unfold bY;split
  .rw [uY,List.flatten_cons,qS z []];grind
  .rw [qS z (A++[b])];simp
theorem BU:∀(z A D:aj),(z.all λG=> !fH G)=I->bY A (z++D)=bY (A++z) D
 |[],A,D,_=>by simp
 |G::z,A,D,a=>by simp_all [bY,BU]
def Me(hw:Re.isEmpty=ao)(D:ends sB):bY Re sB=Re::bY [] sB:=by
 rcases D with rfl|⟨a,sB,rfl,b⟩
 all_goals simp_all [bY]
def hD(D:i7 sB=I)(G:ends Re):bY [] (sB++Re)=sB::bY [] Re:=by simp_all [i7,BU,Me]
def dm{z:UInt8}(D:fH z=I)(A:aj):bY [] (z::A)=[z]::bY [] A:=by simp_all [bY]
inductive Fm where
 |num|used|given|call|fn|letE|ifz|pair|fst|snd|new|get|set|add
deriving DecidableEq
def arity:Fm->Nat
 |.num=>0|.used=>0|.given=>0|.call=>2|.fn=>1|.letE=>2|.ifz=>3|.pair=>2|.fst=>1|.snd=>1|.new=>1|.get=>1|.set=>2|.add=>2
def ek(z:Fm):Bool:=match z with
 |.num=>I
 |.used=>I
 |.given=>I
 |_=>ao
def isBinder(z:Fm):Bool:=match z with
 |.fn=>I
 |.letE=>I
 |_=>ao
def fz:Fm->aj
 |.fn=>az "fun"|.letE=>az "let"|.ifz=>az "if"|.pair=>az "pair"|.fst=>az "fst"|.snd=>az "snd"|.new=>az "new"|.get=>az "get"|.set=>az "set"|.add=>az "add"
 |_=>[]
def ed(z:aj):Option Fm:=[Fm.fn,.letE,.ifz,.pair,.fst,.snd,.new,.get,.set,.add].find? λA=>fz A==z
def isNum(z:aj):Bool:=z==[48]||(!z.isEmpty&&(z.all iT&&(decide (z.length<=2)&&z.head? !=Y 48)))
def h4(z:aj):Bool:= !z.isEmpty&&(z.all kZ&&(decide (z.length<=4)&&(ed z).isNone))
structure Info where
 aK:Fm
 word:aj
 parent:Option Nat
 parts:List Nat
deriving DecidableEq
structure RS where
 ws:List aj
 nodes:List Info
 around:List Nat
def el:List aj->Option (Fm×aj×List aj)
 |[]=>Y (.call,[],[])
 |w::a=>match ed w with
  |none=>Y (.call,[],w::a)
  |some k=>if isBinder k=I then(match a with
   |b::x::c=>if b=[32]then(if x=du\/h4 x=ao then O else Y (k,x,c))else O
   |_=>O)else Y (k,[],a)
def head:List aj->Option (Fm×aj×List aj)
 |[]=>O
 |w::a=>if w=[40]then el a else if isNum w=I then Y (.num,w,a)else if w=du then Y (.given,[],a)else if h4 w=I then Y (.used,w,a)else O
def pass(z:aj):List aj->Option (List aj)
 |[]=>O
 |w::a=>if w=z then Y a else O
def attach(z:List Info)(D:List Nat)(G:Nat):List Info:=match D with
 |[]=>z
 |p::_=>z.modify p λA=>{A with parts:=A.parts++[G]}
def begin_(z:RS):Option RS:=if z.nodes.length=30\/8<z.around.length then O else(head z.ws).map λA=>
 ⟨A.2.2,attach z.nodes z.around z.nodes.length++[⟨A.1,A.2.1,z.around.head?,[]⟩],if ek A.1=I then z.around else z.nodes.length::z.around⟩
def hE(z:RS):Option RS:=match z.around with
 |[]=>O
 |p::A=>match z.nodes[p]? with
  |none=>O
  |some i=>if i.parts.length=arity i.aK then(pass [41] z.ws).map λD=>⟨D,z.nodes,A⟩
   else((if i.aK≠.call\/i.parts≠[]then pass [32] z.ws else Y z.ws)).bind λD=>begin_ ⟨D,z.nodes,p::A⟩
def jb:Nat->RS->Option RS
 |0,a=>if a.around=[]then Y a else O
 |n+1,a=>if a.around=[]then Y a else(hE a).bind (jb n)
def loop(z:RS):Option RS:=jb z.ws.length z
variable{wr V5:List aj}
def BV(G:pass sB wr=Y V5):V5.length<wr.length:=by
 cases wr with
 |nil=>cases G
 |cons w a=>
  grind [pass]
variable{Wf:Fm×aj×List aj}
def Mf(z:head wr=Y Wf):Wf.2.2.length<wr.length:=by
 cases wr with
 |nil=>cases z
 |cons w a=>
  simp only [head]at z;split at z
  .cases a with
   |nil=>cases z;simp
   |cons v b=>
    simp only [el]at z;split at z
    .cases z;simp
    .split at z
     .split at z
      .split at z
       .split at z
        .cases z
        .cases z;simp;lia
       .cases z
      .cases z
     .cases z;simp;lia
  .split at z
   .cases z;simp
   .split at z
    .cases z;simp
    .split at z
     .cases z;simp
     .cases z
def Mg{A D:RS}(z:begin_ A=Y D):D.ws.length<A.ws.length:=by
 unfold begin_ at z;split at z
 .cases z
 .obtain⟨M,G,rfl⟩:=cv.mp z;exact Mf G
def qT{D S':RS}(z:hE D=Y S'):S'.ws.length<D.ws.length:=by
 unfold hE at z;split at z
 .cases z
 .split at z
  .cases z
  .split at z
   .obtain⟨G,A,rfl⟩:=cv.mp z;exact BV A
   .let⟨G,A,M⟩:=ft.mp z;have:=Mg M
    split at A
    .have:=BV A;grind
    grind
theorem wQ:∀(D:Nat) (z:RS),z.ws.length<=D->jb D z=loop z
 |0,z,c=>by unfold loop;rw [Tf.mp c]
 |D+1,z,c=>by
  unfold loop;cases d:z.ws.length with
  |zero=>
   unfold jb;by_cases A:z.around=[]
   .rw [ai A,ai A]
   .rw [N A,N A];cases b:hE z with
    |none=>rfl
    |some a=>have:=qT b;lia
  |succ m=>
   show(if z.around=[]then Y z else(hE z).bind (jb D))=if z.around=[]then Y z else(hE z).bind (jb m);by_cases A:z.around=[]
   .rw [ai A,ai A]
   .rw [N A,N A];cases b:hE z with
    |none=>rfl
    |some a=>
     have:=qT b;show jb D a=jb m a
     rw [wQ D a (by lia),wQ m a (by lia)]
def qU(z:RS):loop z=if z.around=[]then Y z else(hE z).bind loop:=by
 by_cases A:z.around=[]
 .rw [ai A];unfold loop;cases z.ws.length<;>(unfold jb;rw [ai A])
 .rw [N A];unfold loop;cases c:z.ws.length with
  |zero=>
   unfold jb;rw [N A];cases a:hE z with
   |none=>rfl
   |some b=>have:=qT a;lia
  |succ m=>
   show(if z.around=[]then Y z else(hE z).bind (jb m))=_;rw [N A];cases a:hE z with
   |none=>rfl
   |some b=>
    have:=qT a;exact wQ m b (by lia)
def aB:ae->Fm
 |.num _ _=>.num
 |.var _ x=>if x=du then .given else .used
 |.fn _ _ _=>.fn
 |.app _ _ _=>.call
 |.letE _ _ _ _=>.letE
 |.ifz _ _ _ _=>.ifz
 |.pair _ _ _=>.pair
 |.fst _ _=>.fst
 |.snd _ _=>.snd
 |.new _ _=>.new
 |.get _ _=>.get
 |.set _ _ _=>.set
 |.add _ _ _=>.add
def wordOf:ae->aj
 |.num _ n=>d8 n
 |.var _ x=>if x=du then []else x
 |.fn _ x _=>x
 |.letE _ x _ _=>x
 |_=>[]
def cZ(A:Option Nat)(z:ae):Info:=⟨aB z,wordOf z,A,(kids z).map ag⟩
def infos:Option Nat->ae->List Info
 |p,.num b n=>[cZ p (.num b n)]
 |p,.var b x=>[cZ p (.var b x)]
 |p,.fn b x e=>cZ p (.fn b x e)::infos (Y b) e
 |p,.app b f a=>cZ p (.app b f a)::(infos (Y b) f++infos (Y b) a)
 |p,.letE b x d e=>cZ p (.letE b x d e)::(infos (Y b) d++infos (Y b) e)
 |p,.ifz b c g d=>cZ p (.ifz b c g d)::(infos (Y b) c++(infos (Y b) g++infos (Y b) d))
 |p,.pair b a e=>cZ p (.pair b a e)::(infos (Y b) a++infos (Y b) e)
 |p,.fst b d=>cZ p (.fst b d)::infos (Y b) d
 |p,.snd b d=>cZ p (.snd b d)::infos (Y b) d
 |p,.new b d=>cZ p (.new b d)::infos (Y b) d
 |p,.get b d=>cZ p (.get b d)::infos (Y b) d
 |p,.set b h d=>cZ p (.set b h d)::(infos (Y b) h++infos (Y b) d)
 |p,.add b a e=>cZ p (.add b a e)::(infos (Y b) a++infos (Y b) e)
def oX(A:Option Nat)(z:ae):infos A z=cZ A z::(kids z).flatMap (infos (Y (ag z))):=by cases z<;>simp [infos,kids,ag]
def eU:∀(z:ae) (A:Option Nat),(infos A z).length=size z:=by intro z;induction z<;>intro A<;>simp only [infos,dn,br,iP,BN,BO,oM,oN,oO,oP,oQ,oR,oS,oT,oU,oV,oW, *]<;>lia
def sO(z:ae):List ae->Option ae
 |[]=>Y z
 |_=>O
def mG(z:ae->ae):List ae->Option ae
 |[a]=>Y (z a)
 |_=>O
def mH(z:ae->ae->ae):List ae->Option ae
 |[a,b]=>Y (z a b)
 |_=>O
def wR(z:ae->ae->ae->ae):List ae->Option ae
 |[a,b,c]=>Y (z a b c)
 |_=>O
def oY(D:Fm)(z:Nat)(A:aj):List ae->Option ae:=match D with
 |.num=>sO (.num z (hU A))
 |.used=>sO (.var z A)
 |.given=>sO (.var z du)
 |.fn=>mG (.fn z A)
 |.call=>mH (.app z)
 |.letE=>mH (.letE z A)
 |.ifz=>wR (.ifz z)
 |.pair=>mH (.pair z)
 |.fst=>mG (.fst z)
 |.snd=>mG (.snd z)
 |.new=>mG (.new z)
 |.get=>mG (.get z)
 |.set=>mH (.set z)
 |.add=>mH (.add z)
variable{NE:List ae}
def BW(G:sO l NE=Y rc):NE=[]/\l=rc:=by
 cases NE with
 |nil=>exists S,aS G
 |cons=>cases G
def BX{A:ae->ae}(z:mG A NE=Y l):∃M,NE=[M]/\A M=l:=by unfold mG at z;split at z<;>cases z;exists _,S,S
def BY{A:ae->ae->ae}(z:mH A NE=Y l):∃M N,NE=[M,N]/\A M N=l:=by unfold mH at z;split at z<;>cases z;exists _,_,S,S
def BZ{A:ae->ae->ae->ae}(z:wR A NE=Y l):∃M N c,NE=[M,N,c]/\A M N c=l:=by unfold wR at z;split at z<;>cases z;exists _,_,_,S,S
def ho(A:Nat->List aj->Option (ae×List aj))(D:Fm):Nat->Nat->Nat->List aj->Option (List ae×List aj)
 |0,_,_,ws=>Y ([],ws)
 |k+1,a,b,ws=>(if D≠.call\/a≠0 then pass [32] ws else Y ws).bind λM=>(A b M).bind λz=>(ho A D k (a+1) (b+size z.1) z.2).bind λG=>Y (z.1::G.1,G.2)
def gY:Nat->Nat->Nat->List aj->Option (ae×List aj)
 |0,_,_,_=>O
 |fuel+1,d,a,ws=>if a=30\/8<d then O else(head ws).bind λz=>
  if ek z.1=I then(oY z.1 a z.2.1 []).map λA=>(A,z.2.2)
  else(ho (gY fuel (d+1)) z.1 (arity z.1) 0 (a+1) z.2.2).bind λD=>(pass [41] D.2).bind λG=>(oY z.1 a z.2.1 D.1).map λA=>(A,G)
variable{Wb:Nat->List aj->Option (ae×List aj)}
theorem wU{U:Fm}:∀{A G M:Nat} {N:List aj} {D:List ae×List aj},ho Wb U A G M N=Y D->D.1.length=A
 |0,_,_,_,_,z=>by cases z;rfl
 |A+1,G,M,N,D,z=>by
  simp only [ho]at z;let⟨b,_,z⟩:=ft.mp z;let⟨c,_,z⟩:=ft.mp z
  let⟨d,a,z⟩:=ft.mp z;cases z;simp [wU a]
def B0{D:Fm}{l:Nat}{x:aj}(A:NE.length=arity D):∃G,oY D l x NE=Y G:=by
 cases D<;>simp only [arity]at A<;>first
  |(obtain rfl:=kX.mp A;exists _,rfl)
  |(match NE,A with|[a],_=>exists _,rfl)
  |(match NE,A with|[a,b],_=>exists _,rfl)
  |(match NE,A with|[a,b,c],_=>exists _,rfl)
structure Made(A:Fm)(D:Nat)(x:aj)(G:List ae)(z:ae):Prop where
 fm:aB z=A
 wd:wordOf z=x
 ks:kids z=G
 lb:ag z=D
def wV(A:Fm)(z:aj):Prop:=match A with
 |.num=>d8 (hU z)=z
 |.used=>z≠du
 |.fn=>True
 |.letE=>True
 |_=>z=[]
def lG{A:Fm}(D:oY A t sB NE=Y l)(z:wV A sB):Made A t sB NE l:=by
 cases A<;>first
  |let⟨rfl,rfl⟩:=BW D
  |let⟨a,rfl,rfl⟩:=BX D
  |let⟨a,b,rfl,rfl⟩:=BY D
  |let⟨a,b,c,rfl,rfl⟩:=BZ D
 all_goals first
  |exists rfl,rfl,rfl,rfl
  |exists rfl,z.symm,rfl,rfl
  |exists rfl,z,rfl,rfl
  |exists N z,N z,rfl,rfl
  |exists ai rfl,(ai rfl).trans z.symm,rfl,rfl
def sP:∀N:aj,isNum N=I->d8 (hU N)=N/\hU N<=99:=by
 have h:∀z A:UInt8,iT z=I->iT A=I->z≠48->d8 (hU [z,A])=[z,A]/\hU [z,A]<=99:=by
  have:∀z A:Fin 10,z≠0->d8 (hU [e0 (48+z.val),e0 (48+A.val)])=[e0 (48+z.val),e0 (48+A.val)]/\hU [e0 (48+z.val),e0 (48+A.val)]<=99:=by decide+kernel
  intro z A G U i;unfold iT at G U;simp only [bx,j5,Tg]at G U;have T:(48:UInt8).toNat=48:=rfl
  have a:(57:UInt8).toNat=57:=rfl;rw [T,a]at G U;have b:z=e0 (48+(z.toNat-48)):=by
   apply uZ.mp;rw [zL]
   lia
  have j:A=e0 (48+(A.toNat-48)):=by
   apply uZ.mp;rw [zL]
   lia
  have:=this ⟨z.toNat-48,by lia⟩ ⟨A.toNat-48,by lia⟩ (by
   intro k;have:=bD Fin.val k
   simp only [Fin.val_zero]at this;apply i;apply uZ.mp;rw [T]
   lia)
  simp only [<-b,<-j]at this;exact this
 have g:∀z:UInt8,iT z=I->d8 (hU [z])=[z]/\hU [z]<=99:=by
  have:∀z:Fin 10,d8 (hU [e0 (48+z.val)])=[e0 (48+z.val)]/\hU [e0 (48+z.val)]<=99:=by decide+kernel
  intro z G;unfold iT at G;simp only [bx,j5,Tg]at G;have T:(48:UInt8).toNat=48:=rfl
  have a:(57:UInt8).toNat=57:=rfl;rw [T,a]at G;have b:z=e0 (48+(z.toNat-48)):=by
   apply uZ.mp;rw [zL]
   lia
  have:=this ⟨z.toNat-48,by lia⟩;simp only [<-b]at this;exact this
 intro N D;unfold isNum at D;rw [zi]at D;rcases D with D|D
 .rw [eq_of_beq D];exact g 48 (by decide)
 .simp only [bx,j5]at D;let⟨d,M,e,f⟩:=D
  match N,d,M,e,f with
  |[],d,_,_,_=>simp at d
  |[z],_,M,_,_=>exact g z (by simpa using M)
  |[z,A],_,M,_,f=>
   simp only [iN,Th,Ti,bx]at M;exact h z A M.1 M.2 (by simpa using f)
  |z::A::c::l,_,_,e,_=>simp at e
set_option tactic.hygienic true
def qV(z:head wr=Y Wf):wV Wf.1 Wf.2.1:=by
 cases wr with
 |nil=>cases z
 |cons w a=>
  simp only [head]at z;split at z
  .cases a with
   |nil=>cases z;rfl
   |cons v c=>
    simp only [el]at z;split at z
    .cases z;rfl
    .rename_i M N;have T:=fq N
     split at z
     .rename_i D;split at z
      .split at z
       .split at z
        .cases z
        .cases z;cases M<;>first|trivial|exact absurd D (by decide)
       .cases z
      .cases z
     .rename_i D;cases z;cases M<;>first|rfl|(simp at T;done)|exact absurd rfl D
  .split at z
   .rename_i U;cases z;exact(sP _ U).1
   .split at z
    .cases z;rfl
    .rename_i b;split at z
     .cases z;exact b
     .cases z
set_option tactic.hygienic false
set_option backward.eqns.nonrecursive false
set_option backward.eqns.deepRecursiveSplit false
def oZ(z:List Info)(A:List Nat)(D:Nat):(attach z A D).length=z.length:=by unfold attach;grind
theorem sQ(M:sK->sK):∀(z:List sK) (A:sK) (D:List sK),(z++A::D).modify z.length M=z++M A::D
 |[],A,D=>rfl
 |b::z,A,D=>by show b::(z++A::D).modify z.length M=_;rw [sQ M z A D];rfl
theorem Mh:∀{N S A:Nat} {T:List aj} {D:ae} {U:List aj},gY N S A T=Y (D,U)->ag D=A
 |0,_,_,_,_,_,z=>by cases z
 |N+1,S,A,T,D,U,z=>by
  simp only [gY]at z;split at z
  .cases z
  .obtain⟨c,a,z⟩:=ft.mp z;split at z
   .let⟨b,G,M⟩:=cv.mp z;cases M;exact(lG G (qV a)).lb
   .let⟨d,e,z⟩:=ft.mp z;let⟨f,g,z⟩:=ft.mp z
    let⟨b,G,M⟩:=cv.mp z;cases M;exact(lG G (qV a)).lb
def Mi{pE:Nat->List aj->Option (ae×List aj)}{d1:Nat}(l:∀a G M U,pE a G=Y (M,U)->ag M=a)(m:∀(a:Nat) (G:List aj) (g:List Info) (A:List Nat),d1=A.length->a=g.length->(begin_ ⟨G,g,A⟩).bind loop=(pE a G).bind λc=>loop ⟨c.2,attach g A a++infos A.head? c.1,A⟩){fm:Fm} {x:aj} {p:Option Nat} {N0:List Info} {A:List Nat} (n:d1=A.length+1):∀(b T:Nat) (G:List aj) (D:List Nat) (z:List Info),D.length=T->T+b=arity fm->loop ⟨G,N0++⟨fm,x,p,D⟩::z,N0.length::A⟩=(ho pE fm b T (N0.length+1+z.length) G).bind λd=>(pass [41] d.2).bind λU=>loop ⟨U,N0++⟨fm,x,p,D++d.1.map ag⟩::(z++d.1.flatMap (infos (Y N0.length))),A⟩:=by
 intro b;induction b with
 |zero=>
  intro T G D z e i;rw [qU,N (by simp)];have h:(N0++(⟨fm,x,p,D⟩:Info)::z)[N0.length]?=Y ⟨fm,x,p,D⟩:=by rw [hu (aR _),kd];rfl
  simp only [hE,h];rw [ai (by rw [e];exact i)];simp only [ho,gh];cases pass [41] G with
  |none=>rfl
  |some U=>simp
 |succ b o=>
  intro T G D z e i;rw [qU,N (by simp)];have h:(N0++(⟨fm,x,p,D⟩:Info)::z)[N0.length]?=Y ⟨fm,x,p,D⟩:=by rw [hu (aR _),kd];rfl
  simp only [hE,h];rw [N (show¬D.length=arity fm by lia)];have j:(fm≠.call\/D≠[])↔(fm≠.call\/T≠0):=by refine rL rO ?_;rw [<-e];exact not_congr kX.symm
  have q:(if fm≠.call\/D≠[]then pass [32] G else Y G)=(if fm≠.call\/T≠0 then pass [32] G else Y G):=by
   by_cases f:fm≠.call\/T≠0
   .rw [ai f,ai (j.mpr f)]
   .rw [N f,N λr=>f (j.mp r)]
  simp only [ho];rw [q];cases y:(if fm≠.call\/T≠0 then pass [32] G else Y G)with
  |none=>rfl
  |some U=>
   simp only [gh];have s:(N0++(⟨fm,x,p,D⟩:Info)::z).length=N0.length+1+z.length:=by simp;lia
   rw [m (N0.length+1+z.length) U (N0++⟨fm,x,p,D⟩::z) (N0.length::A) (by simpa using n) s.symm];cases t:pE (N0.length+1+z.length) U with
   |none=>rfl
   |some c=>
    let⟨M,k⟩:=c;simp only [gh,Tj];have u:=l _ _ _ _ t
    have v:attach (N0++(⟨fm,x,p,D⟩:Info)::z) (N0.length::A) (N0.length+1+z.length)++infos (Y N0.length) M=N0++⟨fm,x,p,D++[ag M]⟩::(z++infos (Y N0.length) M):=by simp only [attach];rw [sQ,u];simp
    rw [v,o (T+1) k (D++[ag M]) (z++infos (Y N0.length) M) (by simp [e]) (by lia)];have w:N0.length+1+(z++infos (Y N0.length) M).length=N0.length+1+z.length+size M:=by
     rw [br,eU]
     lia
    rw [w];cases ho pE fm b (T+1) (N0.length+1+z.length+size M) k with
    |none=>rfl
    |some d=>simp [ck]
theorem sim:∀(a c T:Nat) (U:List aj) (G:List Info) (z:List Nat),9<=a+c->c=z.length->T=G.length->(begin_ ⟨U,G,z⟩).bind loop=(gY a c T U).bind λD=>loop ⟨D.2,attach G z T++infos z.head? D.1,z⟩
 |0,c,T,U,G,z,i,hd,f=>by unfold begin_;rw [ai (.inr (by show 8<z.length;lia))];rfl
 |a+1,c,T,U,G,z,i,hd,f=>by
  unfold begin_;simp only [gY];rw [hd,f];by_cases e:G.length=30\/8<z.length
  .rw [ai e,ai e];rfl
  .rw [N e,N e];cases j:head U with
   |none=>rfl
   |some D=>
    simp only [l9,gh];have g:=qV j
    by_cases b:ek D.1=I
    .rw [ai b,ai b];have k:([]:List ae).length=arity D.1:=by
      cases m:D.1<;>rw [m]at b<;>first|rfl|exact absurd b (by decide)
     let⟨n,d⟩:=B0 (l:=G.length) (x:=D.2.1) k;have M:=lG d g
     rw [d];simp only [l9,gh];rw [oX,M.ks];unfold cZ;rw [M.fm,M.wd,M.ks];rfl
    .rw [N b,N b];have h:=Mi (pE:=gY a (z.length+1)) (d1:=z.length+1) (λ_ _ _ _ o=>Mh o) (λT U G q r s=>sim a (z.length+1) T U G q (by lia) r s)
      (fm:=D.1) (x:=D.2.1) (p:=z.head?) (N0:=attach G z G.length) (A:=z) S (arity D.1) 0 D.2.2 [] [] S (by lia)
     rw [oZ]at h;have t:attach G z G.length++[(⟨D.1,D.2.1,z.head?,[]⟩:Info)]=attach G z G.length++(⟨D.1,D.2.1,z.head?,[]⟩:Info)::[]:=rfl
     rw [t,h];simp only [iP,j9,dh];cases u:ho (gY a (z.length+1)) D.1 (arity D.1) 0 (G.length+1) D.2.2 with
     |none=>rfl
     |some v=>
      simp only [gh];cases w:pass [41] v.2 with
      |none=>rfl
      |some y=>
       simp only [gh];let⟨n,d⟩:=B0 (l:=G.length) (x:=D.2.1) (wU u);have M:=lG d g
       rw [d];simp only [l9,gh];rw [oX,M.ks,M.lb];unfold cZ;rw [M.fm,M.wd,M.ks]
def runM(A:List aj):Option (List Info):=((begin_ ⟨A,[],[]⟩).bind loop).bind λz=>if z.ws=[]then Y z.nodes else O
def Mj(z:List aj):runM z=(gY 9 0 0 z).bind λA=>if A.2=[]then Y (infos O A.1)else O:=by
 unfold runM;rw [sim 9 0 0 z [] [] (by lia) S rfl];cases gY 9 0 0 z with
 |none=>rfl
 |some A=>
  simp [gh,attach,List.head?_nil,dh];rw [qU,ai S];rfl
def hF(z:Fm)(A:aj):List aj:=if ek z=I then(if z=.given then [du]else [A])else if z=.call then [[40]]else if isBinder z=I then [[40],fz z,[32],A]else [[40],fz z]
def dy(z:Fm):Nat->List (List aj)->List aj
 |_,[]=>[]
 |j,w::a=>(if z≠.call\/j≠0 then [[32]]else [])++(w++dy z (j+1) a)
def aY:ae->List aj
 |.num _ n=>[d8 n]
 |.var _ x=>[x]
 |.fn _ x d=>[40]::az "fun"::[32]::x::[32]::(aY d++[[41]])
 |.app _ e a=>[40]::(aY e++[32]::(aY a++[[41]]))
 |.letE _ x b d=>[40]::az "let"::[32]::x::[32]::(aY b++[32]::(aY d++[[41]]))
 |.ifz _ c f b=>[40]::az "if"::[32]::(aY c++[32]::(aY f++[32]::(aY b++[[41]])))
 |.pair _ a d=>[40]::az "pair"::[32]::(aY a++[32]::(aY d++[[41]]))
 |.fst _ b=>[40]::az "fst"::[32]::(aY b++[[41]])
 |.snd _ b=>[40]::az "snd"::[32]::(aY b++[[41]])
 |.new _ b=>[40]::az "new"::[32]::(aY b++[[41]])
 |.get _ b=>[40]::az "get"::[32]::(aY b++[[41]])
 |.set _ g b=>[40]::az "set"::[32]::(aY g++[32]::(aY b++[[41]]))
 |.add _ a d=>[40]::az "add"::[32]::(aY a++[32]::(aY d++[[41]]))
def qW(A:ae):ek (aB A)=I↔(∃z D,A=.num z D)\/∃z G,A=.var z G:=by
 cases A with
 |num z D=>exists λ_=>.inl ⟨z,D,S⟩,λ_=>S
 |var z G=>
  exists λ_=>.inr ⟨z,G,S⟩,λ_=>?_;simp [aB];split<;>rfl
 |_=>exact⟨λM=>ih (show ao=I from M),λM=>by grind⟩
def B1(M:ek (aB l)=I):aY l=hF (aB l) (wordOf l):=by
 rcases(qW l).mp M with⟨A,U,rfl⟩|⟨A,x,rfl⟩
 .rfl
 .by_cases D:x=du
  .have G:aB (.var A x)=.given:=ai D;rw [G,D];rfl
  .have G:aB (.var A x)=.used:=N D;have T:wordOf (.var A x)=x:=N D
   rw [G,T];rfl
def o1(A:¬ek (aB l)=I):aY l=hF (aB l) (wordOf l)++(dy (aB l) 0 ((kids l).map aY)++[[41]]):=by
 cases l with
 |num a n=>exact absurd rfl A
 |var a x=>exact absurd ((qW _).mpr (.inr ⟨a,x,S⟩)) A
 |_=>simp [aY,aB,wordOf,hF,ek,isBinder,fz,kids,dy]
def kw_none{t:aj}:(ed t).isNone= !nZ.contains t:=by
 have z:nZ=[Fm.fn,.letE,.ifz,.pair,.fst,.snd,.new,.get,.set,.add].map fz:=by decide
 grind [ed]
def o2(z:aj):h4 z=gD z:=by grind [h4,gD,kw_none,Vm]
def B2(A:t<=99):isNum (d8 t)=I/\hU (d8 t)=t:=by
 have:∀t:Fin 100,isNum (d8 t)=I/\hU (d8 t)=t.val:=by decide+kernel
 exact this ⟨t,by lia⟩
def o3:ae->Bool
 |.num _ n=>decide (n<=99)
 |.var _ x=>gD x
 |.fn _ x _=>gD x&&x !=du
 |.letE _ x _ _=>gD x&&x !=du
 |_=>I
def mI(z:ae):bo z=I↔o3 z=I/\∀D∈kids z,bo D=I:=by cases z<;>(try exists λA=>⟨A,λ_ G=>(nomatch G)⟩,λA=>A.1)<;>simp [bo,o3,kids,Vn,bx,bg,gR,g8,forall_eq_or_imp,forall_eq,false_implies,implies_true,and_true,true_and,and_assoc,u9]
def B3(z:rc∈kids l):dH rc<dH l:=by
 cases l<;>simp only [kids,bg,gR,g8]at z<;>try exact z.elim
 all_goals simp only [dH]
 all_goals first
  |(subst z;lia)
  |(rcases z with rfl|rfl<;>lia)
  |(rcases z with rfl|rfl|rfl<;>lia)
def Ml(D:∀G∈kids l,dH G<=t):dH l<=t+1:=by cases l<;>simp only [kids,bg,gR,g8,forall_eq_or_imp,forall_eq]at D<;>simp only [dH]<;>lia
def B4(A:ek (aB l)=I):dH l=0/\size l=1/\kids l=[]:=by rcases(qW l).mp A with⟨D,G,rfl⟩|⟨D,x,rfl⟩<;>exists rfl,rfl,rfl
def qX:pass sB wr=Y V5↔wr=sB::V5:=by
 cases wr with
 |nil=>simp [pass]
 |cons w a=>
  grind [pass]
set_option tactic.hygienic true
def Mm{D:Fm}(A:head wr=Y (D,sB,V5)):wr=hF D sB++V5/\(D=.num->isNum sB=I)/\(D=.used->h4 sB=I)/\(isBinder D=I->h4 sB=I/\sB≠du):=by
 cases wr with
 |nil=>cases A
 |cons w a=>
  simp [head]at A;split at A
  .rename_i d;subst d;cases a with
   |nil=>cases A;exists S,(λz=>nomatch z),(λz=>nomatch z),λz=>absurd z (by decide)
   |cons v a=>
    simp [el]at A;split at A
    .cases A;exists S,(λz=>nomatch z),(λz=>nomatch z),λz=>absurd z (by decide)
    .rename_i e b;have f:=fq b
     have c:fz e=v:=by simpa using mc b
     split at A
     .rename_i M;split at A
      .split at A
       .rename_i g;split at A
        .cases A
        .rename_i h;cases A;subst g c;exists ?_,?_,?_,λ_=>⟨?_,λz=>h (.inl z)⟩
         .cases D<;>first|rfl|exact absurd M (by decide)
         .intro z;simp_all
         all_goals grind
       .cases A
      .cases A
     .rename_i M;cases A;subst c;exists ?_,?_,?_,λz=>absurd z M
      .cases D<;>first|rfl|(simp at f;done)|exact absurd rfl M
      .intro z;simp_all
      .intro z;simp_all
  .split at A
   .rename_i T;cases A;exists S,λ_=>T,(λz=>nomatch z),λz=>absurd z (by decide)
   .split at A
    .rename_i i;cases A;rw [i];exists S,(λz=>nomatch z),(λz=>nomatch z),λz=>absurd z (by decide)
    .split at A
     .rename_i T;cases A;exists S,(λz=>nomatch z),λ_=>T,λz=>absurd z (by decide)
     .cases A
set_option tactic.hygienic false
structure Reads(d A:Nat)(z:ae):Prop where
 told:bo z=I
 deep:d+dH z<=8
 sz:A+size z<=30
 qY:bJ z=cj A (size z)
set_option tactic.hygienic true
theorem wW{e:Fm}(g:∀z M G N,z<=30->Wb z M=Y (G,N)->M=aY G++N/\Reads t z G):∀(b T z:Nat) (M:List aj) (D:List ae) (N:List aj),z<=30->ho Wb e b T z M=Y (D,N)->M=dy e T (D.map aY)++N/\(∀G∈D,bo G=I/\t+dH G<=8)/\D.flatMap bJ=cj z ((D.map size).sum)/\(D≠[]->z+(D.map size).sum<=30)
 |0,T,z,M,D,N,a,A=>by cases A;exists S,(λ_ c=>nomatch c),S,λc=>absurd rfl c
 |b+1,T,z,M,D,N,a,A=>by
  simp only [ho]at A;let⟨s,h,A⟩:=ft.mp A;let⟨⟨G,k⟩,l,A⟩:=ft.mp A
  let⟨⟨i,m⟩,n,A⟩:=ft.mp A;cases A;let⟨o,U⟩:=g _ _ _ _ a l
  let⟨p,d,q,u⟩:=wW g b (T+1) (z+size G) k i m U.sz n;exists ?_,λv j=>?_,?_,λ_=>?_
  .simp [aZ,dy];split at h
   .rename_i a;rw [ai a,qX.mp h,o,p];simp
   grind
  .rcases bg.mp j with rfl|j
   .exact⟨U.told,U.deep⟩
   grind
  .rw [b3,U.qY,q,aZ,eC,kc]
  .rw [aZ,eC];by_cases r:i=[]
   .subst r;have:=U.sz
    simp
    lia
   grind
theorem sR:∀(i b N:Nat) (d:List aj) (A:ae) (e:List aj),N<=30->gY i b N d=Y (A,e)->d=aY A++e/\Reads b N A
 |0,_,_,_,_,_,_,z=>by cases z
 |i+1,b,N,d,A,e,R,z=>by
  simp only [gY]at z;split at z
  .cases z
  .rename_i V;let⟨⟨f,j,W⟩,o,z⟩:=ft.mp z;let⟨p,B,C,q⟩:=Mm o;have r:wV f j:=qV o
   dsimp only at z;have s:∀{T:List ae} {A:ae},oY f N j T=Y A->o3 A=I:=by
    intro T A G;cases f<;>first
     |let⟨rfl,rfl⟩:=BW G
     |let⟨t,rfl,rfl⟩:=BX G
     |let⟨t,E,rfl,rfl⟩:=BY G
     |let⟨t,E,c,rfl,rfl⟩:=BZ G
    all_goals try rfl
    all_goals simp only [o3]
    .exact cq (sP j (B S)).2
    .rw [<-o2];exact C S
    .obtain⟨k,l⟩:=q S;rw [<-o2,k];simpa using l
    .obtain⟨k,l⟩:=q S;rw [<-o2,k];simpa using l
   split at z
   .rename_i g;let⟨F,G,U⟩:=cv.mp z;cases U;have D:=lG G r
    have h:ek (aB A)=I:=by rw [D.fm];exact g
    let⟨X,u,v⟩:=B4 h;exists by rw [B1 h,D.fm,D.wd];exact p,(mI A).mpr ⟨s G,by rw [v];exact(λ_ U=>nomatch U)⟩,by lia,?_,?_
    .rw [u];lia
    .rw [dI,v,u,D.lb];rfl
   .rename_i g;let⟨⟨T,ab⟩,w,z⟩:=ft.mp z;let⟨ad,x,z⟩:=ft.mp z;let⟨F,G,U⟩:=cv.mp z;cases U;have D:=lG G r
    have h:¬ek (aB A)=I:=by rw [D.fm];exact g
    let⟨H,m,K,L⟩:=wW (λN d A e P z=>sR i (b+1) N d A e P z) _ _ _ _ _ _ (by lia) w;have n:T.length=arity f:=wU w
    dsimp only at G x D;have y:T≠[]:=by intro U;rw [U]at n;cases Q:f<;>rw [Q]at n g<;>first|(simp [arity]at n;done)|exact absurd rfl g
    have hsz:Cf.size A=1+(T.map Cf.size).sum:=by rw [size_eq,D.ks]
    exists ?_,(mI A).mpr ⟨s G,λa M=>?_⟩,?_,?_,?_
    .rw [o1 h,D.fm,D.wd,D.ks];rw [p,H,qX.mp x];simp
    .rw [D.ks]at M;exact(m a M).1
    .have M:∀a∈kids A,dH a<=7-b:=λa M=>by
      rw [D.ks]at M;have:=(m a M).2
      lia
     have al:b<=7:=by
      let⟨a,M⟩:=List.exists_mem_of_ne_nil T y;have:=(m a M).2
      lia
     have:=Ml M
     lia
    .have:=L y;rw [hsz];lia
    .rw [dI,D.ks,D.lb,K,hsz,zJ 1,nR]
def Mn:∀z:ae,bo z=I->∃D N,aY z=D::N/\ed D=O:=by
 intro z G;have M:∀A:aj,nZ.contains A=ao->ed A=O:=λA T=>by have:=kw_none (t:=A);simp_all
 cases z
 case num a n=>exists _,_,S,M _ (kA (eB G)).2.2.2.2
 case var a x=>exists _,_,S,M _ (BQ G)
 all_goals exact⟨_,_,S,by decide⟩
set_option tactic.hygienic false
def Mo(A:gD sB=I):isNum sB=ao:=by
 cases a:isNum sB with
 |false=>rfl
 |true=>
  have:=(sP sB a).1;grind [name_num,kA,sP]
def B5(f:bo l=I)(z:List aj)(g:aB l=.call->∃D G,z=D::G/\ed D=O):head (hF (aB l) (wordOf l)++z)=Y (aB l,wordOf l,z):=by
 let⟨hw,_⟩:=(mI l).mp f;cases l with
 |num b n=>
  have h:n<=99:=eB hw;show head (d8 n::z)=Y (.num,d8 n,z)
  simp_all [head,kA,B2]
 |var b x=>
  have hw:gD x=I:=hw;by_cases M:x=du
  .have T:aB (.var b x)=.given:=ai M;have U:wordOf (.var b x)=[]:=ai M
   rw [T,U];show head (du::z)=Y (.given,[],z)
   rw [head,N (by decide),N (by decide),ai S]
  .have T:aB (.var b x)=.used:=N M;have U:wordOf (.var b x)=x:=N M
   rw [T,U];show head (x::z)=Y (.used,x,z)
   simp_all [head,sM,Mo,o2]
 |fn b x e=>
  simp only [o3,bx,u9]at hw;show head ([40]::az "fun"::[32]::x::z)=Y (.fn,x,z)
  rw [head,ai S];simp only [el,show ed (az "fun")=Y .fn by decide,isBinder,eQ];simp_all [o2]
 |letE b x d e=>
  simp only [o3,bx,u9]at hw;show head ([40]::az "let"::[32]::x::z)=Y (.letE,x,z)
  rw [head,ai S];simp only [el,show ed (az "let")=Y .letE by decide,isBinder,eQ];simp_all [o2]
 |app b i a=>
  let⟨D,G,rfl,j⟩:=g S;show head ([40]::D::G)=Y (.call,[],D::G)
  rw [head,ai S];grind [el]
 |ifz b c k d=>show head ([40]::az "if"::z)=_;rw [head,ai S];simp [el,show ed (az "if")=Y .ifz by decide,isBinder,aB,wordOf]
 |pair b a e=>show head ([40]::az "pair"::z)=_;rw [head,ai S];simp [el,show ed (az "pair")=Y .pair by decide,isBinder,aB,wordOf]
 |fst b a=>show head ([40]::az "fst"::z)=_;rw [head,ai S];simp [el,show ed (az "fst")=Y .fst by decide,isBinder,aB,wordOf]
 |snd b a=>show head ([40]::az "snd"::z)=_;rw [head,ai S];simp [el,show ed (az "snd")=Y .snd by decide,isBinder,aB,wordOf]
 |new b a=>show head ([40]::az "new"::z)=_;rw [head,ai S];simp [el,show ed (az "new")=Y .new by decide,isBinder,aB,wordOf]
 |get b a=>show head ([40]::az "get"::z)=_;rw [head,ai S];simp [el,show ed (az "get")=Y .get by decide,isBinder,aB,wordOf]
 |set b a e=>show head ([40]::az "set"::z)=_;rw [head,ai S];simp [el,show ed (az "set")=Y .set by decide,isBinder,aB,wordOf]
 |add b a e=>show head ([40]::az "add"::z)=_;rw [head,ai S];simp [el,show ed (az "add")=Y .add by decide,isBinder,aB,wordOf]
def Mp(G:bo l=I):oY (aB l) (ag l) (wordOf l) (kids l)=Y l/\(kids l).length=arity (aB l):=by
 cases l with
 |num a n=>
  have T:n<=99:=eB G;exists ?_,S;show Y (Vo a (hU (d8 n)))=_
  grind [B2]
 |var a x=>
  by_cases A:x=du
  .have D:aB (.var a x)=.given:=ai A;rw [D,A];exists S,S
  .have D:aB (.var a x)=.used:=N A;have M:wordOf (.var a x)=x:=N A
   rw [D,M];exists S,S
 |_=>exists S,S
theorem B6{M:Fm}:∀(A:List ae) (D G:Nat) (T:List aj),(∀(z:ae) (c:Nat) (U:List aj),z∈A->bJ z=cj c (size z)->G<=c->c+size z<=G+(A.map size).sum->Wb c (aY z++U)=Y (z,U))->A.flatMap bJ=cj G ((A.map size).sum)->ho Wb M A.length D G (dy M D (A.map aY)++T)=Y (A,T)
 |[],D,G,T,_,_=>rfl
 |z::A,D,G,T,H,a=>by
  rw [b3,aZ,eC]at a;have e:cj G (size z+(A.map size).sum)=cj G (size z)++cj (G+size z) ((A.map size).sum):=by rw [kc]
  rw [e]at a;let⟨f,g⟩:=md a (by rw [gX,qe]);simp only [dn,aZ,dy,ho];have h:(if M≠.call\/D≠0 then pass [32] ((if M≠.call\/D≠0 then [[32]]else [])++(aY z++dy M (D+1) (A.map aY))++T)else Y ((if M≠.call\/D≠0 then [[32]]else [])++(aY z++dy M (D+1) (A.map aY))++T))=Y (aY z++(dy M (D+1) (A.map aY)++T)):=by
   by_cases d:M≠.call\/D≠0
   .simp only [ai d];exact qX.mpr (by simp)
   .simp only [N d];simp
  rw [h];simp only [gh];rw [H z G _ bE f (aR _) (by rw [aZ,eC];lia)];simp only [gh];rw [B6 A (D+1) (G+size z) T (λi c U j k l m=>H i c U (bC _ j) k (by lia) (by rw [aZ,eC];lia)) g];rfl
def B7:∀(U:Nat) (z:ae),gg z<=U->∀(G b T:Nat) (A:List aj),Reads b T z->dH z<G->gY G b T (aY z++A)=Y (z,A):=by
 intro U;induction U with
 |zero=>intro z i;cases z<;>simp at i
 |succ U n=>
  intro z i G b T A D F;obtain⟨G,rfl⟩:∃o,G=o+1:=⟨G-1,by lia⟩
  have j:ag z=T:=by
   have:=D.qY;rw [dI]at this;obtain⟨k,p⟩:∃k,size z=k+1:=⟨size z-1,by have:=size_pos z;lia⟩
   rw [p,nR]at this;exact(p7 this).1
  have hsz:=size_pos z;have H:=D.sz
  have K:=D.deep;let⟨d,q⟩:=Mp D.told;simp only [gY];rw [N (by lia)];by_cases M:ek (aB z)=I
  .rw [B1 M,B5 D.told A (λr=>by rw [r]at M;exact absurd M (by decide))];simp only [gh];rw [ai M];have s:=(B4 M).2.2
   rw [s,j]at d;rw [d];rfl
  .rw [o1 M];have l:=((mI z).mp D.told).2
   have t:head (hF (aB z) (wordOf z)++(dy (aB z) 0 ((kids z).map aY)++([41]::A)))=Y (aB z,wordOf z,dy (aB z) 0 ((kids z).map aY)++([41]::A)):=by
    refine B5 D.told _ λe=>?_;cases z with
    |app u f a=>
     let⟨v,g,w,y⟩:=Mn f (l f (by simp [kids]));exists v,g++(dy .call 1 [aY a]++([41]::A)),?_,y;show dy .call 0 [aY f,aY a]++([41]::A)=_
     simp only [dy,w];simp
    |var u x=>
     simp only [aB]at e;split at e<;>cases e
    |_=>cases e
   have B:hF (aB z) (wordOf z)++(dy (aB z) 0 ((kids z).map aY)++[[41]])++A=hF (aB z) (wordOf z)++(dy (aB z) 0 ((kids z).map aY)++([41]::A)):=by simp
   rw [B,t];simp only [gh];rw [N M,<-q];have C:(kids z).flatMap bJ=cj (T+1) (((kids z).map size).sum):=by have:=D.qY;rw [dI,size_eq,zJ 1,nR]at this;exact(p7 this).2
   have L:size z=1+((kids z).map size).sum:=size_eq z;rw [B6 (kids z) 0 (T+1) ([41]::A) (λm c g h E P Q=>?_) C]
   .simp only [gh];rw [qX.mpr S];simp only [gh];rw [j]at d;rw [d];rfl
   .have R:=B3 h;have V:=h3 h
    exact n m (by lia) G (b+1) c g ⟨l m h,by lia,by lia,E⟩ (by lia)
def Mq:∀(S:ae),bo S=I->∀A,ends A->bY [] (bq S++A)=aY S++bY [] A:=by
 have M:fH 40=I:=by decide
 have N:fH 41=I:=by decide
 have D:fH 32=I:=by decide
 intro S;induction S with
 |num b n=>intro z A G;exact hD (kA (eB z)).1 G
 |var b x=>intro z A G;exact hD (lE z) G
 |fn b x g h=>
  intro z A G;simp only [bo,bx]at z;show bY [] (40::(az "fun"++([32]++(x++([32]++bq g)))++[41])++A)=_
  simp only [dg,ck,dh];rw [dm M,hD (by decide) (eu _),dm D,hD (lE z.1) (eu _),dm D,h z.2.2 _ (fg A),dm N];simp [aY]
 |app b i a e f=>
  intro z A G;simp only [bo,bx]at z;show bY [] (40::(bq i++([32]++bq a)++[41])++A)=_
  simp_all [dm,eu,fg,aY]
 |letE b x d g e f=>
  intro z A G;simp only [bo,bx]at z;show bY [] (40::(az "let"++([32]++(x++([32]++(bq d++([32]++bq g)))))++[41])++A)=_
  simp only [dg,ck,dh];rw [dm M,hD (by decide) (eu _),dm D,hD (lE z.1) (eu _),dm D,e z.2.2.1 _ (eu _),dm D,f z.2.2.2 _ (fg A),dm N];simp [aY]
 |ifz b c j d e f k=>
  intro z A G;simp only [bo,bx]at z;show bY [] (40::(az "if"++([32]++(bq c++([32]++(bq j++([32]++bq d)))))++[41])++A)=_
  simp only [dg,ck,dh];rw [dm M,hD (by decide) (eu _),dm D,e z.1 _ (eu _),dm D,f z.2.1 _ (eu _),dm D,k z.2.2 _ (fg A),dm N];simp [aY]
 |pair b a g e f=>
  intro z A G;simp only [bo,bx]at z;show bY [] (40::(az "pair"++([32]++(bq a++([32]++bq g)))++[41])++A)=_
  simp only [dg,ck,dh];rw [dm M,hD (by decide) (eu _),dm D,e z.1 _ (eu _),dm D,f z.2 _ (fg A),dm N];simp [aY]
 |set b a g e f=>
  intro z A G;simp only [bo,bx]at z;show bY [] (40::(az "set"++([32]++(bq a++([32]++bq g)))++[41])++A)=_
  simp only [dg,ck,dh];rw [dm M,hD (by decide) (eu _),dm D,e z.1 _ (eu _),dm D,f z.2 _ (fg A),dm N];simp [aY]
 |add b a g e f=>
  intro z A G;simp only [bo,bx]at z;show bY [] (40::(az "add"++([32]++(bq a++([32]++bq g)))++[41])++A)=_
  simp only [dg,ck,dh];rw [dm M,hD (by decide) (eu _),dm D,e z.1 _ (eu _),dm D,f z.2 _ (fg A),dm N];simp [aY]
 |fst b d h=>
  intro z A G;show bY [] (40::(az "fst"++([32]++bq d)++[41])++A)=_
  simp only [dg,ck,dh];rw [dm M,hD (by decide) (eu _),dm D,h z _ (fg A),dm N];simp [aY]
 |snd b d h=>
  intro z A G;show bY [] (40::(az "snd"++([32]++bq d)++[41])++A)=_
  simp only [dg,ck,dh];rw [dm M,hD (by decide) (eu _),dm D,h z _ (fg A),dm N];simp [aY]
 |new b d h=>
  intro z A G;show bY [] (40::(az "new"++([32]++bq d)++[41])++A)=_
  simp only [dg,ck,dh];rw [dm M,hD (by decide) (eu _),dm D,h z _ (fg A),dm N];simp [aY]
 |get b d h=>
  intro z A G;show bY [] (40::(az "get"++([32]++bq d)++[41])++A)=_
  simp only [dg,ck,dh];rw [dm M,hD (by decide) (eu _),dm D,h z _ (fg A),dm N];simp [aY]
def e6(z:UInt8):Bool:=fH z||(iT z||kZ z)
def norm(z:UInt8):UInt8:=if e6 z=I then z else 63
def Mr(A:(sB.all kZ)=I):(sB.all e6)=I:=by grind [e6]
def wX(z:gD FB=I):(FB.all e6)=I:=by unfold gD at z;simp only [bx]at z;exact Mr z.2.2.1
def Ms(A:t<=99):((d8 t).all e6)=I:=by
 have:∀t:Fin 100,((d8 t).all e6)=I:=by decide+kernel
 exact this ⟨t,by lia⟩
def wY:∀(N:ae),bo N=I->((bq N).all e6)=I:=by
 have M:∀z:List aj,(∀G∈z,(G.all e6)=I)->((Hf z).all e6)=I:=by
  intro z U;have h:((va z).all e6)=I:=by
   unfold va;induction z with
   |nil=>rfl
   |cons G i b=>
    cases i with
    |nil=>exact U G bE
    |cons u j=>
     show((G++([32]++Hg [32] (u::j))).all e6)=I;rw [zM,zM,U G bE,b λT k=>U T (bC _ k)];decide
  show((40::(va z++[41])).all e6)=I;rw [iN,zM,h];decide
 intro N;induction N with
 |num z n=>intro A;exact Ms (eB A)
 |var z T=>intro A;exact wX A
 |fn z T l b=>
  intro A;simp [bo,bx]at A;refine M _ λG D=>?_;simp [bg,gR,g8]at D;rcases D with rfl|rfl|rfl
  .decide
  all_goals grind [wX]
 |letE z T d l e f=>
  intro A;simp [bo,bx]at A;refine M _ λG D=>?_;simp [bg,gR,g8]at D;rcases D with rfl|rfl|rfl|rfl
  .decide
  all_goals grind [wX]
 |ifz z c G d e f m=>
  intro A;simp [bo,bx]at A;refine M _ λG D=>?_;simp [bg,gR,g8]at D;rcases D with rfl|rfl|rfl|rfl
  .decide
  all_goals grind
 |app z g a e f=>
  intro A;simp [bo,bx]at A;refine M _ λG D=>?_;grind
 |pair z g a e f|set z g a e f|add z g a e f=>
  intro A;simp [bo,bx]at A;refine M _ λG D=>?_;simp [bg,gR,g8]at D;rcases D with rfl|rfl|rfl
  .decide
  all_goals grind
 |fst z d b|snd z d b|new z d b|get z d b=>
  intro A;refine M _ λG D=>?_;simp [bg,gR,g8]at D;rcases D with rfl|rfl
  .decide
  .exact b A
def B8(A:(sB.all e6)=I):sB.map norm=sB:=by
 rw [js]at A;have:sB.map norm=sB.map id:=gE λD G=>by simp_all [norm]
 simp_all
theorem B9:∀{z u:aj},z.map norm=u->(u.all e6)=I->z=u
 |[],u,a,_=>by grind
 |b::z,[],a,_=>by cases a
 |b::z,c::u,a,d=>by
  rw [iN,bx]at d;rw [aZ]at a;let⟨A,D⟩:=p7 a;rw [B9 D d.2];have:b=c:=by
   unfold norm at A;split at A
   .exact A
   .rw [<-A]at d;exact absurd d.1 (by decide)
  rw [this]
def wZ(A:bo l=I):bY [] (bq l)=aY l:=by
 have:=Mq l A [] (.inl S);rw [b0]at this;rw [this];show aY l++[]=aY l
 grind
set_option tactic.hygienic true
variable{xz:List Info}
def w0:runM (bY [] (sB.map norm))=Y xz↔∃z,bo z=I/\bq z=sB/\size z<=30/\dH z<=8/\aW 0 z=z/\xz=infos O z:=by
 rw [Mj];constructor
 .intro a;let⟨⟨z,f⟩,D,G⟩:=ft.mp a;dsimp only at G;split at G
  .rename_i b;subst b;cases G;let⟨T,A⟩:=sR 9 0 0 _ z [] (by lia) D;rw [b0]at T;have U:=bD List.flatten T
   rw [qS,dh,<-wZ A.told,qS,dh]at U;exists z,A.told,(B9 U (wY z A.told)).symm,by have:=A.sz;lia,by have:=A.deep;lia,wN z 0 A.qY,S
  .cases G
 .rintro⟨z,D,rfl,g,h,d,rfl⟩;rw [B8 (wY z D),wZ D];have e:bJ z=cj 0 (size z):=by
   have:=lF z 0;rw [d]at this;exact this
  have c:=B7 (gg z) z (aR _) 9 0 0 [] ⟨D,by lia,by lia,e⟩ (by lia);rw [b0]at c;rw [c];rfl
set_option tactic.hygienic false
def up(z:List Info)(A:aj):Nat->Nat->Option Nat->Option Nat
 |0,_,_=>O
 |_+1,_,O=>O
 |f+1,a,Y o=>match z[o]? with
  |none=>O
  |some i=>if i.word=A/\i.parts.getLast?=Y a then Y o else up z A f o i.parent
structure jc(ns:List Info)(p:Option Nat)(z:ae):Prop where
 top:ns[ag z]?=Y (cZ p z)
 o4:∀y∈aG z,∀k∈kids y,ns[ag k]?=Y (cZ (Y (ag y)) k)
variable{VW:Option Nat}
theorem jc.sub(G:jc xz VW l)(M:rc∈kids l):jc xz (Y (ag l)) rc:=
 ⟨G.o4 l (gW l) rc M,λy S=>G.o4 y (sL (i6 (gW l) M) y S)⟩
def Mt(U:xz[ag l]?=Y (cZ VW l))(N:∀D∈kids l,jc xz (Y (ag l)) D):jc xz VW l:=by
 exists U,λy z D T=>?_;rw [gp]at z;rcases bg.mp z with rfl|z
 .exact(N D T).top
 .let⟨a,b,z⟩:=di.mp z;exact(N a b).o4 y z D T
variable{wE:List Nat}
def sS(M:bJ l++wE=cj t wP)(N:size l<=wP):bJ l=cj t (size l)/\wE=cj (t+size l) (wP-size l):=by grind [kc,md,gX]
def kB(D:bJ l=cj t (size l)):ag l=t/\(kids l).flatMap bJ=cj (t+1) (((kids l).map size).sum):=by grind [dI,size_eq,nR]
def Mu:∀(M:Nat) (z:ae),gg z<=M->∀(A:Nat) (N:Option Nat) (pre post:List Info),pre.length=A->bJ z=cj A (size z)->jc (pre++(infos N z++post)) N z:=by
 intro M;induction M with
 |zero=>intro z d;cases z<;>simp at d
 |succ M o=>
  intro z d A N pre post e i;let⟨f,j⟩:=kB i
  refine Mt ?_ ?_
  .rw [f,oX,hu (by lia),e,kd];rfl
  .rw [oX,f];have walk:∀(D:List ae) (c:Nat) (T:List Info) (U:List Info),(∀G∈D,G∈kids z)->T.length=c->D.flatMap bJ=cj c ((D.map size).sum)->∀G∈D,jc (T++(D.flatMap (infos (Y A))++U)) (Y A) G:=by
    intro D;induction D with
    |nil=>grind
    |cons a p k=>
     intro c T U g q h G b;rw [b3,aZ,eC]at h;let⟨r,s⟩:=sS h (by lia)
     rw [b3];rcases bg.mp b with rfl|b
     .have t:=h3 (g G bE);grind
     .have:=k (c+size a) (T++infos (Y A) a) U (λl m=>g l (bC _ m)) (by grind [eU]) (by grind) G b;grind
   have:=walk (kids z) (A+1) (pre++[cZ N z]) post (λ_ n=>n) (by simp [e]) j;grind
def sT(A:aW 0 l=l):jc (infos O l) O l:=by
 have D:bJ l=cj 0 (size l):=by have:=lF l 0;rw [A]at this;exact this
 have:=Mu (gg l) l (aR _) 0 O [] [] S D;grind
structure Row(z:ae)(n:Nat):Prop where
 row:bJ z=cj n (size z)
theorem Row.lb(D:Row l t):ag l=t:=(kB D.row).1
def inScope(A:List (dr×Nat))(D:aj):Option Nat:=(A.find? λz=>z.1==D).map λz=>z.2
def Ca(A:List (dr×Nat))(D z:dr)(G:Nat):inScope ((D,G)::A) z=if D=z then Y G else inScope A z:=by grind [inScope]
def o5(G:List Info)(M:Option Nat)(N:List (dr×Nat))(A:ae):Prop:=∀z:aj,z≠[]->∀D,ag A<D->up G z D (ag A) M=inScope N z
variable{Wk:List (dr×Nat)}
def sU(b:jc xz VW l)(c:o5 xz VW Wk l)(e:ag l<ag rc)(d:∀A:aj,A≠[]->inScope VR A=if wordOf l=A/\((kids l).map ag).getLast?=Y (ag rc)then Y (ag l)else inScope Wk A):o5 xz (Y (ag l)) VR rc:=by
 intro A hw a f;obtain⟨M,rfl⟩:∃M,a=M+1:=⟨a-1,by lia⟩
 rw [up,b.top];show(if wordOf l=A/\((kids l).map ag).getLast?=Y (ag rc)then Y (ag l)else up xz A M (ag l) VW)=inScope VR A
 rw [d A hw,c A hw M (by lia)]
def qZ(M:Row l t)(N:kids l=[rc]):Row rc (t+1):=by have z:=(kB M.row).2;rw [N]at z;simp [b3,ep,b0,aZ,hP,eC,Hh,j9]at z;exists z
def q0{M:ae}(N:Row rc t)(S:kids rc=[l,M]):Row l (t+1)/\Row M (t+1+size l):=by have D:=(kB N.row).2;rw [S]at D;simp only [b3,ep,b0,aZ,hP,eC,Hh,j9]at D;let⟨T,U⟩:=sS D (by lia);exists ⟨T⟩,⟨U.trans (by congr 1;lia)⟩
def Mv{M c:ae}(N:Row M t)(S:kids M=[l,rc,c]):Row l (t+1)/\Row rc (t+1+size l)/\Row c (t+1+size l+size rc):=by have G:=(kB N.row).2;rw [S]at G;simp only [b3,ep,b0,aZ,hP,eC,Hh,j9]at G;let⟨T,U⟩:=sS G (by lia);let⟨a,b⟩:=sS U (by lia);exists ⟨T⟩,⟨a⟩,⟨b.trans (by congr 1;lia)⟩
theorem hp(N:jc xz VW l)(S:o5 xz VW VR l)(T:ag l<ag rc)(hw:wordOf l=[]):o5 xz (Y (ag l)) VR rc:=
 sU N S T λU a=>by grind
def gq{k:ae}{o:Option Nat}(S:k∈kids l)(T:∃z D,hV t z∈aG k/\xz[t]?=Y (cZ D (.var t z))/\∀G,t<G->z≠[]->up xz z G t D=o):∃z D,hV t z∈aG l/\xz[t]?=Y (cZ D (.var t z))/\∀G,t<G->z≠[]->up xz z G t D=o:=by let⟨z,D,U,a,b⟩:=T;exists z,D,sL (i6 (gW l) S) _ U,a,b
def Mw{u:List Info}:∀(t:ae) (A:Nat) (g:Option Nat) (T:List (dr×Nat)),Row t A->jc u g t->o5 u g T t->∀z o,(z,o)∈qc T t->∃i w,hV z i∈aG t/\u[z]?=Y (cZ w (.var z i))/\∀v,z<v->i≠[]->up u i v z w=o:=by
 intro t;induction t with
 |num z A=>intro A g T M G U z o D;cases D
 |var z i=>
  intro A g T M G U e o D;simp only [qc,bb,uW]at D;let⟨rfl,rfl⟩:=D;exists i,g,gW _,G.top,λv C E=>U i E v C
 |fn z i b r=>
  intro A g T M G U e o D;have f:=qZ M S
  have q:z=A:=M.lb;have s:ag (.fn z i b)<ag b:=by rw [f.lb];show z<A+1;lia
  refine gq (k:=b) (by simp [kids]) (r (A+1) _ ((i,z)::T) f (G.sub (by simp [kids])) (sU G U s λx hw=>?_) e o D);rw [Ca];simp [wordOf,kids,ag]
 |letE z i d b l m=>
  intro A g T M G U e o D;let⟨h,f⟩:=q0 M S;have q:z=A:=M.lb
  have K:=size_pos d;have n:ag (.letE z i d b)<ag d:=by rw [h.lb];show z<A+1;lia
  have p:ag (.letE z i d b)<ag b:=by rw [f.lb];show z<A+1+size d;lia
  rcases bR.mp D with D|D
  .refine gq (k:=d) (by simp [kids]) (l (A+1) _ T h (G.sub (by simp [kids])) (sU G U n λx hw=>?_) e o D);rw [N];rintro⟨_,y⟩;simp only [kids,aZ,hP,List.getLast?_cons_cons,List.getLast?_singleton,zr]at y;rw [h.lb,f.lb]at y
   lia
  .refine gq (k:=b) (by simp [kids]) (m (A+1+size d) _ ((i,z)::T) f (G.sub (by simp [kids])) (sU G U p λx hw=>?_) e o D);rw [Ca];simp [wordOf,kids,ag]
 |fst z d r=>
  intro A g T M G U e o D;have h:=qZ M S
  have q:z=A:=M.lb;have s:ag (.fst z d)<ag d:=by rw [h.lb];show z<A+1;lia
  exact gq (k:=d) (by simp [kids]) (r (A+1) _ T h (G.sub (by simp [kids])) (hp G U s S) e o D)
 |snd z d r=>
  intro A g T M G U e o D;have h:=qZ M S
  have q:z=A:=M.lb;have s:ag (.snd z d)<ag d:=by rw [h.lb];show z<A+1;lia
  exact gq (k:=d) (by simp [kids]) (r (A+1) _ T h (G.sub (by simp [kids])) (hp G U s S) e o D)
 |new z d r=>
  intro A g T M G U e o D;have h:=qZ M S
  have q:z=A:=M.lb;have s:ag (.new z d)<ag d:=by rw [h.lb];show z<A+1;lia
  exact gq (k:=d) (by simp [kids]) (r (A+1) _ T h (G.sub (by simp [kids])) (hp G U s S) e o D)
 |get z d r=>
  intro A g T M G U e o D;have h:=qZ M S
  have q:z=A:=M.lb;have s:ag (.get z d)<ag d:=by rw [h.lb];show z<A+1;lia
  exact gq (k:=d) (by simp [kids]) (r (A+1) _ T h (G.sub (by simp [kids])) (hp G U s S) e o D)
 |app z a b l m=>
  intro A g T M G U e o D;let⟨j,f⟩:=q0 M S;have q:z=A:=M.lb
  have n:ag (.app z a b)<ag a:=by rw [j.lb];show z<A+1;lia
  have p:ag (.app z a b)<ag b:=by rw [f.lb];show z<A+1+size a;lia
  rcases bR.mp D with D|D
  .exact gq (k:=a) (by simp [kids]) (l (A+1) _ T j (G.sub (by simp [kids])) (hp G U n S) e o D)
  .exact gq (k:=b) (by simp [kids]) (m (A+1+size a) _ T f (G.sub (by simp [kids])) (hp G U p S) e o D)
 |pair z a b l m=>
  intro A g T M G U e o D;let⟨j,f⟩:=q0 M S;have q:z=A:=M.lb
  have n:ag (.pair z a b)<ag a:=by rw [j.lb];show z<A+1;lia
  have p:ag (.pair z a b)<ag b:=by rw [f.lb];show z<A+1+size a;lia
  rcases bR.mp D with D|D
  .exact gq (k:=a) (by simp [kids]) (l (A+1) _ T j (G.sub (by simp [kids])) (hp G U n S) e o D)
  .exact gq (k:=b) (by simp [kids]) (m (A+1+size a) _ T f (G.sub (by simp [kids])) (hp G U p S) e o D)
 |set z a b l m=>
  intro A g T M G U e o D;let⟨j,f⟩:=q0 M S;have q:z=A:=M.lb
  have n:ag (.set z a b)<ag a:=by rw [j.lb];show z<A+1;lia
  have p:ag (.set z a b)<ag b:=by rw [f.lb];show z<A+1+size a;lia
  rcases bR.mp D with D|D
  .exact gq (k:=a) (by simp [kids]) (l (A+1) _ T j (G.sub (by simp [kids])) (hp G U n S) e o D)
  .exact gq (k:=b) (by simp [kids]) (m (A+1+size a) _ T f (G.sub (by simp [kids])) (hp G U p S) e o D)
 |add z a b l m=>
  intro A g T M G U e o D;let⟨j,f⟩:=q0 M S;have q:z=A:=M.lb
  have n:ag (.add z a b)<ag a:=by rw [j.lb];show z<A+1;lia
  have p:ag (.add z a b)<ag b:=by rw [f.lb];show z<A+1+size a;lia
  rcases bR.mp D with D|D
  .exact gq (k:=a) (by simp [kids]) (l (A+1) _ T j (G.sub (by simp [kids])) (hp G U n S) e o D)
  .exact gq (k:=b) (by simp [kids]) (m (A+1+size a) _ T f (G.sub (by simp [kids])) (hp G U p S) e o D)
 |ifz z a b c l m F=>
  intro A g T M G U e o D;let⟨j,f,B⟩:=Mv M S;have q:z=A:=M.lb
  have n:ag (.ifz z a b c)<ag a:=by rw [j.lb];show z<A+1;lia
  have p:ag (.ifz z a b c)<ag b:=by rw [f.lb];show z<A+1+size a;lia
  have H:ag (.ifz z a b c)<ag c:=by rw [B.lb];show z<A+1+size a+size b;lia
  rcases bR.mp D with D|D
  .exact gq (k:=a) (by simp [kids]) (l (A+1) _ T j (G.sub (by simp [kids])) (hp G U n S) e o D)
  .rcases bR.mp D with D|D
   .exact gq (k:=b) (by simp [kids]) (m (A+1+size a) _ T f (G.sub (by simp [kids])) (hp G U p S) e o D)
   .exact gq (k:=c) (by simp [kids]) (F (A+1+size a+size b) _ T B (G.sub (by simp [kids])) (hp G U H S) e o D)
def Cb:∀(T:ae) (G:List (dr×Nat)) (A:Nat) (D:dr),hV A D∈aG T->∃o,(A,o)∈qc G T:=by
 intro T;induction T with
 |num A n=>grind [aG]
 |var A y=>
  intro G M D z;simp [aG,bb,Vp]at z;let⟨rfl,rfl⟩:=z;exists _,bb.mpr S
 |fn A y b f=>
  intro G M D z;simp [aG,bg,reduceCtorEq,vb]at z;exact f _ M D z
 |fst A b f|snd A b f|new A b f|get A b f=>
  intro G M D z;simp [aG,bg,reduceCtorEq,vb]at z;exact f G M D z
 |letE A y a b d e=>
  intro G M D z;simp [aG,bg,reduceCtorEq,vb,bR]at z;rcases z with z|z
  .let⟨o,N⟩:=d G M D z;exists o,gN _ N
  .let⟨o,N⟩:=e ((y,A)::G) M D z;exists o,eH _ N
 |app A a b d e|pair A a b d e|set A a b d e|add A a b d e=>
  intro G M D z;simp [aG,bg,reduceCtorEq,vb,bR]at z;rcases z with z|z
  .let⟨o,N⟩:=d G M D z;exists o,gN _ N
  .let⟨o,N⟩:=e G M D z;exists o,eH _ N
 |ifz A a b c d e g=>
  intro G M D z;simp [aG,bg,reduceCtorEq,vb,bR]at z;rcases z with z|z|z
  .let⟨o,N⟩:=d G M D z;exists o,gN _ N
  .let⟨o,N⟩:=e G M D z;exists o,eH _ (gN _ N)
  .let⟨o,N⟩:=g G M D z;exists o,eH _ (eH _ N)
def Mx(a:aW 0 l=l)(p:bo l=I)(b:hV t FB∈aG l):∃N,(infos O l)[t]?=Y (cZ N (.var t FB))/\∀G,t<G->FB≠[]->up (infos O l) FB G t N=g7 l t:=by
 have c:bJ l=cj 0 (size l):=by have:=lF l 0;rw [a]at this;exact this
 have f:e5 l:=⟨by rw [gX,zK];exact c⟩
 have g:=sT a;have h:o5 (infos O l) O [] l:=λq hw G M=>by
  obtain⟨d,rfl⟩:∃d,G=d+1:=⟨G-1,by lia⟩
  rfl
 have i:=Mw l 0 O [] ⟨c⟩ g h;let⟨o,j⟩:=Cb l [] t FB b;unfold g7;cases M:(uX l).find? λT=>T.1==t with
 |none=>
  rw [nP]at M;exact absurd (by simp) (M (t,o) j)
 |some T=>
  have k:=fq M;have e:T.1=t:=by simpa using mc M
  let⟨r,s⟩:=T;dsimp only at e;subst e;let⟨y,N,z,m,n⟩:=i _ _ k;have U:=f.uniq z b S
  injection U with _ U;subst U;exists N,m,n
def cI:List (dr×Nat)->ae->List (Nat×dr×Option Nat)
 |_,.num _ _=>[]
 |s,.var e x=>[(e,x,inScope s x)]
 |s,.fn e x d=>cI ((x,e)::s) d
 |s,.app _ f a=>cI s f++cI s a
 |s,.letE e x b d=>cI s b++cI ((x,e)::s) d
 |s,.ifz _ c g b=>cI s c++(cI s g++cI s b)
 |s,.pair _ a d=>cI s a++cI s d
 |s,.fst _ b=>cI s b
 |s,.snd _ b=>cI s b
 |s,.new _ b=>cI s b
 |s,.get _ b=>cI s b
 |s,.set _ h b=>cI s h++cI s b
 |s,.add _ a d=>cI s a++cI s d
def w1:∀(z:ae) (A:List (dr×Nat)),qc A z=(cI A z).map λD=>(D.1,D.2.2):=by intro z;induction z<;>intro A<;>simp [qc,cI,aT,aZ,hP,inScope, *]
def sV:∀(N:ae) (G:List (dr×Nat)) (A:Nat) (D:dr) (o:Option Nat),(A,D,o)∈cI G N->hV A D∈aG N:=by
 intro N;induction N with
 |num A n=>intro G M D o z;cases z
 |var A y=>
  intro G M D o z;simp [cI,bb,uW]at z;let⟨rfl,rfl,_⟩:=z;exact gW _
 |fn A y b f=>intro G M D o z;exact bC _ (f _ _ _ _ z)
 |fst A b f|snd A b f|new A b f|get A b f=>intro G M D o z;exact bC _ (f _ _ _ _ z)
 |letE A y a b d e=>
  intro G M D o z;rcases bR.mp z with z|z
  .exact bC _ (gN _ (d _ _ _ _ z))
  .exact bC _ (eH _ (e _ _ _ _ z))
 |app A a b d e|pair A a b d e|set A a b d e|add A a b d e=>
  intro G M D o z;rcases bR.mp z with z|z
  .exact bC _ (gN _ (d _ _ _ _ z))
  .exact bC _ (eH _ (e _ _ _ _ z))
 |ifz A a b c d e g=>
  intro G M D o z;rcases bR.mp z with z|z
  .exact bC _ (gN _ (d _ _ _ _ z))
  .rcases bR.mp z with z|z
   .exact bC _ (eH _ (gN _ (e _ _ _ _ z)))
   .exact bC _ (eH _ (eH _ (g _ _ _ _ z)))
def My(z:List (dr×Nat))(A:dr):(inScope z A).isSome=I↔A∈z.map (·.1):=by grind [inScope]
def fh(A:List (dr×Nat))(D:ae):Prop:=∀G z o,(G,z,o)∈cI A D->z=du\/o.isSome=I
def q1:(∀D z o,(D,z,o)∈cI VR l++cI Wk rc->z=du\/o.isSome=I)↔fh VR l/\fh Wk rc:=by
 constructor
 .intro T;exists λD z o A=>T D z o (gN _ A),λD z o A=>T D z o (eH _ A)
 .rintro⟨U,a⟩ D z o A;rcases bR.mp A with A|A
  .exact U D z o A
  .exact a D z o A
def Mz:∀(M:ae) (z:List (dr×Nat)),hS (z.map (·.1)++[du]) M=I↔bo M=I/\fh z M:=by
 intro M;induction M with
 |num A n=>
  intro z;exists λN=>⟨N,λ_ _ _ D=>(nomatch D)⟩,λN=>N.1
 |var A G=>
  intro z;simp only [hS,bo,bx,gQ,bR,bb];refine and_congr rO ?_;rw [<-My];constructor
  .intro N j k o D;grind [cI]
  .intro N;exact(N A G _ (bb.mpr S)).symm
 |fn A G b g=>
  intro z;have:=g ((G,A)::z)
  simp only [aZ,dg]at this;simp only [hS,bo,bx,this,and_assoc];exact rO
 |letE A G d b e f=>
  intro z;have T:=f ((G,A)::z)
  simp only [aZ,dg]at T;simp only [hS,bo,bx,e z,T];have M:fh z (.letE A G d b)↔fh z d/\fh ((G,A)::z) b:=q1
  grind
 |fst A b g=>intro z;exact g z
 |snd A b g=>intro z;exact g z
 |new A b g=>intro z;exact g z
 |get A b g=>intro z;exact g z
 |app A a b e f=>
  intro z;simp only [hS,bo,bx,e z,f z];have M:fh z (.app A a b)↔fh z a/\fh z b:=q1
  grind
 |pair A a b e f=>
  intro z;simp only [hS,bo,bx,e z,f z];have M:fh z (.pair A a b)↔fh z a/\fh z b:=q1
  grind
 |set A a b e f=>
  intro z;simp only [hS,bo,bx,e z,f z];have M:fh z (.set A a b)↔fh z a/\fh z b:=q1
  grind
 |add A a b e f=>
  intro z;simp only [hS,bo,bx,e z,f z];have M:fh z (.add A a b)↔fh z a/\fh z b:=q1
  grind
 |ifz A a b c e f h=>
  intro z;simp only [hS,bo,bx,e z,f z,h z];have M:fh z (.ifz A a b c)↔fh z a/\fh z b/\fh z c:=by
   constructor
   .intro N;exists λA G o D=>N A G o (gN _ D),λA G o D=>N A G o (eH _ (gN _ D)),λA G o D=>N A G o (eH _ (eH _ D))
   .rintro⟨U,T,i⟩ A G o D;rcases bR.mp D with D|D
    .exact U A G o D
    .rcases bR.mp D with D|D
     .exact T A G o D
     .exact i A G o D
  grind
def MA(T:e5 l){o:Option Nat}(U:(t,FB,o)∈cI [] l):g7 l t=o\/∃N,(t,FB,N)∈cI [] l/\g7 l t=N:=by
 unfold g7;cases a:(uX l).find? λD=>D.1==t with
 |none=>
  rw [nP]at a;refine absurd (by simp) (a (t,o) ?_);grind [uX,w1]
 |some D=>
  right;have G:=fq a
  have b:D.1=t:=by simpa using mc a
  unfold uX at G;rw [w1]at G;let⟨⟨d,e,f⟩,c,rfl⟩:=bH.mp G;subst b;have g:=T.uniq (sV l [] _ _ _ c) (sV l [] _ _ _ U) S
  grind
def MB(D:e5 l):((cI [] l).map (·.1)).Nodup:=by
 have:∀(l:ae) (A:List (dr×Nat)),((cI A l).map (·.1)).Sublist (bJ l):=by
  intro l;induction l with
  |num b n=>intro A;exact List.nil_sublist _
  |var b x=>intro A;exact Vq _
  |fn b x d g=>grind [dI,cI,kids]
  |fst b d g=>grind [dI,cI,kids]
  |snd b d g=>grind [dI,cI,kids]
  |new b d g=>grind [dI,cI,kids]
  |get b d g=>grind [dI,cI,kids]
  |letE b x a d e f=>grind [dI,cI,kids]
  |app b a d e f=>grind [dI,cI,kids]
  |pair b a d e f=>grind [dI,cI,kids]
  |set b a d e f=>grind [dI,cI,kids]
  |add b a d e f=>grind [dI,cI,kids]
  |ifz b a d c e f h=>intro A;rw [dI];grind [cI,kids]
 have G:(bJ l).Nodup:=D.cY▸Hd;grind
def w2(M:e5 l){c:dr}{o:Option Nat}(N:(t,c,o)∈cI [] l):g7 l t=o:=by
 rcases MA M N with D|⟨h,d,D⟩
 .exact D
 .rw [D];have e:=MB M
  let⟨T,G⟩:=hR.mp N;let⟨U,a⟩:=hR.mp d;have b:((cI [] l).map (·.1))[T]?=Y t:=by rw [bh,G];rfl
  have f:((cI [] l).map (·.1))[U]?=Y t:=by rw [bh,a];rfl
  have g:T=U:=(Hi (cF.mp b).1 e).mp (b.trans f.symm);rw [g,a]at G;have:=aS G
  injection this with _ this;injection this
def Cc(z:ae)(A:List (dr×Nat))(M:hV t FB∈aG z)(U:e5 z)(b:A=[]):∃o,(t,FB,o)∈cI A z:=by
 let⟨o,N⟩:=Cb z A t FB M;rw [w1]at N;let⟨⟨c,d,e⟩,a,T⟩:=bH.mp N
 simp [uW]at T;let⟨rfl,rfl⟩:=T;have f:=U.uniq (sV z A _ _ _ a) M S
 grind
def Cd:nY l=I↔bo l=I/\aW 0 l=l/\size l<=30/\dH l<=8/\∀A D,hV A D∈aG l->D=du\/(g7 l A).isSome=I:=by
 have M:bJ l=eY (bJ l).length↔aW 0 l=l:=by
  rw [gX,zK];constructor
  .exact wN l 0
  .grind [lF]
 have c:=Mz l [];simp [hP,dh]at c;unfold nY;simp [bx,iM,j5];rw [c,M,gX];constructor
 .rintro⟨⟨N,T⟩,G,U,a⟩;have b:e5 l:=⟨M.mpr G⟩
  exists N,G,U,a,λA D e=>?_;let⟨o,d⟩:=Cc l [] e b S
  rw [w2 b d];exact T A D o d
 .rintro⟨N,G,U,a,T⟩;have b:e5 l:=⟨M.mpr G⟩
  exists ⟨N,λA D o f=>?_⟩,G,U,a;have:=T A D (sV l [] A D o f)
  grind [w2]
def MC:∀(T:ae) (G:List (dr×Nat)),bo T=I->(∀z∈G,z.1≠du)->∀A o,(A,du,o)∈cI G T->o=O:=by
 intro T;induction T with
 |num A n=>intro G D N M o z;cases z
 |var A x=>
  intro G D N M o z;simp [cI,bb,uW]at z;let⟨_,rfl,rfl⟩:=z;grind [inScope]
 |fn A x b e=>
  intro G D N M o z;simp [bo,bx,u9]at D;refine e ((x,A)::G) D.2.2 (λy U=>?_) M o z;grind
 |letE A x d b f g=>
  intro G D N M o z;simp [bo,bx,u9]at D;rcases bR.mp z with z|z
  all_goals grind
 |fst A b e|snd A b e|new A b e|get A b e=>intro G D N M o z;exact e G D N M o z
 |app A a b f g|pair A a b f g|set A a b f g|add A a b f g=>
  intro G D N M o z;simp [bo,bx]at D;rcases bR.mp z with z|z
  all_goals grind
 |ifz A a b c f g h=>
  intro G D N M o z;simp [bo,bx]at D;rcases bR.mp z with z|z
  all_goals grind
def MD(A:ae)(D:aA->aA->Prop):Pred:=λG M=>∃z,D G z/\fG A z M
structure sW(D:ae)(z:aA->aA->Prop):Prop where
 refl:∀p,z p p
 symm:∀p A,z p A->z A p
 trans:∀p A G,z p A->z A G->z p G
 way:∀M d,ec D (MD D z) M d->z M d
def Eqv(A:ae)(D G:aA):Prop:=∀z,sW A z->z D G
theorem kC(M:ae):sW M (Eqv M):=
 ⟨λA z c=>c.refl A,λA D G z c=>c.symm A D (G z c),λA D N S T z c=>c.trans A D N (S z c) (T z c),λU a b z c=>c.way U a (b.mono λA e ⟨D,G,d⟩=>⟨D,G z c,d⟩)⟩
structure Part(ps:List aA)(z:nX):Prop where
 cover:∀p,p∈ps↔∃c∈z,p∈c
 apart:∀c∈z,∀d∈z,∀p,p∈c->p∈d->c=d
 nd:z.Nodup
 ne:∀c∈z,∃p,p∈c
def jL(z:nX)(A D:aA):Prop:=∃c∈z,A∈c/\D∈c
variable{At:List aA}
def Part.of(A:Part At cs)(D:or∈At):cH cs or∈cs/\or∈cH cs or:=by
 let⟨c,G,M⟩:=(A.cover or).mp D;unfold cH;cases a:cs.find? λc=>c.contains or with
 |none=>
  grind
 |some d=>
  grind
theorem Part.is{cs:nX}(A:Part At cs){c:List aA}(D:c∈cs)(G:or∈c):cH cs or=c:=
 let⟨M,N⟩:=A.of ((A.cover or).mpr ⟨c,D,G⟩);A.apart _ M _ D or N G
def Part.same(z:Part At cs)(G:or∈At):jL cs or v2↔v2∈cH cs or:=by
 constructor
 .rintro⟨c,M,N,T⟩;rwa [z.is M N]
 .intro S;exists _,(z.of G).1,(z.of G).2,S
def w3{cs:nX}{z:ka}(A:cH cs z.src=cH cs z.dst):ij cs z=cs:=by simp_all [ij]
def w4{cs:nX}{z:ka}(A:¬cH cs z.src=cH cs z.dst):ij cs z=(cs.filter λc=>c !=cH cs z.dst).map λc=>if c=cH cs z.src then cH cs z.src++cH cs z.dst else c:=by simp_all [ij]
section
variable {ps:List aA} {cs:nX}
def Ce(A:Part ps cs){z:ka}(D:z.src∈ps)(N:z.dst∈ps)(G:¬cH cs z.src=cH cs z.dst){c:List aA}:c∈ij cs z↔c=cH cs z.src++cH cs z.dst\/(c∈cs/\c≠cH cs z.src/\c≠cH cs z.dst):=by
 rw [w4 G,bH];constructor
 .grind
 .rintro(rfl|⟨M,T,U⟩)
  .refine⟨cH cs z.src,dz.mpr ⟨(A.of D).1,by grind⟩,?_⟩;grind
  .exact⟨c,dz.mpr ⟨M,by grind⟩,by grind⟩
end
def ME{cs:nX}(A:Part At cs){z:ka}(l:z.src∈At)(e:z.dst∈At):Part At (ij cs z):=by
 by_cases m:cH cs z.src=cH cs z.dst
 .grind [w3]
 let⟨f,j⟩:=A.of l;let⟨n,B⟩:=A.of e
 have g:= @Ce At cs A z l e m;exists λD=>?_,λc M T o D a U=>?_,?_,λc M=>?_
 .rw [A.cover D];constructor
  .rintro⟨c,M,C⟩;by_cases h:c=cH cs z.src
   .simp_all
   .by_cases b:c=cH cs z.dst
    .simp_all
    grind
  grind
 .rcases g.mp M with rfl|⟨c1,c2,c3⟩
  .rcases g.mp o with rfl|⟨i,p,q⟩
   .rfl
   .rcases bR.mp a with G|G
    .exact absurd (A.apart _ i _ f D U G) p
    .exact absurd (A.apart _ i _ n D U G) q
  .rcases g.mp o with rfl|⟨i,p,q⟩
   .rcases bR.mp U with G|G
    .exact absurd (A.apart _ c1 _ f D a G) c2
    .exact absurd (A.apart _ c1 _ n D a G) c3
   .exact A.apart _ c1 _ i D a U
 .rw [w4 m];have s:∀d:List (List aA),d.Nodup->(∀c∈d,c∈cs)->(d.map λc=>if c=cH cs z.src then cH cs z.src++cH cs z.dst else c).Nodup:=by
   intro d;induction d with
   |nil=>grind
   |cons c E t=>
    intro u k;let⟨a,U⟩:=eh.mp u
    rw [aZ,eh];exists λv=>?_,t U λT e=>k T (bC _ e);let⟨T,w,r⟩:=bH.mp v
    have x:=k T (bC _ w);have y:=k c bE
    have F:T=c:=by
     by_cases h:T=cH cs z.src
     .by_cases b:c=cH cs z.src
      .grind
      .rw [ai h,N b]at r;exact absurd (A.apart _ y _ f z.src (by grind) j) b
     .by_cases b:c=cH cs z.src
      .rw [N h,ai b]at r;exact absurd (A.apart _ x _ f z.src (by grind) j) h
      grind
    grind
  exact s _ (Hj Hk A.nd) λc M=>(dz.mp M).1
 .rcases g.mp M with rfl|⟨c1,_,_⟩
  .exact⟨z.src,gN _ j⟩
  .exact A.ne c c1
def MG{cs:nX}(D:Part At cs){A:ka}(N:A.src∈At)(G:A.dst∈At)(M:¬cH cs A.src=cH cs A.dst):(ij cs A).length<cs.length:=by
 rw [w4 M,z];have S:=(D.of G).1
 simp_all
variable{On:aA->aA->Prop}
def MH{cs:nX}(T:Part At cs){D:ka}(a:D.src∈At)(b:D.dst∈At)(d:∀z A,On z A->On A z)(e:∀z A f,On z A->On A f->On z f)(M:∀z A,jL cs z A->On z A)(hw:On D.src D.dst):∀z A,jL (ij cs D) z A->On z A:=by
 by_cases g:cH cs D.src=cH cs D.dst
 .rw [w3 g];exact M
 rintro z A ⟨c,j,N,h⟩;let⟨k,l⟩:=T.of a;let⟨m,n⟩:=T.of b;rcases(Ce T a b g).mp j with rfl|⟨c1,_,_⟩
 .have i:∀z,z∈cH cs D.src++cH cs D.dst->On z D.src:=λz N=>by
   rcases bR.mp N with U|U
   .exact M _ _ ⟨_,k,U,l⟩
   .exact e _ _ _ (M _ _ ⟨_,m,U,n⟩) (d _ _ hw)
  exact e _ _ _ (i z N) (d _ _ (i A h))
 .exact M _ _ ⟨c,c1,N,h⟩
variable{ps:List aA}
theorem Cg(c:∀A D,On A D->On D A)(d:∀A D e,On A D->On D e->On A e):∀(G:List ka) (cs:nX),Part ps cs->(∀z∈G,z.src∈ps/\z.dst∈ps/\On z.src z.dst)->(∀A D,jL cs A D->On A D)->Part ps (G.foldl ij cs)/\(∀A D,jL (G.foldl ij cs) A D->On A D)/\(G.foldl ij cs).length<=cs.length/\((G.foldl ij cs).length=cs.length->G.foldl ij cs=cs/\∀z∈G,cH cs z.src=cH cs z.dst)
 |[],cs,a,_,b=>⟨a,b,aR _,λ_=>⟨S,λ_ N=>nomatch N⟩⟩
 |z::G,cs,a,hw,b=>by
  let⟨T,U,f⟩:=hw z bE;let⟨h,i,j,k⟩:=Cg c d G (ij cs z) (ME a T U) (λv g=>hw v (bC _ g)) (MH a T U c d b f)
  rw [Tn];by_cases N:cH cs z.src=cH cs z.dst
  .grind [w3]
  .have:=MG a T U N;grind
def sX{N:nX}:e4 (rN l N) or ut↔hY l or ut/\∃z∈cH N or,fG l z ut:=by rw [BK,LU,Hl];refine and_congr rO ⟨λ⟨z,G,M⟩=>⟨z,G,gQ.mp M⟩,λ⟨z,G,M⟩=>⟨z,G,gQ.mpr M⟩⟩
def MI{D:nX}(U:Part (aq l) D)(a:∀z G,jL D z G->Eqv l z G):∀A∈uS l (rN l D),A.src∈aq l/\A.dst∈aq l/\Eqv l A.src A.dst:=by
 intro A hw;have N:=oG.mp ⟨A.by_,hw⟩
 have T:∀z M,e4 (rN l D) z M->M∈bp l:=λz M S=>(sX.mp S).1.2;exists qP T N,oJ T N,(kC l).way _ _ (N.mono λz M S=>?_);let⟨b,G,c,d⟩:=sX.mp S
 exists G,a _ _ ((U.same b.1).mpr c),d
theorem Ci:∀(b:Nat) (z:nX),Part (aq e) z->(∀A D,jL z A D->Eqv e A D)->z.length<b->Part (aq e) (rP e b z)/\∀A D,A∈aq e->D∈aq e->(jL (rP e b z) A D↔Eqv e A D)
 |0,_,_,_,U=>by lia
 |b+1,z,a,h,l=>by
  have m:=kC e;let⟨q,r,s,t⟩:=Cg (ps:=aq e) m.symm m.trans _ z a (MI a h) h
  unfold rP;by_cases M:(Hm e z).length=z.length
  .rw [ai M];exists a,λA D d F=>⟨h A D,λU=>?_⟩;let⟨_,u⟩:=t M
   have v:sW e λA D=>A=D\/jL z A D:=by
    exists λA=>.inl S,λA D U=>?_,λA D H T G=>?_,λi f w=>?_
    .rcases U with rfl|⟨c,M,T,G⟩
     .grind
     .exact .inr ⟨c,M,G,T⟩
    .rcases T with rfl|⟨c,M,n,o⟩
     .exact G
     .rcases G with rfl|⟨f,hd,x,y⟩
      .exact .inr ⟨c,M,n,o⟩
      .have:=a.apart _ M _ hd D o x;subst this;exact .inr ⟨c,M,n,y⟩
    .have j:ec e (e4 (rN e z)) i f:=L0 (λK B g U=>by
      let⟨D,T,G⟩:=U;have d:=gm B
      refine sX.mpr ⟨⟨d,(lC G).2⟩,D,?_,G⟩;rcases T with rfl|T
      .exact(a.of d).2
      .exact(a.same d).mp T) w
     have p:∀A g,e4 (rN e z) A g->g∈bp e:=λA g U=>(sX.mp U).1.2;let⟨C,l⟩:=oG.mpr j
     have k:=u ⟨i,f,C⟩ l;exact .inr ((a.same (qP p j)).mpr (by rw [show cH z i=cH z f from k];exact(a.of (oJ p j)).2))
   rcases U _ v with rfl|k
   .let⟨T,G⟩:=a.of d;exists _,T,G,G
   .exact k
  .rw [N M];have E:(Hm e z).length<b:=by
    have:(Hm e z).length<=z.length:=s
    lia
   exact Ci b _ q r E
def MJ(M:At.Nodup):Part At (At.map λz=>[z]):=by
 exists λz=>?_,λc D N T z U a=>?_,?_,λc D=>?_
 .constructor
  .intro G;exists [z],bH.mpr ⟨z,G,S⟩,bb.mpr S
  grind
 .grind
 .grind
 .obtain⟨b,_,rfl⟩:=bH.mp D;simp_all
def w5(n:e5 e):Part (aq e) (ha e)/\∀z G,z∈aq e->G∈aq e->(jL (ha e) z G↔Eqv e z G):=by
 let⟨U,o⟩:=Ci (e:=e) ((aq e).length+1) ((aq e).map λz=>[z]) (MJ n.places) (λz G ⟨c,A,M,N⟩=>by let⟨p,_,rfl⟩:=bH.mp A;rw [bb.mp M,bb.mp N];exact(kC e).refl p) (by grind)
 have a:∀c∈rP e ((aq e).length+1) ((aq e).map λz=>[z]),∀G,G∈(aq e).filter c.contains↔G∈c:=λc A G=>by rw [dz];exists λf=>gQ.mp f.2,λf=>⟨(U.cover G).mpr ⟨c,A,f⟩,gQ.mpr f⟩
 have b:∀c,c∈ha e↔∃D∈rP e ((aq e).length+1) ((aq e).map λz=>[z]),c=(aq e).filter D.contains:=λc=>by grind [ha]
 exists ⟨λz=>?_,λc A D T z M N=>?_,?_,λc A=>?_⟩,λz G g q=>?_
 .rw [U.cover z];grind
 .obtain⟨u,i,rfl⟩:=(b c).mp A;let⟨v,j,rfl⟩:=(b D).mp T;rw [U.apart _ i _ j z ((a _ i z).mp M) ((a _ j z).mp N)]
 .unfold ha;have:∀d:List (List aA),d.Nodup->(∀c∈d,c∈rP e ((aq e).length+1) ((aq e).map λz=>[z]))->(d.map λc=>(aq e).filter c.contains).Nodup:=by
   intro d;induction d with
   |nil=>grind
   |cons c w r=>
    intro s h;let⟨M,N⟩:=eh.mp s
    rw [aZ,eh];exists λt=>?_,r N λD T=>h D (bC _ T);let⟨D,k,x⟩:=bH.mp t
    have l:=h c bE;have m:=h D (bC _ k)
    let⟨z,g⟩:=U.ne c l;have:z∈D:=(a D m z).mp (by grind)
    exact M (U.apart _ m _ l z this g▸k)
  exact this _ U.nd λc A=>A
 .obtain⟨D,T,rfl⟩:=(b c).mp A;let⟨z,g⟩:=U.ne D T
  grind
 .rw [<-o z G g q];constructor
  .rintro⟨c,A,M,N⟩;let⟨D,T,rfl⟩:=(b c).mp A;exists D,T,(a D T z).mp M,(a D T G).mp N
  .rintro⟨c,A,M,N⟩;exists _,(b _).mpr ⟨c,A,S⟩,(a c A z).mpr M,(a c A G).mpr N
noncomputable def jM(e:ae)(z A:aA):Bool:= @decide (Eqv e z A) (Hc _)
def mJ:jM l or v2=I↔Eqv l or v2:=by simp_all [jM]
def MK{c:List aA}(A:c∈ha l):∃z:List aA,c=(aq l).filter z.contains:=by
 unfold ha at A;let⟨z,_,D⟩:=bH.mp A
 exists z,D.symm
def w6(U:e5 l){c:List aA}(G:c∈ha l)(N:or∈c):c=(aq l).filter (jM l or):=by
 let⟨T,a⟩:=w5 U;have b:or∈aq l:=(T.cover or).mpr ⟨c,G,N⟩
 have d:∀A∈aq l,(A∈c↔jM l or A=I):=λA M=>by
  rw [mJ,<-a or A b M];constructor
  .intro D;exists c,G,N,D
  .rintro⟨f,g,h,i⟩;rw [T.apart _ G _ g or N h];exact i
 let⟨f,rfl⟩:=MK G;refine kY λA M=>?_;rw [ic,<-d A M,dz];exists λD=>⟨M,D⟩,λD=>D.2
def sY(A:e5 l)(D:or∈aq l):cH (ha l) or=(aq l).filter (jM l or):=by let⟨G,S⟩:=w5 A;let⟨M,N⟩:=G.of D;exact w6 A M N
def ML(N:e5 l){r:aA->aA}(i:∀z∈aq l,r z∈aq l/\Eqv l z (r z))(f:∀z∈aq l,∀A∈aq l,Eqv l z A->r z=r A):(((aq l).filter λz=>decide (r z=z)).map λz=>(aq l).filter (jM l z)).Perm (ha l):=by
 let⟨T,s⟩:=w5 N;refine(vc ?_ T.nd).mpr λc=>?_
 .have:∀D:List aA,D.Nodup->(∀z∈D,z∈aq l/\r z=z)->(D.map λz=>(aq l).filter (jM l z)).Nodup:=by
   intro D;induction D with
   |nil=>grind
   |cons z t j=>
    intro k U;let⟨u,e⟩:=eh.mp k
    rw [aZ,eh];exists λm=>?_,j e λA a=>U A (bC _ a);let⟨A,a,n⟩:=bH.mp m
    let⟨g,v⟩:=U z bE;let⟨o,w⟩:=U A (bC _ a)
    have p:z∈(aq l).filter (jM l A):=by rw [n];exact dz.mpr ⟨g,mJ.mpr ((kC l).refl z)⟩
    have:=f A o z g (mJ.mp (dz.mp p).2);grind
  exact this _ (Hj Hk N.places) λz G=>by grind
 .rw [bH];constructor
  .rintro⟨z,G,rfl⟩;have M:=(dz.mp G).1
   rw [<-sY N M];exact(T.of M).1
  .intro b;let⟨z,G⟩:=T.ne c b
   have M:=(T.cover z).mpr ⟨c,b,G⟩;let⟨d,h⟩:=i z M
   have q:=(f z M (r z) d h).symm;exists r z,dz.mpr ⟨d,cq q⟩,?_;have x:r z∈c:=by rw [w6 N b G];exact dz.mpr ⟨d,mJ.mpr h⟩
   grind [w6]
theorem Cj:∀(A:List Nat) (z:Nat),z<=A.foldl max z/\∀y∈A,y<=A.foldl max z
 |[],z=>⟨aR _,λ_ D=>nomatch D⟩
 |x::a,z=>by let⟨G,M⟩:=Cj a (max z x);grind
theorem Ck:∀(A:List Nat) (z:Nat),A.foldl max z=z\/A.foldl max z∈A
 |[],z=>.inl S
 |x::a,z=>by
  rw [Tn];rcases Ck a (max z x)with D|D
  .rw [D];by_cases G:z<=x
   .right;rw [Nat.max_eq_right G];exact bE
   .left;lia
  .exact .inr (bC _ D)
def MM(D:t∈wE)(G:∀y∈wE,y<=t):wE.foldl max 0=t:=by grind [Cj,Ck]
structure o6(G:ae)(M:aA)(z:aA->Prop)(A:Pred):Prop where
 here:z M
 asked:∀p,z p->∀N∈e9 G p,z N
 way:∀D d,ec G A D d->z d->z D
 iz:∀p a,fG G p a->z p->A p a
 sZ:∀D d a,ec G A D d->A D a->z d->A d a
def iB(A:ae)(D G:aA):Prop:=∀z M,o6 A D z M->z G
def jd(A:ae)(D:aA):Pred:=λG M=>∀N z,o6 A D N z->z G M
theorem mK(S:ae)(T:aA):o6 S T (iB S T) (jd S T):=
 ⟨λz A c=>c.here,λD G d e z A c=>c.asked D (G z A c) d e,λM U a G z A c=>c.way M U (a.mono λD N b=>b z A c) (G z A c),λD N M G z A c=>c.iz D N M (G z A c),λM U N a f g z A c=>c.sZ M U N (a.mono λD N b=>b z A c) (f z A c) (g z A c)⟩
set_option tactic.hygienic true
def MN(z:or∈e9 l v2):or∈aq l:=by
 unfold e9 at z;have G:∀{S:Nat} {M y:ae},mb l S=Y M->y∈kids M->or=b5 y->or∈aq l:=λT U a=>by rw [a];exact jK (fq T) U
 split at z
 .split at z
  .rename_i A;exact G A (by simp [kids]) (bb.mp z)
  .rename_i A;exact G A (by simp [kids]) (bb.mp z)
  .rename_i A;exact G A (by simp [kids]) (bb.mp z)
  .rename_i A;exact G A (by simp [kids]) (bb.mp z)
  .cases z
 all_goals grind [Hn,jK,kids,Ho]
set_option tactic.hygienic false
theorem w7(M:aA)(N:M∈aq l):o6 l M (λz=>z∈aq l) (hY l):=
 ⟨N,λz _ b S=>MN S,λT U A _=>qP (λ_ _ D=>D.2) A,λz a G _=>lC G,λT U a A G _=>⟨oJ (λ_ _ D=>D.2) A,G.2⟩⟩
structure o7(l:ae)(z:aA)(k:qf):Prop where
 pn:k.places.Nodup
 tn:k.table.Nodup
 here:z∈k.places
 ps:∀p∈k.places,iB l z p
 ts:∀A∈k.table,jd l z A.place A.abs
def mO(e:ae)(z:qf):List aA:=cS (cS z.places (z.places.flatMap (e9 e))) (((uS e z.table).filter λA=>z.places.contains A.dst).map λA=>A.src)
theorem w8(e:ae)(z:qf):jt e z=⟨mO e z,cS z.table ((nT e z.table).filter λA=>(mO e z).contains A.place)⟩:=rfl
def MO{U:qf}(D:o7 l or U):o7 l or (jt l U):=by
 have a:=mK l or;have d:∀A G,e4 U.table A G->jd l or A G:=λA G i=>D.ts ⟨A,G⟩ i
 rw [w8];have g:∀A∈mO l U,iB l or A:=λA z=>by
  unfold mO at z;rcases hn.mp z with z|z
  .rcases hn.mp z with z|z
   .exact D.ps A z
   .let⟨b,j,z⟩:=di.mp z;exact a.asked b (D.ps b j) A z
  .obtain⟨c,hw,rfl⟩:=bH.mp z;let⟨N,f⟩:=dz.mp hw
   exact a.way _ c.dst ((oG.mp ⟨c.by_,N⟩).mono d) (D.ps _ (gQ.mp f))
 exists mD (mD D.pn),mD D.tn,hn.mpr (.inl (hn.mpr (.inl D.here))),g,λh T=>?_;rcases hn.mp T with T|T
 .exact D.ts h T
 .let⟨N,f⟩:=dz.mp T;let⟨A,G⟩:=h
  have z:=g A (gQ.mp f);rcases oH.mp N with N|⟨k,c,b⟩
  .exact a.iz A G N z
  .exact a.sZ k A G (c.mono d) (d _ _ b) z
def MP(z:qf):z.places.length<=(jt e z).places.length/\z.table.length<=(jt e z).table.length/\((jt e z).places.length=z.places.length->(jt e z).table.length=z.table.length->jt e z=z):=by
 rw [w8];have G:=mE (u:=z.places) (m:=z.places.flatMap (e9 e))
 have M:=mE (u:=cS z.places (z.places.flatMap (e9 e))) (m:=((uS e z.table).filter λA=>z.places.contains A.dst).map λA=>A.src);exists cu G M,mE,λD N=>?_;have D:(mO e z).length=z.places.length:=D
 unfold mO at D;have S:(cS z.places (z.places.flatMap (e9 e))).length=z.places.length:=by lia
 simp_all [mO,oF]
def MQ{z:qf}(d:o7 l or z)(D:jt l z=z):o6 l or (λA=>A∈z.places) (e4 z.table):=by
 rw [w8]at D;have T:=bD Vr D
 have U:=bD Vs D;exists d.here,λA a e f=>?_,λG b M c=>?_,λA g h a=>?_,λG b g M i c=>?_
 .rw [<-T];exact hn.mpr (.inl (hn.mpr (.inr (di.mpr ⟨A,a,f⟩))))
 .rw [<-T];let⟨j,k⟩:=oG.mpr M
  exact hn.mpr (.inr (bH.mpr ⟨⟨G,b,j⟩,dz.mpr ⟨k,gQ.mpr c⟩,S⟩))
 .rw [<-U];exact hn.mpr (.inr (dz.mpr ⟨oH.mpr (.inl h),by grind⟩))
 .rw [<-U];exact hn.mpr (.inr (dz.mpr ⟨oH.mpr (.inr ⟨G,M,i⟩),by grind⟩))
theorem Cm(G:or∈aq e):∀(A:Nat) (z:qf),o7 e or z->(aq e).length+qa e<A+(z.places.length+z.table.length)->o7 e or (zN e A z)/\jt e (zN e A z)=zN e A z
 |0,z,a,b=>by
  have M:=w7 or G;have g:=qM a.pn λS c=>a.ps S c _ _ M
  have h:=qM a.tn λT d=>by
   have:=a.ts T d _ _ M;let⟨S,i⟩:=T
   exact BF.mpr this
  grind [BH]
 |A+1,z,a,b=>by
  unfold zN;by_cases U:jt e z=z
  .grind
  .simp [N U];let⟨j,k,f⟩:=MP (e:=e) z
   have:(jt e z).places.length+(jt e z).table.length≠z.places.length+z.table.length:=λl=>U (f (by lia) (by lia));exact Cm G A _ (MO a) (by lia)
def Cn(T:or∈aq l):(∀z,z∈(To l or).places↔iB l or z)/\∀z G,e4 (To l or).table z G↔jd l or z G:=by
 have U:o7 l or ⟨[or],[]⟩:=⟨by simp,gd,bb.mpr S,λz a=>bb.mp a▸(mK l or).here,λd b=>nomatch b⟩
 let⟨M,c⟩:=Cm T ((aq l).length+qa l+1) ⟨[or],[]⟩ U (by grind)
 have N:=MQ M c;exists λz=>⟨λD=>M.ps z D,λD=>D _ _ N⟩,λz G=>⟨λD=>M.ts ⟨z,G⟩ D,λD=>D _ _ N⟩
noncomputable def w9(e:ae)(z A:aA):Bool:= @decide (iB e z A) (Hc _)
def Co:w9 l or v2=I↔iB l or v2:=by simp_all [w9]
def MR(A:or∈aq l):ju l or=(aq l).filter (w9 l or):=by unfold ju;refine kY λD _=>?_;rw [ic,Co,<-(Cn A).1 D];exact gQ
set_option tactic.hygienic true
def Cp(k:e5 l)(j:iB l v2 or):jd l v2 or ut↔gJ l or ut:=by
 have a:=mK l v2;constructor
 .intro b;have e:=qN l
  exact b (λ_=>True) (gJ l) ⟨trivial,λ_ _ _ _=>trivial,λ_ _ _ _=>trivial,λor ut M _=>e.iz or ut M,λM g ut A b _=>e.way M g ut A b⟩
 .intro b;have K:oI l (λor ut=>hY l or ut/\(iB l v2 or->jd l v2 or ut)):=by
   have m:=BE l;exists λor ut M=>⟨m.iz or ut M,λj=>a.iz or ut M j⟩,λM g ut A b=>⟨m.way M g ut (A.mono λ_ _ p=>p.1) b.1,λc=>?_⟩;have n:ec l (jd l v2) M g:=by
    let⟨N,h,A⟩:=A;exists N,h,?_;have i:mb l (ag N)=Y N:=by rw [k.nodeAt];exact k.get h
    cases N<;>simp only [eS]at A⊢<;>try exact A
    .rename_i G q r;let⟨T,U,o⟩:=A;exists T,U.2 ?_,o;rcases o with⟨_,rfl⟩|⟨_,_,_,rfl⟩
     .refine a.asked _ c _ ?_;unfold e9;let⟨y,u,s⟩:=wH U.1.2;have t:(zO l).contains T=I:=by
       rw [gQ];unfold zO;exact bH.mpr ⟨_,dz.mpr ⟨s,S⟩,S⟩
      simp only [t,eQ];unfold Hn;exact j0.mpr ⟨_,h,S⟩
     .refine a.asked _ c _ ?_;unfold e9;simp only [show mb l G=Y (Tp G q r)from i];exact bb.mpr S
    .rename_i G N;let⟨T,U,d,rfl⟩:=A;exists T,U.2 (a.asked _ c _ ?_),d,S;unfold e9;simp only [show mb l G=Y (Vt G N)from i];exact bb.mpr S
    .rename_i G N;let⟨T,U,d,rfl⟩:=A;exists T,U.2 (a.asked _ c _ ?_),d,S;unfold e9;simp only [show mb l G=Y (Vu G N)from i];exact bb.mpr S
    .rename_i G N;let⟨T,U,d,rfl⟩:=A;exists T,U.2 (a.asked _ c _ ?_),d,S;unfold e9;simp only [show mb l G=Y (Vv G N)from i];exact bb.mpr S
    .rename_i G v N;rcases A with A|⟨T,U,d,rfl⟩
     .exact .inl A
     .refine .inr ⟨T,U.2 (a.asked _ c _ ?_),d,S⟩;unfold e9;simp only;unfold Ho;exact j0.mpr ⟨_,h,S⟩
   exact a.sZ M g ut n (b.2 (a.way M g n c)) c
  exact(least_le K b).2 j
set_option tactic.hygienic false
def MS(A:e5 l)(D:or∈aq l):ke l or=(bp l).filter (gn l or):=by unfold ke;refine kY λG _=>?_;rw [ic,qO,<-Cp A (mK l or).here,<-(Cn D).2 or G];unfold zH e4;exact gQ
abbrev Pr:=Nat×Nat
abbrev Wy:=Pr×Pr
abbrev Tb:=List (Pr×List Pr)
def ba(z:Tb)(A:Pr):Option (List Pr):=(z.find? λy=>decide (y.1=A)).map (·.2)
def dJ(A:Nat)(D:List Pr):List Nat:=D.filterMap λz=>if z.1=A then Y z.2 else O
structure Pg where
 nodes:List Info
 binders:List (Nat×Nat)
 sorts:List Pr
 places:List Pr
def lH(z:Pg)(A:Nat):Option Nat:=(z.binders.find? λD=>decide (D.1=A)).map (·.2)
def hG(A:Pg)(z:Nat)(D:Fm)(G:List Nat):List Wy:=match D,G with
 |.used,_=>(match lH A z with
  |some b=>[((1,b),(0,z))]
  |none=>[])
 |.letE,[d,b]=>[((0,d),(1,z)),((0,b),(0,z))]
 |.ifz,[_,c,e]=>[((0,c),(0,z)),((0,e),(0,z))]
 |.pair,[a,b]=>[((0,a),(2,z)),((0,b),(3,z))]
 |.new,[a]=>[((0,a),(4,z))]
 |.set,[_,d]=>[((0,d),(0,z))]
 |_,_=>[]
def mQ(z:Pg)(u:Nat):Nat:=(((z.nodes[u]?).map (·.parts)).getD []).headD 0
def jN(z:Pg)(A D:Nat)(G:List Nat):List Wy:=G.flatMap λu=>[((0,D),(1,u)),((0,mQ z u),(0,A))]
def iC(D:Pg)(z:Tb)(A:Nat)(G:Fm)(M:List Nat):List Wy:=match G,M with
 |.call,[c,d]=>jN D A d (dJ 1 ((ba z (0,c)).getD []))
 |.fst,[c]=>(dJ 2 ((ba z (0,c)).getD [])).map λu=>((2,u),(0,A))
 |.snd,[c]=>(dJ 2 ((ba z (0,c)).getD [])).map λu=>((3,u),(0,A))
 |.get,[c]=>(dJ 3 ((ba z (0,c)).getD [])).map λu=>((4,u),(0,A))
 |.set,[c,d]=>(dJ 3 ((ba z (0,c)).getD [])).map λu=>((0,d),(4,u))
 |_,_=>[]
def q2(z:Pg)(D:Tb)(A:Nat):List Wy:=match z.nodes[A]? with
 |some i=>hG z A i.aK i.parts++iC z D A i.aK i.parts
 |none=>[]
def fA(z:Pg)(A:Tb)(D:Nat):List Wy:=(eY D).flatMap (q2 z A)
structure xa(z:Pg)(tab:Tb):Prop where
 bL:z.nodes.length<=30
 full:∀(A:Nat) (i:Info),z.nodes[A]?=Y i->i.parts.length=arity i.aK
 bound:∀(A:Nat) (i:Info),z.nodes[A]?=Y i->i.aK=.used->(lH z A).isSome=I
 tab:∀(A:Nat) (i:Info),z.nodes[A]?=Y i->∀c∈i.parts,∃ps,ba tab (0,c)=Y ps/\ps.length<=1000/\∀u∈dJ 1 ps,∃D G M,z.nodes[u]?=Y D/\D.parts=G::M
variable{re:List Pr}
def lI{u:Nat}:u∈dJ t re↔(t,u)∈re:=by unfold dJ;grind
def D:aA->Pr
 |.node a=>(0,a)|.name a=>(1,a)|.first a=>(2,a)|.second a=>(3,a)|.inside a=>(4,a)
def a6:cw->Pr
 |.num=>(0,0)|.fn a=>(1,a)|.pair a=>(2,a)|.ref a=>(3,a)
def d4(G:D or=D v2):or=v2:=by cases or<;>cases v2<;>simp [D]at G<;>simp [G]
def lJ{A:cw}(D:a6 ut=a6 A):ut=A:=by cases ut<;>cases A<;>simp [a6]at D<;>simp [D]
def mS(z:ae):List (Nat×Nat):=(aG z).filterMap λA=>match A with
 |.var a y=>if y=du then O else(g7 z a).map λD=>(a,D)
 |_=>O
def cV(z:ae):Pg:=⟨infos O z,mS z,(bp z).map a6,(aq z).map D⟩
structure bG(z:ae):Prop where
 told:bo z=I
 mU:aW 0 z=z
 bL:size z<=30
 deep:dH z<=8
 bound:∀A x,hV A x∈aG z->x=du\/(g7 z A).isSome=I
 free:∀A,hV A du∈aG z->g7 z A=O
 cY:e5 z
def q3(A:nY l=I):bG l:=by
 let⟨G,N,T,U,a⟩:=Cd.mp A;have D:=BM A
 exists G,N,T,U,a,λb c=>?_,D;let⟨o,M⟩:=Cc l [] c D S;rw [w2 D M];exact MC l [] G (λ_ A=>nomatch A) b o M
def xb:rc∈aG l->rc=l\/∃y∈aG l,rc∈kids y:=by
 generalize a:gg l=n;induction n using Tc generalizing l with
 |_ n b=>
  intro A;rw [gp]at A;rcases bg.mp A with A|A
  .exact .inl A
  .obtain⟨M,G,N⟩:=di.mp A;rcases b (gg M) (by rw [<-a];exact h3 G) S N with A|⟨y,c,d⟩
   .exact .inr ⟨l,gW l,by rw [A];exact G⟩
   .exact .inr ⟨y,sL (i6 (gW l) G) y c,d⟩
section
variable {e:ae} (G:bG e)
include G
def bG.info{z:ae}(D:z∈aG e):∃M,(infos O e)[ag z]?=Y (cZ M z):=by
 have A:=sT G.mU;rcases xb D with rfl|⟨y,a,b⟩
 .exact⟨O,A.top⟩
 .exact⟨_,A.o4 y a z b⟩
theorem bG.lt{z:ae}(A:z∈aG e):ag z<size e:=(cF.mp (G.cY.get A)).1
def bG.node{l:Nat}(D:l<size e):∃z∈aG e,ag z=l:=by
 obtain⟨z,A⟩:∃z,(aG e)[l]?=Y z:=⟨_,gf D⟩
 exists z,cG A,G.cY.at A
def bG.xc{A:Nat}{M:Info}(N:(infos O e)[A]?=Y M):∃z∈aG e,ag z=A/\∃D,M=cZ D z:=by
 have a:A<size e:=by have:=(cF.mp N).1;rwa [eU]at this
 let⟨z,S,T⟩:=G.node a;let⟨D,U⟩:=G.info S;rw [T,N]at U;exists z,S,T,D,aS U
end
set_option tactic.hygienic true
section
variable {e:ae} (G:bG e)
include G
def bG.bind{z:Nat}{y:dr}(M:hV z y∈aG e)(S:y≠du):lH (cV e) z=g7 e z:=by
 let⟨N,T⟩:=rB.mp ((G.bound z y M).resolve_left S);have U:(z,N)∈mS e:=j0.mpr ⟨_,M,by grind⟩
 rw [T];unfold lH;show((mS e).find? λD=>decide (D.1=z)).map (·.2)=Y N
 cases a:(mS e).find? λD=>decide (D.1=z)with
 |none=>
  grind
 |some b=>
  let⟨D,c,A⟩:=j0.mp (fq a);split at A
  .rename_i d f;split at A
   .cases A
   .let⟨g,h,i⟩:=cv.mp A;grind
  .cases A
end
set_option tactic.hygienic false
structure bM(z:ae)(tab:Tb)(A:Pred):Prop where
 keys:tab.map (·.1)=(aq z).map D
 row:∀p∈aq z,∃ps,ba tab (D p)=Y ps/\ps.Nodup/\(∀x∈ps,∃a∈bp z,x=a6 a)/\∀a,a6 a∈ps↔A p a
variable{o0:Tb}
def bM.sort(N:bM l o0 wv)(S:or∈aq l)(T:wv or ut):ut∈bp l:=by let⟨U,_,_,a,b⟩:=N.row or S;grind [lJ]
theorem bM.congr(S:bM l o0 wv)(U:∀z∈aq l,∀A,wv z A↔T0 z A):bM l o0 T0:=
 ⟨S.keys,λz T=>by let⟨a,b,c,d,e⟩:=S.row z T;exact⟨a,b,c,d,λA=>(e A).trans (U z T A)⟩⟩
def lK(z:ae):(bp z).length<=size z+1:=by simp_all [bp,size,iU]
def s6(N:re.Nodup)(S:∀G∈re,∃M∈bp l,G=a6 M):re.length<=size l+1:=by
 have:re.length<=((bp l).map a6).length:=qM N λG T=>by let⟨M,U,a⟩:=S G T;rw [a];exact dY U
 rw [z]at this;exact cu this (lK l)
def xf(G:bG l)(a:G8 t∈bp l):∃y A,p9 t y A∈aG l/\uR l t=Y (ag A)/\mQ (cV l) t=ag A/\∃T,(infos O l)[t]?=Y (cZ T (.fn t y A)):=by
 let⟨y,A,M⟩:=wH a;exists y,A,M,?_,?_,G.info M
 .unfold uR;rw [G.cY.nodeAt];have:=G.cY.get M
  have N:ag (p9 t y A)=t:=rfl;rw [N]at this;rw [this]
 .obtain⟨T,U⟩:=G.info M;unfold mQ;have N:ag (p9 t y A)=t:=rfl
  rw [N]at U;show(((infos O l)[t]?.map (·.parts)).getD []).headD 0=_
  rw [U];rfl
def bM.ok(A:bG l)(b:bM l o0 wv):xa (cV l) o0:=by
 exists by show(infos O l).length<=30;rw [eU];exact A.bL,λT d G=>?_,λT d G e=>?_,λT d G c N=>?_
 .obtain⟨D,M,_,U,rfl⟩:=A.xc G;show((kids D).map ag).length=arity (aB D)
  rw [z];cases D<;>first|rfl|(simp [aB];split<;>rfl)
 .obtain⟨D,M,f,U,rfl⟩:=A.xc G;cases D with
  |var g y=>
   have h:y≠du:=λi=>by have:aB (.var g y)=.used:=e;simp_all [aB]
   have m:g=T:=f;subst m;rw [A.bind M h];exact(A.bound _ y M).resolve_left h
  |_=>exact absurd e (λi=>nomatch i)
 .obtain⟨D,M,f,U,rfl⟩:=A.xc G;let⟨w,n,rfl⟩:=bH.mp N;have j:=gm (i6 M n)
  let⟨o,p,q,r,s⟩:=b.row _ j;exists o,p,?_,λu t=>?_
  .have:=s6 q r;have:=A.bL
   lia
  .let⟨y,x,_,_,_,U,v⟩:=xf A (b.sort j ((s (.fn u)).mp (lI.mp t)));exists _,_,_,v,S
def mV(G M:Pr)(N:aA->aA->Prop):Prop:=∃z A,G=D z/\M=D A/\N z A
variable{sc Ch:Pr}
def s7{a b:aA}:(sc,Ch)∈[(D a,D b)]↔mV sc Ch λG M=>G=a/\M=b:=by
 rw [bb];constructor
 .intro N;injection N with c d;exists a,b,c,d,S,S
 .rintro⟨_,_,rfl,rfl,rfl,rfl⟩;rfl
variable{WK:aA->aA->Prop}
def Cq{A U:List Wy}(e:(sc,Ch)∈A↔mV sc Ch On)(f:(sc,Ch)∈U↔mV sc Ch WK):(sc,Ch)∈A++U↔mV sc Ch λc d=>On c d\/WK c d:=by
 rw [bR,e,f];constructor
 .rintro(⟨M,N,S,T,z⟩|⟨M,N,S,T,z⟩)
  .exact⟨M,N,S,T,.inl z⟩
  .exact⟨M,N,S,T,.inr z⟩
 .rintro⟨M,N,S,T,z|z⟩
  .exact .inl ⟨M,N,S,T,z⟩
  .exact .inr ⟨M,N,S,T,z⟩
theorem xg{a b a' b':aA}:(sc,Ch)∈[(D a,D b),(D a',D b')]↔mV sc Ch λM N=>(M=a/\N=b)\/(M=a'/\N=b'):=Cq (A:=[_]) s7 s7
def s8{f g:Nat->aA}{T:Nat->Prop}(U:∀u,u∈wE↔T u):(sc,Ch)∈wE.map (λu=>(D (f u),D (g u)))↔mV sc Ch λa b=>∃z,T z/\a=f z/\b=g z:=by
 rw [bH];constructor
 .rintro⟨u,A,c⟩;injection c with d e;exists f u,g u,d.symm,e.symm,u,(U u).mp A,S,S
 .rintro⟨_,_,rfl,rfl,u,A,rfl,rfl⟩;exists u,(U u).mpr A,S
def Cr(p:bG rc)(x:bM rc o0 wv)(q:l∈aG rc):(sc,Ch)∈hG (cV rc) (ag l) (aB l) ((kids l).map ag)++iC (cV rc) o0 (ag l) (aB l) ((kids l).map ag)↔∃r s,sc=D r/\Ch=D s/\eS rc wv l r s:=by
 have m:∀B∈kids l,∃U,ba o0 (0,ag B)=Y U/\∀z,a6 z∈U↔wv (b5 B) z:=λB L=>by let⟨U,A,_,_,G⟩:=x.row _ (gm (i6 q L));exists U,A,G
 have O:(sc,Ch)∈([]:List Wy)↔mV sc Ch λ_ _=>False:=⟨nofun,λ⟨_,_,_,_,N⟩=>N.elim⟩
 cases l with
 |num d n=>exact O
 |fn d y M=>exact O
 |add d z M=>exact O
 |var d y=>
  by_cases C:y=du
  .subst C;simp [aB,hG,iC,eS,p.free d q]
  .simp only [aB,C,ie,hG,iC,b0,eS,(S:ag (hV d y)=d)];rw [show ag (hV d y)=d from rfl,p.bind q C];cases t:g7 rc d with
   |none=>simp
   |some M=>
    constructor
    .intro N;have N:=bb.mp N
     injection N with A k;exists .name M,.node d,A,k,M,S,S,S
    .rintro⟨r,s,A,k,P,v,o,G⟩;obtain rfl:=aS v;subst o G;rw [A,k];exact bb.mpr S
 |letE d y z M=>exact xg (a:=b5 z) (b:=.name d) (a':=b5 M) (b':=.node d)
 |ifz d c z M=>exact xg (a:=b5 z) (b:=.node d) (a':=b5 M) (b':=.node d)
 |pair d z M=>exact xg (a:=b5 z) (b:=.first d) (a':=b5 M) (b':=.second d)
 |new d z=>exact s7 (a:=b5 z) (b:=.inside d)
 |fst d z=>
  let⟨U,A,G⟩:=m z (bE);show(sc,Ch)∈(dJ 2 ((ba o0 (0,ag z)).getD [])).map _↔_
  rw [A];exact s8 (f:=.first) (g:=λ_=>.node d) λu=>lI.trans (G (.pair u))
 |snd d z=>
  let⟨U,A,G⟩:=m z (bE);show(sc,Ch)∈(dJ 2 ((ba o0 (0,ag z)).getD [])).map _↔_
  rw [A];exact s8 (f:=.second) (g:=λ_=>.node d) λu=>lI.trans (G (.pair u))
 |get d z=>
  let⟨U,A,G⟩:=m z (bE);show(sc,Ch)∈(dJ 3 ((ba o0 (0,ag z)).getD [])).map _↔_
  rw [A];exact s8 (f:=.inside) (g:=λ_=>.node d) λu=>lI.trans (G (.ref u))
 |set d H z=>
  let⟨U,A,G⟩:=m H (bE);show(sc,Ch)∈[((0,ag z),(0,d))]++(dJ 3 ((ba o0 (0,ag H)).getD [])).map _↔_
  rw [A];exact Cq (s7 (a:=b5 z) (b:=.node d)) (s8 (f:=λ_=>b5 z) (g:=.inside) λu=>lI.trans (G (.ref u)))
 |app d E z=>
  let⟨U,A,G⟩:=m E (bE);have K:b5 E∈aq rc:=gm (i6 q bE)
  simp only [aB,kids,aZ,hP,hG,iC,dh,eS,(S:ag (Tp d E z)=d),A,zP,jN,di];constructor
  .rintro⟨u,Q,N⟩;have T:=(G (.fn u)).mp (lI.mp Q)
   let⟨y,M,_,t,F,_⟩:=xf p (x.sort K T);rcases bg.mp N with N|N
   .injection N with k o;exists b5 z,.name u,k,o,u,T,.inl ⟨S,S⟩
   .injection (bb.mp N)with k o;exists .node (ag M),.node d,by rw [k,F];rfl,o,u,T,.inr ⟨_,t,S,S⟩
  .rintro⟨r,s,rfl,rfl,u,T,⟨rfl,rfl⟩|⟨P,v,rfl,rfl⟩⟩
   .exact⟨u,lI.mpr ((G (.fn u)).mpr T),bE⟩
   .let⟨y,M,_,t,F,_⟩:=xf p (x.sort K T);rw [t]at v;obtain rfl:=aS v;exists u,lI.mpr ((G (.fn u)).mpr T),bC _ (bb.mpr ?_);rw [F];rfl
def Cs(M:bG l)(k:bM l o0 wv):(sc,Ch)∈fA (cV l) o0 (cV l).nodes.length↔∃N S,sc=D N/\Ch=D S/\ec l wv N S:=by
 have z:(cV l).nodes.length=size l:=eU l O;unfold fA;rw [di];constructor
 .rintro⟨c,m,T⟩;rw [z,lZ]at m;let⟨A,G,n⟩:=M.node m;let⟨d,e⟩:=M.info G;unfold q2 at T;have f:(cV l).nodes[c]?=Y (cZ d A):=by rw [<-n];exact e
  rw [f]at T;have T:(sc,Ch)∈hG (cV l) c (aB A) ((kids A).map ag)++iC (cV l) o0 c (aB A) ((kids A).map ag):=T
  rw [<-n]at T;let⟨N,S,g,h,i⟩:=(Cr M k G).mp T;exists N,S,g,h,A,G,i
 .rintro⟨N,S,g,h,A,G,i⟩;exists ag A,by rw [z,lZ];exact M.lt G,?_;let⟨d,e⟩:=M.info G;unfold q2;have f:(cV l).nodes[ag A]?=Y (cZ d A):=e
  rw [f];exact(Cr M k G).mpr ⟨N,S,g,h,i⟩
def fl(z:List aj):Nat:=(z.map cN).sum
theorem MT:fl []=0:=rfl
def o8(z:aj)(A:List aj):fl (z::A)=z.length+fl A:=by simp [fl]
def kD(z A:List aj):fl (z++A)=fl z+fl A:=by simp [fl]
def xh(z:List aj):z.flatten.length=fl z:=by
 induction z with
 |nil=>rfl
 |cons w a b=>grind [o8]
def restOf(z:List ae)(A:Nat):Nat:=(z.map λD=>1+fl (aY D)).sum+A
def df:ae->Nat->List (Nat×Nat)
 |.num d n,b=>[(fl (aY (.num d n))+b,b)]
 |.var d x,b=>[(fl (aY (.var d x))+b,b)]
 |.fn d x f,b=>(fl (aY (.fn d x f))+b,b)::df f (1+b)
 |.app d h a,b=>(fl (aY (.app d h a))+b,b)::(df h (restOf [a] (1+b))++df a (1+b))
 |.letE d x e f,b=>(fl (aY (.letE d x e f))+b,b)::(df e (restOf [f] (1+b))++df f (1+b))
 |.ifz d c g e,b=>(fl (aY (.ifz d c g e))+b,b)::(df c (restOf [g,e] (1+b))++(df g (restOf [e] (1+b))++df e (1+b)))
 |.pair d a f,b=>(fl (aY (.pair d a f))+b,b)::(df a (restOf [f] (1+b))++df f (1+b))
 |.fst d e,b=>(fl (aY (.fst d e))+b,b)::df e (1+b)
 |.snd d e,b=>(fl (aY (.snd d e))+b,b)::df e (1+b)
 |.new d e,b=>(fl (aY (.new d e))+b,b)::df e (1+b)
 |.get d e,b=>(fl (aY (.get d e))+b,b)::df e (1+b)
 |.set d a f,b=>(fl (aY (.set d a f))+b,b)::(df a (restOf [f] (1+b))++df f (1+b))
 |.add d a f,b=>(fl (aY (.add d a f))+b,b)::(df a (restOf [f] (1+b))++df f (1+b))
def fX:List ae->Nat->List (Nat×Nat)
 |[],_=>[]
 |k::ks,a=>df k (restOf ks a)++fX ks a
def o9(z:ae)(A:Nat):df z A=(fl (aY z)+A,A)::fX (kids z) (1+A):=by cases z<;>simp [df,kids,fX,restOf]
def pa:∀(z:ae) (A:Nat),(df z A).length=size z:=by intro z;induction z<;>intro A<;>simp only [df,dn,br,iP,BN,BO,oM,oN,oO,oP,oQ,oR,oS,oT,oU,oV,oW, *]<;>lia
def MU(z A:List ae)(D:Nat):fX (z++A) D=fX z (restOf A D)++fX A D:=by
 induction z with
 |nil=>rfl
 |cons k ks a=>
  grind [restOf,fX]
structure RX where
 ws:List aj
 nodes:List Info
 around:List Nat
 sp:List (Nat×Nat)
def RX.rs(z:RX):RS:=⟨z.ws,z.nodes,z.around⟩
def fI(A:RX):Option RX:=(begin_ A.rs).map λz=>⟨z.ws,z.nodes,z.around,A.sp++[(fl A.ws,fl z.ws)]⟩
def fi(z:RX):Option RX:=match z.around with
 |[]=>O
 |p::A=>match z.nodes[p]? with
  |none=>O
  |some i=>if i.parts.length=arity i.aK then(pass [41] z.ws).map λD=>⟨D,z.nodes,A,z.sp.modify p λG=>(G.1,fl D)⟩
   else((if i.aK≠.call\/i.parts≠[]then pass [32] z.ws else Y z.ws)).bind λD=>fI ⟨D,z.nodes,p::A,z.sp⟩
def Ct(z:RX):(fI z).map RX.rs=begin_ z.rs:=by unfold fI;cases begin_ z.rs<;>rfl
def xi(M:RX):(fi M).map RX.rs=hE M.rs:=by
 let⟨z,D,G,T⟩:=M;cases G with
 |nil=>rfl
 |cons p G=>
  show(match D[p]? with
  |none=>O
  |some i=>if i.parts.length=arity i.aK then(pass [41] z).map λA=>(⟨A,D,G,T.modify p λU=>(U.1,fl A)⟩:RX)
   else((if i.aK≠Fm.call\/i.parts≠[]then pass [32] z else Y z)).bind λA=>fI ⟨A,D,p::G,T⟩).map RX.rs=match D[p]? with
  |none=>O
  |some i=>if i.parts.length=arity i.aK then(pass [41] z).map λA=>(⟨A,D,G⟩:RS)
   else((if i.aK≠Fm.call\/i.parts≠[]then pass [32] z else Y z)).bind λA=>begin_ ⟨A,D,p::G⟩
  cases D[p]? with
  |none=>rfl
  |some i=>
   dsimp only;by_cases c:i.parts.length=arity i.aK
   .rw [ai c,ai c];cases pass [41] z<;>rfl
   .rw [N c,N c];cases (if i.aK≠Fm.call\/i.parts≠[]then pass [32] z else Y z)with
    |none=>rfl
    |some A=>exact Ct _
def mW{z A:RX}(D:fi z=Y A):A.ws.length<z.ws.length:=by have:=xi z;rw [D]at this;exact qT (S':=A.rs) this.symm
def je:Nat->RX->Option RX
 |0,a=>if a.around=[]then Y a else O
 |n+1,a=>if a.around=[]then Y a else(fi a).bind (je n)
def en(z:RX):Option RX:=je z.ws.length z
theorem xj:∀(D:Nat) (z:RX),z.ws.length<=D->je D z=en z
 |0,z,c=>by unfold en;rw [Tf.mp c]
 |D+1,z,c=>by
  unfold en;cases d:z.ws.length with
  |zero=>
   unfold je;by_cases A:z.around=[]
   .rw [ai A,ai A]
   .rw [N A,N A];cases b:fi z with
    |none=>rfl
    |some a=>have:=mW b;lia
  |succ m=>
   show(if z.around=[]then Y z else(fi z).bind (je D))=if z.around=[]then Y z else(fi z).bind (je m);by_cases A:z.around=[]
   .rw [ai A,ai A]
   .rw [N A,N A];cases b:fi z with
    |none=>rfl
    |some a=>
     have:=mW b;show je D a=je m a
     rw [xj D a (by lia),xj m a (by lia)]
def mX(z:RX):en z=if z.around=[]then Y z else(fi z).bind en:=by
 by_cases A:z.around=[]
 .rw [ai A];unfold en;cases z.ws.length<;>(simp_all [je])
 .rw [N A];unfold en;cases c:z.ws.length with
  |zero=>
   unfold je;rw [N A];cases a:fi z with
   |none=>rfl
   |some b=>have:=mW a;lia
  |succ m=>
   show(if z.around=[]then Y z else(fi z).bind (je m))=_;rw [N A];cases a:fi z with
   |none=>rfl
   |some b=>
    have:=mW a;grind [xj]
def MV:∀(D:Nat) (z:RX),z.ws.length<=D->(en z).map RX.rs=loop z.rs:=by
 intro D;induction D with
 |zero=>
  intro z G;rw [mX,qU];by_cases A:z.around=[]
  .rw [ai A,ai (show z.rs.around=[]from A)];rfl
  .rw [N A,N (show¬z.rs.around=[]from A),<-xi];cases a:fi z with
   |none=>rfl
   |some b=>have:=mW a;lia
 |succ D c=>
  intro z G;rw [mX,qU];by_cases A:z.around=[]
  .rw [ai A,ai (show z.rs.around=[]from A)];rfl
  .rw [N A,N (show¬z.rs.around=[]from A),<-xi];cases a:fi z with
   |none=>rfl
   |some b=>
    have:=mW a;exact c b (by lia)
def hH(A:List aj):Option (List Info×List (Nat×Nat)):=((fI ⟨A,[],[],[]⟩).bind en).bind λz=>if z.ws=[]then Y (z.nodes,z.sp)else O
def xk(z:List aj):(hH z).map (·.1)=runM z:=by
 unfold hH runM;have A:begin_ ⟨z,[],[]⟩=(fI ⟨z,[],[],[]⟩).map RX.rs:=(Ct ⟨z,[],[],[]⟩).symm
 rw [A];cases fI ⟨z,[],[],[]⟩with
 |none=>rfl
 |some b=>
  show((en b).bind _).map _=(loop b.rs).bind _;rw [<-MV _ b (aR _)];cases en b with
  |none=>rfl
  |some a=>
   show(if a.ws=[]then Y (a.nodes,a.sp)else O).map _=if a.rs.ws=[]then Y a.rs.nodes else O;by_cases c:a.ws=[]
   .rw [ai c,ai (show a.rs.ws=[]from c)];rfl
   .rw [N c,N (show¬a.rs.ws=[]from c)];rfl
theorem s9(D:Fm):∀(G:List ae) (z:Nat) (A:List aj),z≠0->fl (dy D z (G.map aY)++A)=restOf G (fl A)
 |[],z,A,a=>by simp [dy,restOf]
 |k::ks,z,A,a=>by
  simp only [aZ,dy];rw [ai (.inr a),ck,ck,kD,kD,s9 D ks (z+1) A (by lia)];unfold restOf;simp [fl]
  lia
def MW{pE:Nat->List aj->Option (ae×List aj)}{d1:Nat}(K:∀(c:Nat) (T:List aj) (h:List Info) (A:List Nat) (k:List (Nat×Nat)) (z:ae) (M:List aj),d1=A.length->c=h.length->k.length=h.length->c<=30->pE c T=Y (z,M)->(fI ⟨T,h,A,k⟩).bind en=en ⟨M,attach h A c++infos A.head? z,A,k++df z (fl M)⟩)(t:∀(c:Nat) (T:List aj) (z:ae) (M:List aj),c<=30->pE c T=Y (z,M)->T=aY z++M/\Reads d1 c z){fm:Fm} {x:aj} {p:Option Nat} {N0:List Info} {A:List Nat} {S0:List (Nat×Nat)} {s:Nat×Nat} (L:d1=A.length+1) (P:S0.length=N0.length):∀(e a:Nat) (T:List aj) (G:List Nat) (D:List Info) (U:List (Nat×Nat)) (f:List ae) (g M:List aj),G.length=a->a+e=arity fm->U.length=D.length->N0.length+1+D.length<=30->ho pE fm e a (N0.length+1+D.length) T=Y (f,g)->pass [41] g=Y M->en ⟨T,N0++⟨fm,x,p,G⟩::D,N0.length::A,S0++s::U⟩=en ⟨M,N0++⟨fm,x,p,G++f.map ag⟩::(D++f.flatMap (infos (Y N0.length))),A,S0++(s.1,fl M)::(U++fX f (fl g))⟩:=by
 intro e;induction e with
 |zero=>
  intro a T G D U f g M i u v l b m;cases b;rw [mX,N (by simp)];have n:(N0++(⟨fm,x,p,G⟩:Info)::D)[N0.length]?=Y ⟨fm,x,p,G⟩:=by rw [hu (aR _),kd];rfl
  simp only [fi,n];rw [ai (by rw [i];exact u),m];have o:(S0++s::U).modify N0.length (λx=>(x.1,fl M))=S0++(s.1,fl M)::U:=by rw [<-P,sQ]
  simp [o,fX]
 |succ e Q=>
  intro a T G D U f g M i u v l b m;rw [mX,N (by simp)];have n:(N0++(⟨fm,x,p,G⟩:Info)::D)[N0.length]?=Y ⟨fm,x,p,G⟩:=by rw [hu (aR _),kd];rfl
  simp only [fi,n];rw [N (show¬G.length=arity fm by lia)];have w:(fm≠.call\/G≠[])↔(fm≠.call\/a≠0):=by refine rL rO ?_;rw [<-i];exact not_congr kX.symm
  have R:(if fm≠.call\/G≠[]then pass [32] T else Y T)=(if fm≠.call\/a≠0 then pass [32] T else Y T):=by
   by_cases j:fm≠.call\/a≠0
   .rw [ai j,ai (w.mpr j)]
   .rw [N j,N λV=>j (w.mp V)]
  simp only [ho]at b;let⟨W,X,b⟩:=ft.mp b;let⟨⟨z,d⟩,y,b⟩:=ft.mp b;let⟨⟨q,r⟩,B,b⟩:=ft.mp b;cases b;rw [R,X];simp only [gh];have C:(N0++(⟨fm,x,p,G⟩:Info)::D).length=N0.length+1+D.length:=by simp;lia
  have ab:(S0++s::U).length=N0.length+1+D.length:=by simp;lia
  rw [K (N0.length+1+D.length) W (N0++⟨fm,x,p,G⟩::D) (N0.length::A) (S0++s::U) z d (by simpa using L) C.symm (by rw [C,ab]) l y];let⟨ap,E⟩:=t _ _ _ _ l y;have ad:ag z=N0.length+1+D.length:=by exact(Row.mk E.qY:Row z _).lb
  simp only [Tj];have o:attach (N0++(⟨fm,x,p,G⟩:Info)::D) (N0.length::A) (N0.length+1+D.length)++infos (Y N0.length) z=N0++⟨fm,x,p,G++[ag z]⟩::(D++infos (Y N0.length) z):=by simp only [attach];rw [sQ,ad];simp
  have F:N0.length+1+(D++infos (Y N0.length) z).length=N0.length+1+D.length+size z:=by
   rw [br,eU]
   lia
  have al:(S0++s::U)++df z (fl d)=S0++s::(U++df z (fl d)):=by simp
  rw [o,al];have H:=E.sz
  have:=Q (a+1) d (G++[ag z]) (D++infos (Y N0.length) z) (U++df z (fl d)) q r M (by simp [i]) (by lia) (by rw [br,br,pa,eU,v]) (by rw [F];exact H) (by rw [F];exact B) m;rw [this];have am:fl d=restOf q (fl r):=by let⟨an,_⟩:=wW t e (a+1) _ d q r H B;rw [an,s9 _ _ _ _ (by lia)]
  rw [am];simp [fX,ck]
set_option tactic.hygienic true
theorem Cu:∀(d b U:Nat) (M:List aj) (G:List Info) (D:List Nat) (e:List (Nat×Nat)) (c:ae) (a:List aj),b=D.length->U=G.length->e.length=G.length->U<=30->gY d b U M=Y (c,a)->(fI ⟨M,G,D,e⟩).bind en=en ⟨a,attach G D U++infos D.head? c,D,e++df c (fl a)⟩
 |0,_,_,_,_,_,_,_,_,_,_,_,_,z=>by cases z
 |d+1,b,U,M,G,D,e,c,a,hd,o,R,y,z=>by
  have B:=sR (d+1) b U M c a y z;simp only [gY]at z;split at z
  .cases z
  .rename_i V;let⟨⟨f,q,h⟩,r,z⟩:=ft.mp z
   have t:=qV r;have C:begin_ (RX.rs ⟨M,G,D,e⟩)=Y ⟨h,attach G D G.length++[⟨f,q,D.head?,[]⟩],if ek f=I then D else G.length::D⟩:=by unfold begin_ RX.rs;rw [N (by grind),r];rfl
   unfold fI;rw [C];simp [l9,gh];have u:fl M=fl (aY c)+fl a:=by rw [B.1,kD]
   split at z
   .rename_i i;let⟨j,g,k⟩:=cv.mp z
    cases k;have T:=lG g t
    rw [ai i,oX,o9,T.ks];unfold cZ;rw [T.fm,T.wd,T.ks,u,o];rfl
   .rename_i i;let⟨⟨E,v⟩,W,z⟩:=ft.mp z
    let⟨X,l,z⟩:=ft.mp z;let⟨j,g,k⟩:=cv.mp z
    cases k;have T:=lG g t
    dsimp only at l g T;rw [N i];have w:=MW (pE:=gY d (b+1)) (d1:=b+1) (λU M G F H j K m n L P Q=>Cu d (b+1) U M G F H j K m n L P Q) (λU M c a m n=>sR d (b+1) U M c a m n)
     (fm:=f) (x:=q) (p:=D.head?) (N0:=attach G D G.length) (A:=D) (S0:=e) (s:=(fl M,fl h)) (by rw [hd]) (by grind [oZ]) (arity f) 0 h [] [] [] E v a S (by lia) S (by grind [oZ])
     (by grind [oZ]) l
    rw [oZ]at w;rw [w,oX,o9,T.ks,T.lb];unfold cZ;rw [T.fm,T.wd,T.ks,u,o];have ab:fl v=1+fl a:=by rw [qX.mp l,o8];rfl
    grind
set_option tactic.hygienic false
def Cv{U:List (Nat×Nat)}:hH (bY [] (sB.map norm))=Y (xz,U)↔∃z,bo z=I/\bq z=sB/\size z<=30/\dH z<=8/\aW 0 z=z/\xz=infos O z/\U=df z 0:=by
 have a:∀z,bo z=I->size z<=30->dH z<=8->aW 0 z=z->hH (bY [] ((bq z).map norm))=Y (infos O z,df z 0):=by
  intro z A G M D;rw [B8 (wY z A),wZ A];have e:bJ z=cj 0 (size z):=by have:=lF z 0;rw [D]at this;exact this
  have c:=B7 (gg z) z (aR _) 9 0 0 [] ⟨A,by lia,by lia,e⟩ (by lia);rw [b0]at c;unfold hH;rw [Cu 9 0 0 _ [] [] [] z [] S rfl rfl (by lia) c,mX,ai S];simp [attach,fl]
 constructor
 .intro b;have f:runM (bY [] (sB.map norm))=Y xz:=by rw [<-xk,b];rfl
  let⟨z,A,d,G,M,D,g⟩:=w0.mp f;exists z,A,d,G,M,D,g,?_;have:=a z A G M D
  rw [d,b]at this;injection this with this;injection this
 .rintro⟨z,A,rfl,G,M,D,rfl,rfl⟩;exact a z A G M D
def MX:hH (bY [] (sB.map norm))=O↔runM (bY [] (sB.map norm))=O:=by rw [<-xk,Tq]
def q4:∀z:ae,bq z=(aY z).flatten:=by intro z;induction z<;>simp_all [bq,aY,Hf,va,Hg]
def text_len(z:ae):(bq z).length=fl (aY z):=by rw [q4,xh]
def tf{y:ae}(G:ag l=t):cQ t y l=y:=by cases l<;>(have D:=G;simp only [ag]at D;simp [cQ,D])
def ti{y:ae}(G:ag l≠t):aB (cQ t y l)=aB l/\wordOf (cQ t y l)=wordOf l/\kids (cQ t y l)=(kids l).map (cQ t y)/\ag (cQ t y l)=ag l:=by cases l<;>(have D:=G;simp only [ag]at D;simp [cQ,D,aB,wordOf,kids,ag])
def pb{y:ae}:∀{A:ae},t∉bJ A->cQ t y A=A:=by
 intro A;induction A with
 |num b k=>grind [dI,ag,cQ]
 |var b k=>grind [dI,ag,cQ]
 |fn b x d g|fst b d g|snd b d g|new b d g|get b d g=>
  intro z;rw [dI]at z;simp [kids,ag,b3,ep,b0,bg,p3]at z;grind [cQ]
 |app b a d e f|pair b a d e f|set b a d e f|add b a d e f|letE b x a d e f=>
  intro z;rw [dI]at z;simp [kids,ag,b3,ep,b0,bg,bR,p3]at z;grind [cQ]
 |ifz b a d c e f h=>
  intro z;rw [dI]at z;simp [kids,ag,b3,ep,b0,bg,bR,p3]at z;grind [cQ]
def Cw{y:ae}(A:bo y=I):∀{D:ae},bo D=I->bo (cQ t y D)=I:=by
 intro D;induction D with
 |num b k=>intro z;simp only [cQ];split;exact A;exact z
 |var b k=>intro z;simp only [cQ];split;exact A;exact z
 |fn b x d e|letE b x a d f e=>intro z;simp only [cQ];split;exact A;simp_all [bo]
 |fst b d e|snd b d e|new b d e|get b d e=>intro z;simp only [cQ];split;exact A;simp_all [bo]
 |app b a d f g|pair b a d f g|set b a d f g|add b a d f g=>intro z;simp only [cQ];split;exact A;simp_all [bo]
 |ifz b a d c f g h=>intro z;simp only [cQ];split;exact A;simp_all [bo]
theorem Cy(G:Fm):∀(A D:List (List aj)) (z:Nat),dy G z (A++D)=dy G z A++dy G (z+A.length) D
 |[],D,z=>rfl
 |w::A,D,z=>by simp only [dg,dy,Cy G A D (z+1),dn,ck];rw [show z+1+A.length=z+(A.length+1)by lia]
theorem MY(G:Fm):∀(D:List ae) (A:Nat) (z:List aj),restOf D (fl z)<=fl (dy G A (D.map aY)++z)+1
 |[],A,z=>by simp [dy,restOf]
 |k::ks,A,z=>by grind [s9,dy,kD,restOf]
def Cz(z:Fm)(A:aj)(D:¬ek z=I):1<=fl (hF z A):=by
 unfold hF;rw [N D];split
 .exact aR _
 .split<;>(rw [o8];simp)
def CB(A:ek (aB l)=I):kids l=[]:=by rcases(qW l).mp A with⟨D,G,rfl⟩|⟨D,x,rfl⟩<;>rfl
def MZ(z:ae)(D:Nat):restOf (kids z) (1+D)<=fl (aY z)+D+1:=by
 by_cases A:ek (aB z)=I
 .rw [CB A];simp [restOf]
  lia
 .rw [o1 A,kD];have G:=MY (aB z) (kids z) 0 [[41]]
  have M:=Cz (aB z) (wordOf z) A;have N:fl [[41]]=1:=rfl
  unfold restOf at*
  lia
def M0:∀(N:Nat) (A:ae),gg A<=N->∀z G,G∈df A z->G.1<=fl (aY A)+z:=by
 intro N;induction N with
 |zero=>intro A a;cases A<;>simp at a
 |succ N c=>
  intro A a z G T;rw [o9]at T;rcases bg.mp T with rfl|T
  .exact aR _
  .have d:∀(M:List ae) (z:Nat),(∀U∈M,U∈kids A)->G∈fX M z->G.1+1<=restOf M z:=by
    intro M;induction M with
    |nil=>intro z _ D;cases D
    |cons U M e=>
     intro z b D;unfold restOf;simp only [aZ,eC];rcases bR.mp D with D|D
     .have:=c U (by have:=h3 (b U bE);lia) _ G D;unfold restOf at this
      lia
     .have:=e z (λf g=>b f (bC _ g)) D;unfold restOf at this
      lia
   have h:=d (kids A) (1+z) (λ_ D=>D) T;have i:=MZ A z
   lia
def M3(G:bo l=I):1<=fl (aY l):=by
 by_cases A:ek (aB l)=I
 .rcases(qW l).mp A with⟨M,D,rfl⟩|⟨M,x,rfl⟩
  .have:=(kA (n:=D) (eB G)).1;unfold i7 at this;simp only [bx]at this;show 1<=fl [d8 D]
   rw [o8];cases hd:d8 D with
   |nil=>rw [hd]at this;simp at this
   |cons a b=>simp;lia
  .have:=lE (x:=x) G;unfold i7 at this;simp only [bx]at this;show 1<=fl [x]
   rw [o8];cases hd:x with
   |nil=>rw [hd]at this;simp at this
   |cons a b=>simp;lia
 .rw [o1 A,kD];have:=Cz (aB l) (wordOf l) A
  lia
def M4:∀(T:Nat) (A:ae),gg A<=T->bo A=I->∀z G,G∈df A z->z<G.1:=by
 intro T;induction T with
 |zero=>intro A b;cases A<;>simp at b
 |succ T d=>
  intro A b c z G U;rw [o9]at U;rcases bg.mp U with rfl|U
  .have:=M3 c;show z<fl (aY A)+z
   lia
  .have e:∀(N:List ae) (z:Nat),(∀M∈N,M∈kids A)->G∈fX N z->z<G.1:=by
    intro N;induction N with
    |nil=>intro z _ D;cases D
    |cons M N f=>
     intro z a D;rcases bR.mp D with D|D
     .have:=d M (by have:=h3 (a M bE);lia) (((mI A).mp c).2 M (a M bE)) _ G D;unfold restOf at this
      lia
     .exact f z (λg h=>a g (bC _ h)) D
   have:=e (kids A) (1+z) (λ_ D=>D) U
   lia
def M5:∀(i:Nat) (A:ae),gg A<=i->∀d,bJ A=cj d (size A)->∀T∈aG A,∀G,∃(j k:List (Nat×Nat)) (pre post:List aj),df A G=j++(df T (fl post+G)++k)/\j.length+d=ag T/\aY A=pre++(aY T++post)/\(∀b∈k,b.1<=fl post+G)/\(∀y,aY (cQ (ag T) y A)=pre++(aY y++post))/\∀y,size (cQ (ag T) y A)+size T=size A+size y:=by
 intro i;induction i with
 |zero=>intro A u;cases A<;>simp at u
 |succ i g=>
  intro A u d H T l G;let⟨L,m⟩:=kB H;rw [gp]at l;rcases bg.mp l with rfl|l
  .exact⟨[],[],[],[],by simp [fl],by simpa using L.symm,by simp,(λ_ M=>nomatch M),λy=>by rw [tf S];simp,λy=>by rw [tf S];lia⟩
  .obtain⟨c,h,v⟩:=di.mp l;let⟨D,N,f⟩:=Hq h;rw [f,k4,b3,aT,vd,aZ,eC]at m;have P:(D.flatMap bJ).length=(D.map size).sum:=by
    clear f m h;induction D with
    |nil=>rfl
    |cons a p g=>rw [b3,br,gX,g];rfl
   have Q:cj (d+1) ((D.map size).sum+(size c+(N.map size).sum))=cj (d+1) (D.map size).sum++(cj (d+1+(D.map size).sum) (size c)++cj (d+1+(D.map size).sum+size c) (N.map size).sum):=by rw [kc,kc]
   rw [Q]at m;let⟨R,n⟩:=md m (by rw [P,qe]);let⟨n,V⟩:=md n (by rw [gX,qe]);let⟨j,k,pre,post,W,a2,X,ab,ad,al⟩:=g c (by have:=h3 h;lia) _ n T v (restOf N (1+G));have w:¬ek (aB A)=I:=λb=>by rw [CB b]at h;cases h
   have am:ag T∈bJ c:=by unfold bJ;exact dY v
   rw [n,ve]at am;have x:∀U∈D,ag T∉bJ U:=λU M b=>by
    have:ag T∈D.flatMap bJ:=di.mpr ⟨U,M,b⟩;rw [R,ve]at this
    lia
   have B:∀U∈N,ag T∉bJ U:=λU M b=>by
    have:ag T∈N.flatMap bJ:=di.mpr ⟨U,M,b⟩;rw [V,ve]at this
    lia
   have an:∀y,aY (cQ (ag T) y A)=hF (aB A) (wordOf A)++(dy (aB A) 0 (D.map aY++aY (cQ (ag T) y c)::N.map aY)++[[41]]):=by
    intro y;let⟨q,C,r,_⟩:=ti (y:=y) (show ag A≠ag T by lia);rw [o1 (by rw [q];exact w),q,C,r,f];have s:D.map (cQ (ag T) y)=D:=(gE λU M=>pb (x U M)).trans (rQ D)
    have t:N.map (cQ (ag T) y)=N:=(gE λU M=>pb (B U M)).trans (rQ N);rw [aT,aZ,s,t,aT,aZ]
   have split:∀e:List aj,dy (aB A) 0 (D.map aY++e::N.map aY)=dy (aB A) 0 (D.map aY)++((if aB A≠.call\/D.length≠0 then [[32]]else [])++(e++dy (aB A) (D.length+1) (N.map aY))):=by intro e;rw [Cy];simp only [dy,z,uQ]
   have E:fl (post++(dy (aB A) (D.length+1) (N.map aY)++[[41]]))+G=fl post+restOf N (1+G):=by
    rw [kD,s9 _ _ _ _ (by lia)];have:fl [[41]]=1:=rfl
    unfold restOf
    lia
   have F:∀e:List aj,hF (aB A) (wordOf A)++(dy (aB A) 0 (D.map aY++(pre++(e++post))::N.map aY)++[[41]])=(hF (aB A) (wordOf A)++(dy (aB A) 0 (D.map aY)++((if aB A≠.call\/D.length≠0 then [[32]]else [])++pre)))++(e++(post++(dy (aB A) (D.length+1) (N.map aY)++[[41]]))):=by intro e;rw [split];simp only [ck]
   exists (fl (aY A)+G,G)::(fX D (restOf (c::N) (1+G))++j),k++fX N (1+G),hF (aB A) (wordOf A)++(dy (aB A) 0 (D.map aY)++((if aB A≠.call\/D.length≠0 then [[32]]else [])++pre)),post++(dy (aB A) (D.length+1) (N.map aY)++[[41]]),?_,?_,?_,?_,?_,?_
   .rw [E,o9,f,MU];show _::(fX D (restOf (c::N) (1+G))++(df c (restOf N (1+G))++fX N (1+G)))=_
    rw [W];simp only [dg,ck]
   .have ap:∀(K:List ae) (G:Nat),(fX K G).length=(K.map size).sum:=by
     intro K;induction K with
     |nil=>intro G;rfl
     |cons a p g=>intro G;show(df a _++fX p G).length=_;rw [br,pa,g];rfl
    rw [dn,br,ap]
    lia
   .rw [o1 w,f,aT,aZ,X,F]
   .intro b as;rw [E];rcases bR.mp as with M|M
    .exact ab b M
    .have a0:∀(o:List ae) (G:Nat),b∈fX o G->b.1<=restOf o G:=by
      intro o;induction o with
      |nil=>intro G M;cases M
      |cons a p a1=>
       intro G M;unfold restOf;simp only [aZ,eC];rcases bR.mp M with M|M
       .have:=M0 _ a (aR _) _ b M;unfold restOf at this
        lia
       .have:=a1 G M;unfold restOf at this
        lia
     have:=a0 N (1+G) M
     lia
   .intro y;rw [an y,ad y,F]
   .intro y;let⟨q,C,r,_⟩:=ti (y:=y) (show ag A≠ag T by lia);have s:D.map (cQ (ag T) y)=D:=(gE λU M=>pb (x U M)).trans (rQ D)
    have t:N.map (cQ (ag T) y)=N:=(gE λU M=>pb (B U M)).trans (rQ N);have:=al y
    rw [size_eq (cQ (ag T) y A),size_eq A,r,f,aT,aZ,s,t];simp only [aT,aZ,vd,eC]
    lia
def dM(z:List (Pr×List Pr))(A:Pr)(D:List Pr):List (Pr×List Pr):=z.map λy=>if y.1=A then(y.1,D)else y
def CC(z:List (Pr×List Pr))(A:Pr)(D:List Pr):(dM z A D).map (·.1)=z.map (·.1):=by
 unfold dM;rw [d6];refine gE λy _=>?_;show(if y.1=A then(y.1,D)else y).1=y.1
 split<;>rfl
theorem xl(A:List Pr):∀{D:List (Pr×List Pr)},sc∉D.map (·.1)->dM D sc A=D
 |[],_=>rfl
 |y::b,a=>by
  rw [aZ,bg,p3]at a;show(if y.1=sc then(y.1,A)else y)::dM b sc A=_
  rw [N (λG=>a.1 G.symm),xl A a.2]
theorem pd(z:Pr):∀{U:List (Pr×List Pr)},sc∈U.map (·.1)->ba (dM U sc re) z=if z=sc then Y re else ba U z
 |[],a=>by cases a
 |y::D,a=>by
  unfold ba dM;rw [aZ,gc,gc];have d:∀(D:List (Pr×List Pr)),z≠sc->((dM D sc re).find? λy=>decide (y.1=z)).map (·.2)=(D.find? λy=>decide (y.1=z)).map (·.2):=by
   intro D G;induction D with
   |nil=>rfl
   |cons b D g=>
    grind [dM]
  by_cases M:y.1=sc
  .rw [ai M];by_cases G:z=sc
   .grind
   .rw [N G];have:¬y.1=z:=λe=>G (e.symm.trans M)
    rw [bU this];exact d D G
  .rw [N M];rw [aZ,bg]at a;have f:=a.resolve_left λb=>M b.symm
   by_cases c:y.1=z
   .grind
   .rw [bU c];exact pd z f
def CD(G:ba o0 sc=Y re):(sc,re)∈o0:=by
 unfold ba at G;let⟨y,M,N⟩:=cv.mp G
 grind
theorem kE(G:ba o0 sc=Y re):sc∈o0.map (·.1):=bH.mpr ⟨_,CD G,S⟩
theorem hI:∀{D:Tb} {A:Pr} {G:List Pr},(D.map (·.1)).Nodup->(A,G)∈D->ba D A=Y G
 |y::b,A,G,a,z=>by
  unfold ba;rw [aZ,eh]at a;rw [gc];rcases bg.mp z with z|z
  .rw [<-z];simp
  .have M:¬y.1=A:=λN=>a.1 (by rw [N];exact bH.mpr ⟨_,z,S⟩);rw [bU M];exact hI a.2 z
set_option tactic.hygienic true
def M6(G:(o0.map (·.1)).Nodup)(M:ba o0 sc=Y re):dM o0 sc re=o0:=by
 unfold dM;refine(gE λy N=>?_).trans (nW _);split
 .rename_i T;have:=hI G (show(sc,y.2)∈o0 by grind)
  grind
 .rfl
set_option tactic.hygienic false
def ew(z:Tb):Nat:=(z.map λy=>y.2.length).sum
theorem CF{qs:List Pr}:∀{D:Tb},(D.map (·.1)).Nodup->ba D sc=Y re->ew (dM D sc qs)+re.length=ew D+qs.length
 |[],_,a=>by cases a
 |y::c,b,a=>by
  rw [aZ,eh]at b;unfold ba at a;rw [gc]at a;show ew ((if y.1=sc then(y.1,qs)else y)::dM c sc qs)+_=_
  by_cases A:y.1=sc
  .rw [cq A]at a;have M:y.2=re:=aS a
   rw [ai A,xl qs (by rw [<-A];exact b.1),<-M];unfold ew;simp only [aZ,eC]
   lia
  .rw [bU A]at a;rw [N A];have:=CF b.2 a (qs:=qs)
   unfold ew at this⊢;simp only [aZ,eC]at this⊢
   lia
theorem iD{z:sK->AC}(S:∀A G,z A=z G->A=G):∀{M:List sK},M.Nodup->(M.map z).Nodup
 |[],_=>gd
 |A::a,b=>by grind
def bM.nodup(z:bG l)(A:bM l o0 wv):(o0.map (·.1)).Nodup:=by rw [A.keys];exact iD (λ_ _=>d4) z.cY.places
def bM.set(U:bM l o0 T0)(b:or∈aq l)(d:re.Nodup)(f:∀g∈re,∃z∈bp l,g=a6 z)(h:∀z,a6 z∈re↔wv or z)(i:∀A,A≠or->∀z,T0 A z↔wv A z):bM l (dM o0 (D or) re) wv:=by
 have j:D or∈o0.map (·.1):=by rw [U.keys];exact dY b
 exists by rw [CC];exact U.keys,λA k=>?_;rw [pd _ j];by_cases c:A=or
 .subst c;rw [ai S];exists re,S,d,f,h
 .rw [N λG=>c (d4 G)];let⟨m,n,o,p,q⟩:=U.row A k;exists m,n,o,p,λz=>(q z).trans (i A c z)
def CG(T:Pred)(D:aA)(G:cw->Prop):Pred:=λz A=>T z A\/(z=D/\G A)
variable{KK:List Pr}
def bM.merge(N:bM l o0 wv)(a:or∈aq l)(d:ba o0 (D or)=Y re){U:cw->Prop}(g:∀b∈KK,∃z∈bp l,b=a6 z)(h:∀z,a6 z∈KK↔U z):bM l (dM o0 (D or) (cS re KK)) (CG wv or U)/\((cS re KK).length=re.length->∀z,U z->wv or z):=by
 let⟨i,c,f,j,k⟩:=N.row or a;rw [d]at c;obtain rfl:=aS c;exists N.set a (mD f) (λb A=>?_) (λz=>?_) (λm n z=>?_),λo z p=>?_
 all_goals grind [hn,CG,oF]
theorem xm:∀{l:List Nat} {z:Nat},(∀A∈l,A<=z)->l.sum<=l.length*z
 |[],_,_=>by simp
 |a::c,z,b=>by
  rw [eC,dn,Ta];have:=xm (l:=c) λA D=>b A (bC _ D)
  have:=b a bE
  lia
def places_len(e:ae):(aq e).length<=3*size e:=by
 have S:∀(D:ae->List aA) (G:Nat),(∀A,(D A).length<=G)->∀z:List ae,(z.flatMap D).length<=G*z.length:=by
  intro D G M z;induction z with
  |nil=>simp
  |cons A b a=>
   rw [b3,br,dn,Nat.mul_succ];have:=M A
   lia
 have N:∀z:List ae,((z.flatMap λA=>[b5 A])++((z.flatMap λA=>match A with
  |.fn z _ _=>[Td z]
  |.letE z _ _ _=>[.name z]
  |_=>[])++((z.flatMap λA=>match A with
  |.pair z _ _=>[Vw z,.second z]
  |_=>[])++z.flatMap λA=>match A with
  |.new z _=>[Vx z]
  |_=>[]))).length<=3*z.length:=by
  intro z;induction z with
  |nil=>simp
  |cons A b a=>
   simp only [b3,br,dn,iP]at a⊢;cases A<;>simp only [dn,iP]<;>lia
 exact N (aG e)
def bM.CH(G:bG l)(A:bM l o0 wv):ew o0<=2790:=by
 have i:o0.length=(aq l).length:=by have:=bD cN A.keys;rwa [z,z]at this
 have j:=places_len l;have k:=G.bL
 have U:ew o0<=(o0.map λy=>y.2.length).length*31:=by
  refine xm λe a=>?_;let⟨y,M,rfl⟩:=bH.mp a;have b:y.1∈(aq l).map D:=by rw [<-A.keys];exact dY M
  let⟨c,d,f⟩:=bH.mp b;let⟨m,N,g,h,_⟩:=A.row c d;rw [f,hI (A.nodup G) (show(y.1,y.2)∈o0 from M)]at N;rw [aS N];have:=s6 g h
  lia
 rw [z]at U
 lia
structure Cut(z x:ae)(a A:aj):Prop where
 text:bq z=a++(bq x++A)
 span:(df z 0)[ag x]?=Y ((bq x).length+A.length,A.length)
 put:∀y,bq (cQ (ag x) y z)=a++(bq y++A)
 size:∀y,Cf.size (cQ (ag x) y z)+Cf.size x=Cf.size z+Cf.size y
 le:ag x+Cf.size x<=Cf.size z
 back:∀D G,(df z 0)[D]?=Y G->ag x<=D->(G.1<=A.length↔ag x+Cf.size x<=D)
def xo(T:bG l)(D:rc∈aG l):∃h i,Cut l rc h i:=by
 have j:bJ l=cj 0 (Cf.size l):=by have:=lF l 0;rw [T.mU]at this;exact this
 let⟨s,t,pre,post,M,U,k,z,m,n⟩:=M5 _ l (aR _) 0 j rc D 0;have o:bo rc=I:=by
  have:∀(N:Nat) (l:ae),gg l<=N->bo l=I->∀rc∈aG l,bo rc=I:=by
   intro N;induction N with
   |zero=>intro l a;cases l<;>simp at a
   |succ N p=>
    intro l a b rc D;rw [gp]at D;rcases bg.mp D with rfl|D
    .exact b
    .obtain⟨d,e,q⟩:=di.mp D;exact p d (by have:=h3 e;lia) (((mI l).mp b).2 d e) rc q
  exact this _ l (aR _) T.told rc D
 have f:(post.flatten).length=fl post:=xh post;have r:=bD cN M
 rw [br,br,pa,pa]at r;rw [j9]at M U;exists pre.flatten,post.flatten,?_,?_,λy=>?_,n,by lia,λu g G v=>?_
 .rw [q4,k,uY,uY,<-q4]
 .rw [M,<-U,hu (aR _),kd,o9,text_len,f];rfl
 .rw [q4,m,uY,uY,<-q4]
 .rw [f];rw [M,hu (by lia)]at G;constructor
  .intro w;refine GX λc=>?_;rw [uC (by rw [pa];lia)]at G;have:=M4 _ rc (aR _) o _ g (cG G)
   lia
  .intro x;rw [hu (by rw [pa];lia)]at G;have:=z g (cG G)
   lia
def M7:∀(A:Nat) (z:ae),gg z<=A->∀y∈aG z,dH y<=dH z:=by
 intro A;induction A with
 |zero=>intro z G;cases z<;>simp at G
 |succ A a=>
  intro z G y D;rw [gp]at D;rcases bg.mp D with rfl|D
  .exact aR _
  .obtain⟨N,M,T⟩:=di.mp D;have:=a N (by have:=h3 M;lia) y T
   have:=B3 M
   lia
def M8{n:Nat}{y:ae}:∀(A:Nat) (z:ae),gg z<=A->n∈bJ z->y∈aG (cQ n y z):=by
 intro A;induction A with
 |zero=>intro z M;cases z<;>simp at M
 |succ A a=>
  intro z M D;by_cases G:ag z=n
  .rw [tf G];exact gW y
  .rw [dI]at D;have D:=(bg.mp D).resolve_left λS=>G S.symm
   let⟨T,N,U⟩:=di.mp D;let⟨_,_,b,_⟩:=ti (y:=y) G;rw [gp,b];refine bC _ (di.mpr ⟨_,dY N,a T (by have:=h3 N;lia) U⟩)
def M9(N:bG l)(T:rc∈aG l)(d:runM (bY [] (sB.map norm))=O):rR l (ag rc) sB=O:=by
 let⟨o,p,U⟩:=xo N T;unfold rR;cases e:He sB with
 |none=>rfl
 |some y=>
  let⟨a,f,g⟩:=BS.mp e;show hT (bq (cQ (ag rc) y l))=O
  cases h:hT (bq (cQ (ag rc) y l))with
  |none=>rfl
  |some q=>
   exfalso;let⟨i,j⟩:=qR.mp h;have M:=q3 i
   have b:=wO M.told (Cw a N.told) j;have k:=bD Cf.size b
   have z:=bD dH b;rw [sN,sN]at k;rw [BR,BR]at z;have:=U.size y
   have:=U.le;have m:ag rc∈bJ l:=by unfold bJ;exact dY T
   have:=M7 _ _ (aR _) y (M8 (n:=ag rc) (y:=y) _ l (aR _) m);have:=M.bL
   have:=M.deep;have G:∃c,runM (bY [] (sB.map norm))=Y c:=⟨_,w0.mpr ⟨y,a,f,by lia,by lia,g,S⟩⟩
   let⟨c,G⟩:=G;rw [d]at G;cases G
def Na(d:bG l)(k:rc∈aG l){N:aj}(S:Cut l rc Re N)(f:runM (bY [] (sB.map norm))=Y xz):rR l (ag rc) sB=hT (Re++(sB++N))/\ ∀G,hT (Re++(sB++N))=Y G->∃y,Cf.size G+Cf.size rc=Cf.size l+Cf.size y/\aW 0 G=aW 0 (cQ (ag rc) y l):=by
 let⟨y,U,T,_,_,g,_⟩:=w0.mp f;have h:=BS.mpr ⟨U,T,g⟩
 exists ?_,λG i=>⟨y,?_⟩
 .unfold rR;rw [h];show hT (bq (cQ (ag rc) y l))=_
  rw [S.put,T]
 .let⟨j,a⟩:=qR.mp i;rw [<-T,<-S.put]at a;have b:=wO (q3 j).told (Cw U d.told) a
  have c:=bD Cf.size b;rw [sN,sN]at c;rw [c];exists S.size y,b
def xp(G A:ae)(D:Int)(z:Nat):Option Int:=if z<ag A then Y z else if ag A+Cf.size A<=z then Y (z+D)else O
def Nb(G:bG l)(N:rc∈aG l){D:ae}{y:ae}(U:Cf.size D+Cf.size rc=Cf.size l+Cf.size y)(M:Nat):(er (e1 l D (ag rc)) M).map (λT:Nat=>(T:Int))=xp l rc ((Cf.size D:Int)-Cf.size l) M:=by
 have sz:zQ l (ag rc)=Cf.size rc:=by unfold zQ;rw [G.cY.nodeAt,G.cY.get N];rfl
 unfold er e1 xp;rw [sz];have a:(aG D).length=Cf.size D:=rfl
 have b:(aG l).length=Cf.size l:=rfl;grind
def CI{z:me}(A:er z t=Y wP):(t<z.at_/\wP=t)\/(z.at_+z.old<=t/\wP=t-z.old+z.new):=by
 unfold er at A;by_cases M:t<z.at_
 .rw [ai M]at A;cases A;exact .inl ⟨M,S⟩
 .rw [N M]at A;by_cases T:t<z.at_+z.old
  .rw [ai T]at A;cases A
  .rw [N T]at A;cases A;exact .inr ⟨GV T,S⟩
variable{Wa:Nat}
def CJ{z:me}(N:er z t=Y Wa)(S:er z wP=Y Wa)(G:∀t,z.at_+z.old<=t->z.at_<=t-z.old+z.new):t=wP:=by
 have T:=G t;have U:=G wP
 have c:=CI N;have a:=CI S
 clear N S G
 lia
def CK{G:me}(M:rS G or=Y v2):(D or).1=(D v2).1/\er G (D or).2=Y (D v2).2:=by cases or<;>(let⟨T,N,rfl⟩:=cv.mp M;exists S,N)
def CM{D:me}{A:cw}(G:zR D ut=Y A):(A=.num/\ut=.num)\/(A≠.num/\(a6 ut).1=(a6 A).1/\er D (a6 ut).2=Y (a6 A).2):=by
 cases ut
 case num=>cases G;exact .inl ⟨S,S⟩
 all_goals (let⟨N,M,rfl⟩:=cv.mp G;exact .inr ⟨nofun,S,M⟩)
def Nc{z:me}(c:∀d,z.at_+z.old<=d->z.at_<=d-z.old+z.new){G M e:hv}(A:iV z G=Y e)(D:iV z M=Y e):G=M:=by
 let⟨h,i⟩:=G;let⟨j,k⟩:=M;let⟨r,l,A⟩:=ft.mp A;let⟨s,m,A⟩:=cv.mp A;let⟨t,n,D⟩:=ft.mp D;let⟨u,o,D⟩:=cv.mp D;subst A;injection D with N S;subst N S;have f:=CK l
 have g:=CK n;have N:h=j:=d4 (kf (f.1.trans g.1.symm) (CJ f.2 g.2 c))
 have S:i=k:=by
  rcases CM m with⟨T,U⟩|⟨T,U,p⟩<;>rcases CM o with⟨a,b⟩|⟨a,b,q⟩
  .exact U.trans b.symm
  .exact absurd T a
  .exact absurd a T
  .exact lJ (kf (U.trans b.symm) (CJ p q c))
 rw [N,S]
theorem Nd{z:sK->Option AC}(S:∀A G c,z A=Y c->z G=Y c->A=G):∀{M:List sK},M.Nodup->(M.filterMap z).Nodup
 |[],_=>gd
 |A::a,b=>by grind
def Nf{s:me}(T:∀G,s.at_+s.old<=G->s.at_<=G-s.old+s.new){z u:iS}(M:z.Nodup)(U:u.Nodup):(k6 s z u).came+(k6 s z u).kept=u.length:=by
 show(u.countP λA=> !(z.map (iV s)).contains (Y A))+((z.map (iV s)).countP λo=>o.any u.contains)=u.length;have a:((z.map (iV s)).countP λo=>o.any u.contains)=((z.filterMap (iV s)).filter u.contains).length:=by
  rw [vf,<-Tr];clear M;induction z with
  |nil=>rfl
  |cons N b d=>
   grind
 have e:(u.filter λA=>(z.map (iV s)).contains (Y A)).length=((z.filterMap (iV s)).filter u.contains).length:=by refine Vy ((vc (U.filter _) ((Nd (λN f c=>Nc T) M).filter _)).mpr λg=>?_);rw [dz,dz,j0];simp [gQ,bH];exact and_comm
 rw [a,<-e,<-Tr,zJ];have h:∀(D:hv->Bool) (u:iS),u.countP D+u.countP (λA=> !D A)=u.length:=by
  intro D u;induction u with
  |nil=>rfl
  |cons N b d=>
   grind
 grind
noncomputable def gr(z:ae)(A:Nat):aA->cw->Bool:=
 if A=0 thenλ_ _=>I else if A=1 thenλD G=>(nS (d7 z) D).any (uV G)
 else if A=2 thenλD G=>(cH (ha z) D).any λM=>(rK z).contains ⟨M,G⟩else gn z
def tj(A:ae)(z:Nat):mf A z=eT A (gr A z):=by
 unfold mf gr;by_cases D:z=0
 .simp_all [LR]
 .rw [N D,N D];by_cases G:z=1
  .simp_all [LW]
  .rw [N G,N G];by_cases M:z=2
   .rw [ai M,ai M];exact BK _
   simp_all [oK]
def gs(A:ae)(D:aA->cw->Bool):Pred:=λG z=>z∈bp A/\D G z=I
def q5(z:ae):Option cw:=match z with
 |.fn a _ _=>Y (.fn a)
 |.pair a _ _=>Y (.pair a)
 |.new a _=>Y (.ref a)
 |_=>O
def Ng{y:ae}(D:q5 l=Y ut)(G:q5 y=Y ut):ag l=ag y:=by cases l<;>simp [q5,zr,reduceCtorEq]at D<;>subst D<;>cases y<;>simp [q5,zr,reduceCtorEq,Vz,VA,VB]at G<;>exact G.symm
def tm(D:bG l):(bp l).Nodup:=by
 refine eh.mpr ⟨λM=>?_,?_⟩
 .grind
 .have G:∀z:List ae,(z.map ag).Nodup->(z.filterMap q5).Nodup:=by
   intro z;induction z with
   |nil=>grind
   |cons x a b=>
    grind [Ng]
  refine G _ ?_;have:=D.cY.cY
  grind [bJ]
def xq(f:bG l)(g:bM l o0 (gs l Tl))(h:or∈aq l):∃M,ba o0 (D or)=Y M/\(((bp l).map a6).filter λb=>decide (b∈M))=((bp l).filter (Tl or)).map a6/\M.length=((bp l).filter (Tl or)).length:=by
 let⟨M,i,j,k,c⟩:=g.row or h;exists M,i,?_,?_
 .rw [rM];congr 1;refine kY λN U=>?_;show decide (a6 N∈M)=Tl or N
  rw [ic,n0,c];exists λd=>d.2,λd=>⟨U,d⟩
 .have:=(vc j (iD (λ_ _=>lJ) ((tm f).filter (Tl or)))).mpr λb=>?_
  .rw [this.length_eq,z]
  .constructor
   .intro a;let⟨N,U,rfl⟩:=k b a;exact dY (dz.mpr ((c N).mp a))
   .intro a;let⟨N,U,rfl⟩:=bH.mp a;exact(c N).mpr (dz.mp U)
def xr(c:bG l)(U:bM l o0 (gs l Tl)):ew o0=(eT l Tl).length:=by
 rw [LV];unfold ew;have f:∀(N:Tb) (G:List aA),N.map (·.1)=G.map D->(∀y∈N,y∈o0)->(∀S∈G,S∈aq l)->(N.map λy=>y.2.length).sum=(G.map λS=>((bp l).filter (Tl S)).length).sum:=by
  intro N;induction N with
  |nil=>simp_all
  |cons y A g=>
   intro G z d e;cases G with
   |nil=>cases z
   |cons S h=>
    rw [aZ,aZ]at z;injection z with i j;rw [aZ,aZ,eC,eC,g h j (λa b=>d a (bC _ b)) λa b=>e a (bC _ b)];let⟨G,k,_,m⟩:=xq c U (e S bE)
    rw [<-i,hI (U.nodup c) (show(y.1,y.2)∈o0 from d y bE)]at k;grind
 exact f o0 _ U.keys (λ_ z=>z) λ_ z=>z
def ct(z:List Pr):List Int:=(z.length:Int)::z.flatMap λA=>[(A.1:Int),(A.2:Int)]
def told_set(A:List cw):(Hr A).map zS=ct (A.map a6):=by
 unfold Hr ct;rw [aZ,z];congr 1;induction A with
 |nil=>rfl
 |cons a c b=>
  rw [b3,aT,b,aZ,b3];congr 1;cases a<;>rfl
def tp(A:List aA):(Ts A).map zS=ct (A.map D):=by
 unfold Ts ct;rw [aZ,z];congr 1;induction A with
 |nil=>rfl
 |cons a c b=>
  rw [b3,aT,b,aZ,b3];congr 1;cases a<;>rfl
def cz(z:List Info)(c:Fm->Bool):List Nat:=(eY z.length).filter λA=>((z[A]?).map λD=>c D.aK).getD ao
def mY(T:bG l)(c:Fm->Bool):cz (infos O l) c=((aG l).filter λz=>c (aB z)).map ag:=by
 unfold cz;have a:∀D<(infos O l).length,(((infos O l)[D]?).map λb=>c b.aK).getD ao=(((aG l)[D]?).map λz=>c (aB z)).getD ao:=by
  intro D M;rw [eU]at M;let⟨z,N,d⟩:=T.node M;let⟨g,U⟩:=T.info N;have:=T.cY.get N
  rw [d]at U this;rw [U,this];rfl
 rw [kY (q:=λD=>(((aG l)[D]?).map λz=>c (aB z)).getD ao) λD M=>a D (lZ.mp M),eU];have gen:∀(G:Nat),G<=size l->(eY G).filter (λD=>(((aG l)[D]?).map λz=>c (aB z)).getD ao)=(((aG l).take G).filter λz=>c (aB z)).map ag:=by
  intro G;induction G with
  |zero=>intro _;rfl
  |succ G e=>
   intro f;obtain⟨z,N⟩:∃z,(aG l)[G]?=Y z:=⟨_,gf f⟩
   rw [qg,nV,e (by lia),dq,N,nV,aT];congr 1;simp only [ig,vg,N,l9,zP,Hs];have M:=T.cY.at N
   split<;>simp [M]
 have:=gen (size l) (aR _);rw [this];congr 2;exact dB
def iE:Fm->Option Nat
 |.fn=>Y 1|.pair=>Y 2|.new=>Y 3|_=>O
def xt(z:List Info):List Pr:=(0,0)::(eY z.length).filterMap λA=>((z[A]?).bind λD=>iE D.aK).map λG=>(G,A)
def Nh(N:bG l):xt (infos O l)=(bp l).map a6:=by
 unfold xt bp;rw [aZ];show(0,0)::_=(0,0)::_
 congr 1;rw [eU,zT];have gen:∀(D:Nat),D<=size l->(eY D).filterMap (λz=>(((infos O l)[z]?).bind λa=>iE a.aK).map λb=>((b,z):Pr))=((aG l).take D).filterMap λG=>(match G with
   |.fn z _ _=>Y (G8 z)
   |.pair z _ _=>Y (.pair z)
   |.new z _=>Y (.ref z)
   |_=>O).map a6:=by
  intro D;induction D with
  |zero=>intro _;rfl
  |succ D c=>
   intro d;obtain⟨G,M⟩:∃G,(aG l)[D]?=Y G:=⟨_,gf d⟩
   let⟨e,T⟩:=N.info (cG M);have U:=N.cY.at M
   rw [U]at T;rw [qg,vh,c (by lia),dq,M,vh];congr 1;simp only [kR,zU,T,gh,Hs];subst U;have f:iE (cZ e G).aK=iE (aB G):=rfl
   rw [f];cases G with
   |var z y=>
    have:iE (aB (.var z y))=O:=by simp only [aB];split<;>rfl
    rw [this];rfl
   |_=>rfl
 have:=gen (size l) (aR _);rw [this];congr 1;exact dB
def jf(z:Fm):Bool:=match z with
 |.fn=>I|.letE=>I|_=>ao
def tq(A:List Info):List Pr:=(eY A.length).map (λz=>(0,z))++(cz A jf).map (λz=>(1,z))++(cz A λD=>decide (D=.pair)).flatMap (λz=>[(2,z),(3,z)])++(cz A λD=>decide (D=.new)).map λz=>(4,z)
theorem q6(c:ae->Bool)(A:Nat->List sK)(D:ae->List sK)(M:∀z,D z=if c z=I then A (ag z)else []):∀N:List ae,(((N.filter c).map ag).flatMap A)=N.flatMap D
 |[]=>rfl
 |z::a=>by rw [b3,<-q6 c A D M a,M z,ig];split<;>simp
def CO(N:bG l):tq (infos O l)=(aq l).map D:=by
 unfold tq aq;rw [mY N,mY N,mY N,eU];rw [aT,aT,aT,ck,ck];have T:∀(U:Nat) (A:List Nat),(A.map λA=>((U,A):Pr))=A.flatMap λA=>[(U,A)]:=λU A=>by
  induction A with
  |nil=>rfl
  |cons a b c=>grind
 congr 1
 .have:(eY (size l))=(aG l).map ag:=by
   have:=N.cY.cY;unfold bJ at this;rw [this,z];rfl
  rw [this,T,qb];have:=q6 (λ_=>I) (λA=>[((0,A):Pr)]) (λG=>[D (b5 G)]) (λG=>by rw [ai S];rfl) (aG l)
  rw [Hb.mpr λ_ _=>S]at this;grind
 congr 1
 .rw [T,qb];refine q6 _ _ _ (λG=>?_) _;cases G with
  |var A y=>
   grind [jf,aB]
  |_=>rfl
 congr 1
 .rw [qb];refine q6 _ _ _ (λG=>?_) _;cases G with
  |var A y=>
   grind [aB]
  |_=>rfl
 .rw [T,qb];refine q6 _ _ _ (λG=>?_) _;cases G with
  |var A y=>
   grind [aB]
  |_=>rfl
def eV(A:List Pr):List Nat:=A.filterMap λz=>if z.1=1 then Y z.2 else O
def CP(A:List cw):eV (A.map a6)=A.filterMap λz=>match z with
  |.fn k=>Y k
  |_=>O:=by
 unfold eV;rw [List.filterMap_map];congr 1;funext z;cases z<;>rfl
def dG(z:List Info)(A:Nat):Nat:=(((z[A]?).map (·.parts)).getD []).headD 0
def hJ(z:List Info)(D:Nat->List Nat):List Pr:=(cz z λG=>decide (G=.call)).flatMap λA=>(D (dG z A)).map λM=>(A,M)
def CQ(N:bG l)(M:aA->cw->Bool):(rT l (eT l M)).map (λD=>((D.site,D.fn):Pr))=hJ (infos O l) λc=>eV (((bp l).filter (M (.node c))).map a6):=by
 unfold hJ rT;rw [mY N,qb];have d:∀z:List ae,(∀G∈z,G∈aG l)->z.flatMap (λG=>rV (λD:Tt=>((D.site,D.fn):Pr)) (match G with
   |.app z a _=>(nS (eT l M) (b5 a)).filterMap λv=>(match v with
    |.fn T=>Y ⟨z,T⟩
    |_=>O)
   |_=>[]))=(((z.filter λG=>decide (aB G=.call)).map ag).flatMap λz=>(eV (((bp l).filter (M (.node (dG (infos O l) z)))).map a6)).map λT=>((z,T):Pr)):=by
  intro z;induction z with
  |nil=>intro _;rfl
  |cons G A e=>
   intro U;rw [b3,e λy f=>U y (bC _ f),ig];cases G with
   |app z a D=>
    have b:=U _ bE;let⟨g,h⟩:=N.info b;have i:dG (infos O l) z=ag a:=by unfold dG;rw [show(infos O l)[z]?=Y (cZ g (.app z a D))from h];rfl
    rw [ai (by rfl),aZ,b3];congr 1;have j:b5 a∈aq l:=gm (i6 b (by simp [kids]))
    dsimp only;rw [show ag (.app z a D)=z from rfl,i,CP,wL N.cY.places M j];rw [zT,zT];congr 1;funext v;cases v<;>rfl
   |var z y=>
    have:decide (aB (.var z y)=.call)=ao:=by simp only [aB];split<;>rfl
    rw [this];rfl
   |_=>rfl
 exact d _ λ_ k=>k
def bT(A:Tb):Pred:=λG M=>∃z,ba A (D G)=Y z/\a6 M∈z
def bM.key(A:bM l o0 wv)(G:sc∈o0.map (·.1)):∃M∈aq l,sc=D M:=by rw [A.keys]at G;grind
def bM.lL(A:bM l o0 wv)(G:bT o0 or ut):or∈aq l:=by
 let⟨N,M,_⟩:=G;let⟨S,U,a⟩:=A.key (kE M)
 grind [d4]
def bM.mZ(D:bM l o0 wv)(G:or∈aq l)(A:cw):bT o0 or A↔wv or A:=by
 let⟨M,N,a,b,S⟩:=D.row or G;constructor
 .rintro⟨c,d,f⟩;grind
 .intro U;exists M,N,(S A).mpr U
theorem bM.tt(z:bM l o0 wv):bM l o0 (bT o0):=z.congr λG A D=>(z.mZ A D).symm
theorem bM.look(M:bM l o0 wv)(N:or∈aq l):∃A,ba o0 (D or)=Y A/\A.Nodup/\(∀S∈A,∃G∈bp l,S=a6 G)/\∀G,a6 G∈A↔bT o0 or G:=M.tt.row or N
def bM.CS(d:bG l)(S:bM l o0 (bT o0))(f:or∈aq l){qs:List Pr}(b:ba o0 (D or)=Y re)(g:∀c∈qs,∃A∈bp l,c=a6 A):bM l (dM o0 (D or) (cS re qs)) (bT (dM o0 (D or) (cS re qs)))/\(∀N A,bT (dM o0 (D or) (cS re qs)) N A↔bT o0 N A\/(N=or/\a6 A∈qs))/\ ew (dM o0 (D or) (cS re qs))+re.length=ew o0+(cS re qs).length/\((cS re qs).length=re.length->dM o0 (D or) (cS re qs)=o0/\∀c∈qs,c∈re):=by
 let⟨a,_⟩:=S.merge f b (U:=λA=>a6 A∈qs) g λA=>rO;exists a.tt,λN A=>?_,CF (S.nodup d) b,λG=>⟨?_,(oF G).1⟩
 .constructor
  .intro G;exact(a.mZ (a.lL G) A).mp G
  .intro G;have h:N∈aq l:=by
    rcases G with G|⟨G,_⟩
    .exact S.lL G
    .grind
   exact(a.mZ h A).mpr G
 .rw [(oF G).2];exact M6 (S.nodup d) b
def bM.sub(z:bM l o0 wv)(G:ba o0 sc=Y re):∀M∈re,∃N∈bp l,M=a6 N:=by
 let⟨U,a,rfl⟩:=z.key (kE G);let⟨b,c,d,f,g⟩:=z.row U a
 grind
def bM.len(A:bM l o0 wv)(M:bG l)(D:ba o0 sc=Y re):re.length<=31/\re.Nodup:=by
 let⟨U,a,rfl⟩:=A.key (kE D);let⟨d,G,b,c,f⟩:=A.row U a
 rw [D]at G;obtain rfl:=aS G;have:=s6 b c
 have:=M.bL;grind
def tr(d:bG l)(G:bM l o0 wv)(f:(sc,Ch)∈fA (cV l) o0 (cV l).nodes.length):∃z A,sc=D z/\Ch=D A/\z∈aq l/\A∈aq l/\ec l (bT o0) z A:=by
 let⟨z,A,g,h,M⟩:=(Cs d G.tt).mp f;have a:∀b N,bT o0 b N->N∈bp l:=λb N c=>G.tt.sort (G.lL c) c
 exists z,A,g,h,qP a M,oJ a M,M
theorem tu(G:bG l)(M:bM l o0 wv)(N:ec l (bT o0) or v2):(D or,D v2)∈fA (cV l) o0 (cV l).nodes.length:=(Cs G M.tt).mpr ⟨or,v2,S,S,N⟩
def Ni(N:bM l o0 wv)(S:∀A z,fG l A z->bT o0 A z)(U:∀A z,bT o0 A z->gJ l A z)(a:∀D G,ec l (bT o0) D G->∀z,bT o0 D z->bT o0 G z):bM l o0 (gs l (gn l)):=by
 refine N.tt.congr λA b z=>?_;unfold gs;rw [qO];constructor
 .intro M;exists N.tt.sort b M,U A z M
 .intro M;exact M.2 _ ⟨S,λD G z c d=>a D G c z d⟩
structure jg(z:ae)(A:aA->aA):Prop where
 hK:∀p∈aq z,A p∈aq z
 rep:∀p∈aq z,A (A p)=A p
 eqv:∀p∈aq z,Eqv z p (A p)
def lM(A:ae)(D:aA->aA):Nat:=((aq A).filter λz=>decide (D z=z)).length
def joinR(z:aA->aA)(D G:aA):aA->aA:=λA=>if z A=G then D else z A
def jh(z:ae)(A:aA->aA):Pred:=λG M=>∃D∈aq z,A D=A G/\fG z D M
theorem Nj(e:ae):jg e id:=⟨λ_ z=>z,λ_ _=>S,λA _=>(kC e).refl A⟩
set_option tactic.hygienic true
variable{t3:aA->aA}
def Nk(G:jg l t3)(b:v2∈aq l)(d:or∈aq l)(hw:Eqv l v2 or)(h:t3 v2≠t3 or):jg l (joinR t3 (t3 v2) (t3 or))/\lM l (joinR t3 (t3 v2) (t3 or))<lM l t3:=by
 have U:=kC l;exists ⟨λz S=>?_,λz S=>?_,λz S=>?_⟩,?_
 .unfold joinR;split
  .exact G.hK v2 b
  .exact G.hK z S
 .unfold joinR;by_cases c:t3 z=t3 or
  .rw [ai c,G.rep v2 b,N h]
  .rw [N c,G.rep z S,N c]
 .unfold joinR;split
  .rename_i c;have f:=G.eqv z S
   rw [c]at f;exact U.trans _ _ _ f (U.trans _ _ _ (U.symm _ _ (G.eqv or d)) (U.trans _ _ _ (U.symm _ _ hw) (G.eqv v2 b)))
  .exact G.eqv z S
 .unfold lM;have q:∀z∈aq l,joinR t3 (t3 v2) (t3 or) z=z->t3 z=z/\z≠t3 or:=by
   intro z S T;unfold joinR at T;by_cases c:t3 z=t3 or
   .rw [ai c]at T;rw [<-T,G.rep v2 b]at c;grind
   .grind
  have i:∀M:List aA,(∀z∈M,z∈aq l)->(M.filter λz=>decide (joinR t3 (t3 v2) (t3 or) z=z)).length<=(M.filter λz=>decide (t3 z=z)).length/\(t3 or∈M->(M.filter λz=>decide (joinR t3 (t3 v2) (t3 or) z=z)).length<(M.filter λz=>decide (t3 z=z)).length):=by
   intro M;induction M with
   |nil=>grind
   |cons z r j=>
    intro k;let⟨R,m⟩:=j λn o=>k n (bC _ o)
    rw [ig,ig];by_cases p:joinR t3 (t3 v2) (t3 or) z=z
    .grind
    .rw [N λa=>p (eB a)];by_cases g:t3 z=z
     .grind
     .rw [N λa=>g (eB a)];exists R,λT=>m ((bg.mp T).resolve_left λa=>g ?_);rw [<-a,G.rep or d]
  exact(i _ λ_ T=>T).2 (G.hK or d)
set_option tactic.hygienic false
def Nl(N:jg l t3)(U:∀z A,wv z A->z∈aq l/\jh l t3 z A)(a:ec l wv or v2):Eqv l or v2:=by
 have M:=kC l;refine M.way or v2 (a.mono λz A b=>?_);let⟨c,T,d,f,g⟩:=U z A b
 exists T,?_,g;have:=N.eqv T d
 rw [f]at this;exact M.trans _ _ _ (N.eqv z c) (M.symm _ _ this)
def Nm(q:jg l t3)(i:∀M N,M∈aq l->N∈aq l->ec l (λz A=>z∈aq l/\jh l t3 z A) M N->t3 M=t3 N):∀z∈aq l,∀D∈aq l,Eqv l z D->t3 z=t3 D:=by
 intro z r D T j;have d:∀(z:aA) (A:cw),(z∈aq l/\jh l t3 z A)->A∈bp l:=λz A ⟨_,D,_,_,G⟩=>(lC G).2
 have c:sW l λz D=>z=D\/(z∈aq l/\D∈aq l/\t3 z=t3 D):=by
  exists λz=>.inl S,λz D G=>G.imp Eq.symm λ⟨A,U,c⟩=>⟨U,A,c.symm⟩,λz D s k f=>?_,λM N e=>?_
  .rcases k with rfl|⟨A,U,c⟩
   .exact f
   .rcases f with rfl|⟨t,m,n⟩
    .exact .inr ⟨A,U,c⟩
    .exact .inr ⟨A,m,c.trans n⟩
  .have a:ec l (λz A=>z∈aq l/\jh l t3 z A) M N:=e.mono λz A ⟨D,G,b⟩=>by
    have T:=(lC b).1;rcases G with rfl|⟨o,p,c1⟩
    .exact⟨T,z,T,S,b⟩
    .exact⟨o,D,p,c1.symm,b⟩
   have g:=qP d a;have h:=oJ d a
   exact .inr ⟨g,h,i M N g h a⟩
 rcases j _ c with rfl|⟨_,_,G⟩
 .rfl
 .exact G
def Nn(b:bG l)(T:jg l t3)(c:∀or∈aq l,∀A∈aq l,Eqv l or A->t3 or=t3 A)(N:or∈aq l)(D:cw):jh l t3 or D↔gs l (gr l 2) or D:=by
 have U:=kC l;have d:gr l 2 or D=((aq l).filter (jM l or)).any λA=>(rK l).contains ⟨A,D⟩:=by rw [<-sY b.cY N];rfl
 unfold gs jh;rw [d,Hl];constructor
 .rintro⟨A,G,f,M⟩;exists (lC M).2,A,dz.mpr ⟨G,mJ.mpr ?_⟩,gQ.mpr M;have:=T.eqv A G
  rw [f]at this;exact U.trans _ _ _ (T.eqv or N) (U.symm _ _ this)
 .rintro⟨_,A,G,M⟩;let⟨a,g⟩:=dz.mp G
  exists A,a,(c or N A a (mJ.mp g)).symm,gQ.mp M
def xu(T:bG l)(M:jg l t3)(U:∀or∈aq l,∀A∈aq l,Eqv l or A->t3 or=t3 A)(D:or∈aq l):((aq l).filter λA=>decide (t3 A=t3 or))=cH (ha l) or:=by
 have N:=kC l;rw [sY T.cY D];refine kY λA S=>?_;rw [ic,n0,mJ];constructor
 .intro G;have:=M.eqv A S
  rw [G]at this;exact N.trans _ _ _ (M.eqv or D) (N.symm _ _ this)
 .intro G;exact(U or D A S G).symm
def Np(G:bG l)(M:jg l t3)(N:∀z∈aq l,∀A∈aq l,Eqv l z A->t3 z=t3 A):((((aq l).filter λz=>decide (t3 z=z)).map λz=>((aq l).filter λA=>decide (t3 A=t3 z)).length)).Perm ((ha l).map cN):=by
 have S:=(ML G.cY (r:=t3) (λz D=>⟨M.hK z D,M.eqv z D⟩) N).map cN;rw [d6]at S;refine VC (VD (gE λz D=>?_)) S;have T:=(dz.mp D).1
 show _=((aq l).filter (jM l z)).length;rw [xu G M N T,sY G.cY T]
def xv(A:List Info)(D:Pr):List Pr:=match(A[D.2]?).map (·.aK)with
 |none=>[]
 |some z=>if D.1=0/\(z=.call\/z=.fst\/z=.snd\/z=.get)then [(0,dG A D.2)]
  else if D.1=1/\z=.fn then(cz A λz=>decide (z=.call)).map λG=>(0,dG A G)
  else if D.1=4 then(cz A λz=>decide (z=.set)).map λG=>(0,dG A G)else []
section
variable {e:ae} (G:bG e)
include G
def bG.part{z A:ae}{r:List ae}(D:z∈aG e)(M:kids z=A::r):dG (infos O e) (ag z)=ag A:=by
 let⟨T,N⟩:=G.info D;unfold dG;rw [N];show((kids z).map ag).headD 0=_
 rw [M];rfl
def CT{M:Fm}(T:ae->Option aA)(a:∀z∈aG e,T z=if aB z=M then Y (.node (dG (infos O e) (ag z)))else O):((aG e).filterMap T).map D=(cz (infos O e) λb=>decide (b=M)).map λA=>(0,dG (infos O e) A):=by
 rw [mY G,zT,d6];have d:∀A:List ae,(∀z∈A,z∈aG e)->(A.filterMap λf=>(T f).map D)=(A.filter λz=>decide (aB z=M)).map ((λA=>((0,dG (infos O e) A):Pr))∘ag):=by
  intro A;induction A with
  |nil=>intro _;rfl
  |cons z k g=>
   intro U;rw [kR,ig,a z (U z bE),g λy h=>U y (bC _ h)];by_cases c:aB z=M
   .rw [ai c,ai (cq c)];rfl
   .rw [N c,N λi=>c (eB i)];rfl
 exact d _ λ_ j=>j
def Nq:(Hn e).map D=(cz (infos O e) λA=>decide (A=.call)).map λz=>(0,dG (infos O e) z):=by
 refine CT G _ λM T=>?_;cases M with
 |app z A a=>rw [ai (by rfl),G.part T (r:=[a]) S];rfl
 |var z y=>rw [N];grind [aB]
 |_=>rfl
def Nr:(Ho e).map D=(cz (infos O e) λA=>decide (A=.set)).map λz=>(0,dG (infos O e) z):=by
 refine CT G _ λM T=>?_;cases M with
 |set z A a=>rw [ai (by rfl),G.part T (r:=[a]) S];rfl
 |var z y=>rw [N];grind [aB]
 |_=>rfl
def pe{N:aA}(b:N∈aq e):∃M∈aG e,ag M=(D N).2/\(∀A,N=.inside A->aB M=.new)/\(∀A,N=.first A\/N=.second A->aB M=.pair)/\(∀A,N=.name A->aB M=.fn\/aB M=.letE):=by
 rcases hZ.mp b with⟨M,c,rfl⟩|⟨A,rfl,⟨y,a,h⟩|⟨y,d,a,h⟩⟩|h
 .exact⟨M,c,S,(λA z=>by cases z),(λA z=>by rcases z with z|z<;>cases z),λA z=>by cases z⟩
 .exact⟨_,h,S,(λA z=>by cases z),(λA z=>by grind),λA z=>.inl S⟩
 .exact⟨_,h,S,(λA z=>by cases z),(λA z=>by grind),λA z=>.inr S⟩
 .rcases h with⟨A,U,f,a,T⟩|⟨A,U,d,T⟩
  .rcases U with rfl|rfl
   .exact⟨_,T,S,(λA z=>by cases z),(λA z=>S),λA z=>by cases z⟩
   .exact⟨_,T,S,(λA z=>by cases z),(λA z=>S),λA z=>by cases z⟩
  .subst U;exact⟨_,T,S,(λA z=>S),(λA z=>by grind),λA z=>by cases z⟩
def Nt{T:aA}(k:T∈aq e):xv (infos O e) (D T)=(e9 e T).map D:=by
 let⟨z,M,h,q,s,t⟩:=pe G k;let⟨u,l⟩:=G.info M
 unfold xv;rw [<-h,l];show(if(D T).1=0/\(aB z=.call\/aB z=.fst\/aB z=.snd\/aB z=.get)then [(0,dG (infos O e) (ag z))]
  else if(D T).1=1/\aB z=.fn then(cz (infos O e) λU=>decide (U=.call)).map λA=>(0,dG (infos O e) A)
  else if(D T).1=4 then(cz (infos O e) λU=>decide (U=.set)).map λA=>(0,dG (infos O e) A)else [])=_
 cases T with
 |node A=>
  have f:ag z=A:=h;have m:mb e A=Y z:=by rw [G.cY.nodeAt,<-f];exact G.cY.get M
  unfold e9;simp [m];cases z with
  |app b U a=>rw [ai ⟨S,.inl S⟩,G.part M (r:=[a]) S];rfl
  |fst b d=>rw [ai ⟨S,.inr (.inl S)⟩,G.part M (r:=[]) S];rfl
  |snd b d=>rw [ai ⟨S,.inr (.inr (.inl S))⟩,G.part M (r:=[]) S];rfl
  |get b d=>rw [ai ⟨S,.inr (.inr (.inr S))⟩,G.part M (r:=[]) S];rfl
  |var b y=>
   have:aB (.var b y)=.given\/aB (.var b y)=.used:=by simp only [aB];split<;>simp
   rcases this with this|this<;>rw [this]<;>rfl
  |_=>rfl
 |name A=>
  have f:=h;unfold e9;dsimp only;rw [N (λg=>by grind)];have j:(zO e).contains A=I↔aB z=.fn:=by
   rw [gQ];unfold zO;rw [bH];constructor
   .rintro⟨y,i,n⟩;let⟨i,o⟩:=dz.mp i
    have:=G.cY.uniq i M (n.trans f.symm);subst this;cases y<;>first|rfl|cases o
   .intro p;exists z,dz.mpr ⟨M,?_⟩,f;cases z with
    |fn b y v=>rfl
    |var b y=>grind [aB]
    |_=>cases p
  by_cases c:aB z=.fn
  .rw [ai ⟨S,c⟩,ai (j.mpr c),Nq G]
  .rw [N λg=>c g.2,N λg=>c (j.mp g)];rfl
 |inside A=>
  simp_all [e9,D,Nr]
 |first A=>rfl
 |second A=>rfl
end
def Nu(a:bG l)(i:bM l o0 wv)(j:At.Nodup)(U:or∈aq l)(c:or∈At)(d:∀z∈At,iB l or z)(k:∀z A,bT o0 z A->jd l or z A)(e:∀z∈At,∀m∈e9 l z,m∈At) (n:∀N M,ec l (bT o0) N M->M∈At->N∈At) (o:∀z A,fG l z A->z∈At->bT o0 z A) (p:∀N M A,ec l (bT o0) N M->bT o0 N A->M∈At->bT o0 M A):((aq l).filter λz=>decide (z∈At))=ju l or/\At.length=(ju l or).length/\∃S,ba o0 (D or)=Y S/\(((bp l).map a6).filter λq=>decide (q∈S))=(ke l or).map a6:=by
 have f:o6 l or (λz=>z∈At) (bT o0):=⟨c,e,n,o,p⟩
 have g:∀z,z∈At↔iB l or z:=λz=>⟨d z,λb=>b _ _ f⟩
 have r:∀z A,bT o0 z A↔jd l or z A:=λz A=>⟨k z A,λb=>b _ _ f⟩
 have h:((aq l).filter λz=>decide (z∈At))=ju l or:=by rw [MR U];refine kY λz _=>?_;rw [ic,n0,Co];exact g z
 have v:∀z∈At,z∈aq l:=λz s=>d z s _ _ (w7 or U);exists h,?_,?_
 .rw [<-h];refine((vc j (a.cY.places.filter _)).mpr λz=>?_).length_eq;grind
 .let⟨S,t,w,x,u⟩:=i.tt.row or U;exists S,t,?_;rw [MS a.cY U,rM];congr 1;refine kY λA y=>?_;show decide (a6 A∈S)=gn l or A
  rw [ic,n0,qO,u,r];exact Cp a.cY ((g or).mp c)
def CU(z A:cw):uV z A=I↔(a6 z).1=(a6 A).1:=by cases z<;>cases A<;>simp [uV,a6]
def Nv(f:bG l)(g:bM l o0 (gs l (gn l)))(U:or∈aq l)(h:ba o0 (D or)=Y re)(M:cw):(a6 M).1∈re.map (·.1)↔gr l 1 or M=I:=by
 let⟨z,b,m,i,c⟩:=g.row or U;rw [h]at b;obtain rfl:=aS b;have j:gr l 1 or M=((bp l).filter (gn l or)).any (uV M):=by rw [<-wL f.cY.places _ U,<-oK];rfl
 rw [j,Hl,bH];constructor
 .rintro⟨k,d,N⟩;let⟨A,e,rfl⟩:=i k d;exists A,dz.mpr ((c A).mp d),(CU M A).mpr N.symm
 .rintro⟨A,e,N⟩;exists a6 A,(c A).mpr (dz.mp e),((CU M A).mp N).symm
def CV:∀(z:ae) (A:Nat),(aG (aW A z)).map aB=(aG z).map aB:=by intro z;induction z<;>intro A<;>simp_all [aW,aG,aB]
def Nw:∀(d:Nat) (G:ae),gg G<=d->∀T,bJ G=cj T (size G)->∀A∈aG G,∃b e:List Fm,(aG G).map aB=b++((aG A).map aB++e)/\b.length+T=ag A/\∀y,(aG (cQ (ag A) y G)).map aB=b++((aG y).map aB++e):=by
 intro d;induction d with
 |zero=>intro G l;cases G<;>simp at l
 |succ d f=>
  intro G l T o A g;let⟨u,h⟩:=kB o
  rw [gp]at g;rcases bg.mp g with rfl|g
  .exact⟨[],[],by simp,by grind,λy=>by rw [tf S];simp⟩
  .let⟨c,j,m⟩:=di.mp g;let⟨D,N,n⟩:=Hq j
   rw [n,k4,b3,aT,vd,aZ,eC]at h;have v:(D.flatMap bJ).length=(D.map size).sum:=by
    clear n h j;induction D with
    |nil=>rfl
    |cons a p f=>grind [gX]
   have q:cj (T+1) ((D.map size).sum+(size c+(N.map size).sum))=cj (T+1) (D.map size).sum++(cj (T+1+(D.map size).sum) (size c)++cj (T+1+(D.map size).sum+size c) (N.map size).sum):=by rw [kc,kc]
   rw [q]at h;let⟨w,i⟩:=md h (by grind)
   let⟨i,x⟩:=md i (by rw [gX,qe]);let⟨b,e,B,C,E⟩:=f c (by have:=h3 j;lia) _ i A m
   have r:ag A∈bJ c:=by unfold bJ;exact dY m
   rw [i,ve]at r;have s:∀M∈D,ag A∉bJ M:=λM U k=>by have:ag A∈D.flatMap bJ:=di.mpr ⟨M,U,k⟩;grind
   have t:∀M∈N,ag A∉bJ M:=λM U k=>by have:ag A∈N.flatMap bJ:=di.mpr ⟨M,U,k⟩;grind
   have F:∀K:List ae,((K.flatMap aG).map aB).length=(K.map size).sum:=by
    intro K;induction K with
    |nil=>rfl
    |cons a p f=>rw [b3,aT,br,f,z];rfl
   exists aB G::((D.flatMap aG).map aB++b),e++(N.flatMap aG).map aB,?_,?_,λy=>?_
   .grind [gp,k4]
   .grind
   .let⟨H,L,P,_⟩:=ti (y:=y) (show ag G≠ag A by lia);have Q:D.map (cQ (ag A) y)=D:=(gE λM U=>pb (s M U)).trans (rQ D)
    have R:N.map (cQ (ag A) y)=N:=(gE λM U=>pb (t M U)).trans (rQ N);grind [ag,gp,dg]
def Nx(U:bG l)(a:rc∈aG l){M y:ae}(j:bG M)(d:aW 0 M=aW 0 (cQ (ag rc) y l))(G:er (e1 l M (ag rc)) t=Y wP)(q:t<size l):((aG M)[wP]?).map aB=((aG l)[t]?).map aB:=by
 have f:bJ l=cj 0 (Cf.size l):=by have:=lF l 0;rw [U.mU]at this;exact this
 let⟨k,A,b,r,g⟩:=Nw _ l (aR _) 0 f rc a;have c:(aG M).map aB=k++((aG y).map aB++A):=by rw [<-g y,<-CV (cQ (ag rc) y l) 0,<-d,CV]
 have sz:zQ l (ag rc)=Cf.size rc:=by unfold zQ;rw [U.cY.nodeAt,U.cY.get a];rfl
 have m:=bD cN b;have n:=bD cN c
 simp only [br,z]at m n;have o:(aG l).length=Cf.size l:=rfl
 have p:(aG M).length=Cf.size M:=rfl;have s:(aG rc).length=Cf.size rc:=rfl
 have D:(aG y).length=Cf.size y:=rfl;rw [<-bh,<-bh,b,c];clear b c g f d U j a;unfold er e1 at G;dsimp only at G;rw [sz,o,p]at G;by_cases h:t<ag rc
 .rw [ai h]at G;obtain rfl:=aS G;rw [uC (by lia),uC (by lia)]
 .rw [N h]at G;by_cases i:t<ag rc+Cf.size rc
  .rw [ai i]at G;cases G
  .rw [N i]at G;have G:=aS G
   rw [hu (by lia),hu (by rw [z];lia),hu (by lia),hu (by rw [z];lia)];congr 1;simp only [z]
   lia
def Ny(A:Nat)(z:Fm):Bool:=match A with
 |0=>I|1=>jf z|2=>decide (z=.pair)|3=>decide (z=.pair)|4=>decide (z=.new)|_=>ao
def tw(G:bG l)(c:Fm->Bool):t∈cz (infos O l) c↔∃D∈aG l,ag D=t/\c (aB D)=I:=by grind [mY]
def CW(U:bG l){c:Pr}:c∈(aq l).map D↔∃A∈aG l,ag A=c.2/\Ny c.1 (aB A)=I:=by
 rw [<-CO U];unfold tq;simp only [bR,bH,di,tw U,lZ,eU];let⟨f,T⟩:=c
 constructor
 .rintro(((⟨e,g,N⟩|⟨e,⟨A,M,G,z⟩,N⟩)|⟨e,⟨A,M,G,z⟩,N⟩)|⟨e,⟨A,M,G,z⟩,N⟩)
  .injection N with a z;subst a z;let⟨A,M,G⟩:=U.node g
   exists A,M,G,S
  .injection N with a b;subst a b;exists A,M,G,z
  .rcases bg.mp N with N|N
   .injection N with a b;subst a b;exists A,M,G,z
   .have N:=bb.mp N;injection N with a b;subst a b;exists A,M,G,z
  .injection N with a b;subst a b;exists A,M,G,z
 .rintro⟨A,M,G,z⟩;dsimp only at G z
  match f,z with
  |0,_=>exact .inl (.inl (.inl ⟨T,G▸U.lt M,S⟩))
  |1,z=>exact .inl (.inl (.inr ⟨T,⟨A,M,G,z⟩,S⟩))
  |2,z=>exact .inl (.inr ⟨T,⟨A,M,G,z⟩,bE⟩)
  |3,z=>exact .inl (.inr ⟨T,⟨A,M,G,z⟩,bC _ (bb.mpr S)⟩)
  |4,z=>exact .inr ⟨T,⟨A,M,G,z⟩,S⟩
def fj(A:Nat->Option Nat)(z:Pr):Option Pr:=(A z.2).map λD=>(z.1,D)
def fY(A:Nat->Option Nat)(z:Pr):Option Pr:=if z=(0,0)then Y z else fj A z
set_option tactic.hygienic true
def xw(z:me)(A:aA):fj (er z) (D A)=(rS z A).map D:=by cases A<;>(unfold fj rS D;dsimp only;rename_i G;cases er z G<;>rfl)
set_option tactic.hygienic false
def Nz(z:me)(A:cw):fY (er z) (a6 A)=(zR z A).map a6:=by
 cases A with
 |num=>rfl
 |fn a|pair a|ref a=>
  unfold fY;rw [N (by intro D;injection D with D _;cases D)];unfold fj zR a6;dsimp only;cases er z a<;>rfl
def jO(z:Nat->Option Nat)(A:Tb)(y:Pr×List Pr):Nat:=match fj z y.1 with
 |none=>0
 |some a=>(y.2.map (fY z)).countP λo=>o.any λD=>decide (D∈(ba A a).getD [])
def hq(z:Nat->Option Nat)(A D:Tb):Nat:=(A.map (jO z D)).sum
theorem countP_flatMap(z:sK->List AC)(A:AC->Bool):∀M:List sK,(M.flatMap z).countP A=(M.map λN=>(z N).countP A).sum
 |[]=>rfl
 |N::a=>by rw [b3,Tu,countP_flatMap z A a,aZ,eC]
variable{IN:Tb}
def NA(j:bG l)(ab:bG rc){s:me}(w:∀z∈aq l,∀T,rS s z=Y T->T∈aq rc)(g:bM l o0 (gs l (gn l)))(u:bM rc IN (gs rc (gn rc))):hq (er s) o0 IN=(k6 s (d7 l) (d7 rc)).kept:=by
 show _=((d7 l).map (iV s)).countP λo=>o.any (d7 rc).contains;have x:∀(z:aA) (G:cw),(d7 rc).contains ⟨z,G⟩=I↔gJ rc z G:=λz G=>by rw [gQ];exact LP
 rw [oK l];unfold eT hq;rw [vf,countP_flatMap];have B:=g.nodup j
 have C:∀(a:Tb) (b:List aA),a.map (·.1)=b.map D->(∀y∈a,y∈o0)->(∀z∈b,z∈aq l)->(a.map (jO (er s) IN)).sum=(b.map λz=>(((bp l).filter (gn l z)).map λG=>(⟨z,G⟩:hv)).countP ((λo=>o.any (d7 rc).contains)∘iV s)).sum:=by
  intro a;induction a with
  |nil=>simp_all
  |cons y ad E=>
   intro b N k A;cases b with
   |nil=>cases N
   |cons z F=>
    rw [aZ,aZ]at N;injection N with m H;rw [aZ,aZ,eC,eC,E F H (λe c=>k e (bC _ c)) λe c=>A e (bC _ c)];congr 1;have n:=A z bE
    let⟨h,p,K,L,q⟩:=g.row z n;rw [<-m,hI B (show(y.1,y.2)∈o0 from k y bE)]at p;have P:y.2=h:=aS p
    unfold jO;rw [m,xw,P];cases r:rS s z with
    |none=>
     symm;show Ht _ _=0
     rw [List.countP_eq_zero];intro e c;let⟨G,_,rfl⟩:=bH.mp c;grind [iV]
    |some T=>
     have Q:=w z n T r;let⟨t,R,al,am,V⟩:=u.row T Q
     show Ht (λo=>o.any λs=>decide (s∈(ba IN (D T)).getD [])) (h.map (fY (er s)))=_;rw [R,vf,vf];have W:h.Perm (((bp l).filter (gn l z)).map a6):=(vc K (iD (λ_ _=>lJ) ((tm j).filter (gn l z)))).mpr λX=>by
      constructor
      .intro f;let⟨G,i,rfl⟩:=L X f;exact dY (dz.mpr ((q G).mp f))
      .intro f;let⟨G,i,rfl⟩:=bH.mp f;exact(q G).mpr (dz.mp i)
     rw [W.countP_eq,vf];refine List.countP_congr λG i=>?_;show((fY (er s) (a6 G)).any λs=>decide (s∈t))=I↔((iV s ⟨z,G⟩).any (d7 rc).contains)=I
     rw [Nz];unfold iV;rw [r];cases an:zR s G with
     |none=>simp
     |some v=>
      show decide (a6 v∈t)=I↔(d7 rc).contains ⟨T,v⟩=I;rw [n0,x,V];unfold gs;rw [qO];exists λN=>N.2,λN=>⟨(wI N).2,N⟩
 exact C o0 _ g.keys (λ_ N=>N) λ_ N=>N
def gu(z:aj):List Int:=z.map λA=>(A.toNat:Int)
def inR(z:Int):Prop:= -1000000000000000000<=z/\z<=1000000000000000000
def q7(z:List Int)(D:k7)(A:List Int):Prop:=match D with
 |.program b=>z=0::(b.length:Int)::(gu b++A)/\b.length<=2000
 |.show_=>z=1::A
 |.set a c=>z=2::a::c::A/\inR a/\inR c
 |.arrows a=>z=3::a::A/\inR a
 |.counts=>z=4::A
 |.class_ a=>z=5::a::A/\inR a
 |.classes=>z=6::A
 |.ask a=>z=7::a::A/\inR a
 |.funs a=>z=8::a::A/\inR a
 |.looked a=>z=9::a::A/\inR a
 |.change a b=>z=10::a::(b.length:Int)::(gu b++A)/\inR a/\b.length<=2000
 |.undo=>z=11::A
 |.size=>z=12::A
inductive Calls:List Int->List k7->Prop
 |nil:Calls [] []
 |cons {l:List Int} {k:k7} {r:List Int} {ks:List k7}:q7 l k r->Calls r ks->Calls l (k::ks)
def toldOf:Vacfaf.Answer->List Int:=VE
def tD:n6->List k7->List Int
 |_,[]=>[]
 |s,k::ks=>((toldOf (iW s k).2).length:Int)::(toldOf (iW s k).2++tD (iW s k).1 ks)
variable{v6:List Int}
def NB(D:v6.all (λA=>rW A 8)=I):gu (v6.map λG=>e0 G.toNat)=v6:=by
 unfold gu;rw [d6];refine(gE λA M=>?_).trans (nW v6);have:=js.mp D A M
 unfold rW at this;simp [bx,j5]at this;grind [zL]
def NC(D:v6.all (λz=>rW z 8)=I):Tv v6=I:=by
 unfold Tv;rw [js]at D⊢;intro z G;have:=D z G
 unfold rW at this;simp only [bx,j5]at this⊢
 lia
variable{v0:Int}
def lN(A:vi v0=I):inR v0:=by simp_all [vi,inR]
variable{V6 c:List (List Int)}{PP:List Int}{n k:Nat}
def q8(D:jv v0=Y (n,k))(z:qh jv (v0::v6)=Y (c,PP)):∃V6,¬v6.length<n/\vj k (v6.drop n)=Y (V6,PP)/\c=(v0::v6.take n)::V6:=by
 simp only [qh,D]at z;by_cases A:v6.length<n
 .rw [ai A]at z;cases z
 rw [N A]at z;cases a:vj k (v6.drop n)with
 |none=>rw [a]at z;cases z
 |some y=>
  rw [a]at z;cases z;exists y.1,A,S,S
def q9(z:jv v0=Y (0,0))(A:qh jv (v0::v6)=Y (c,PP)):c=[[v0]]/\v6=PP:=by let⟨V6,_,D,rfl⟩:=q8 z A;cases D;exists S,S
def ra(A:jv v0=Y (1,0))(D:qh jv (v0::v6)=Y (c,PP)):∃z,v6=z::PP/\c=[[v0,z]]:=by
 let⟨V6,G,M,rfl⟩:=q8 A D;cases M;cases v6 with
 |nil=>exact absurd Tw G
 |cons z v6=>exists z,S,S
variable{WL WU:List Int}
def CY(z:vj 1 WL=Y (V6,WU)):∃PP,WL=(PP.length:Int)::(PP++WU)/\V6=[PP]:=by
 cases WL with
 |nil=>cases z
 |cons t v6=>
  by_cases A:0<=t/\t.toNat<=v6.length
  .simp only [vj,show Tx (t::v6)=Y (v6.take t.toNat,v6.drop t.toNat)from ai A]at z;cases z;exists v6.take t.toNat,by rw [vk,dU,ik A.2,Int.toNat_of_nonneg A.1],S
  .simp only [vj,show Tx (t::v6)=O from N A]at z;cases z
def call_text(A:((v6.all (λ(D:Int)=>rW D 8))&&decide (v6.length<=2000))=I):∃y,Hu v6=Y y/\gu y=v6/\(y.length:Int)=v6.length/\y.length<=2000:=by rw [bx]at A;exact⟨_,ai (NC A.1),NB A.1,by rw [z],by rw [z];exact eB A.2⟩
def call_one{c:List (List Int)}(z:qh jv v6=Y (c,PP))(D:Tz (mh c)=I):∃h,q7 v6 h PP/\VF (mh c)=Y h:=by
 cases v6 with
 |nil=>cases z
 |cons p a=>
 by_cases i:p=0
 .subst i;let⟨j,_,G,rfl⟩:=q8 (n:=0) (k:=1) S z;let⟨T,rfl,rfl⟩:=CY G;let⟨y,b,d,e,f⟩:=call_text D;exists .program y,⟨by rw [e,d],f⟩,?_;show(Hu T).map _=_
  rw [b];rfl
 by_cases G:p=2
 .subst G;let⟨j,N,G,rfl⟩:=q8 (n:=2) (k:=0) S z;cases G
  match a,N,D with
  |A::l::a,_,D=>
   have M:(vi A&&vi l)=I:=D;rw [bx]at M;exists .set A l,⟨S,lN M.1,lN M.2⟩,S
  |[A],z,_=>exact absurd (pW _) z
  |[],z,_=>exact absurd (Nat.zero_lt_succ _) z
 by_cases m:p=10
 .subst m;let⟨j,N,G,rfl⟩:=q8 (n:=1) (k:=1) S z
  match a,N,G,D with
  |A::a,_,G,D=>
   let⟨T,rfl,rfl⟩:=CY G;have M:(vi A&&((T.all (λ(B:Int)=>rW B 8))&&decide (T.length<=2000)))=I:=D
   rw [bx]at M;let⟨y,b,d,e,f⟩:=call_text M.2;exists .change A y,⟨by rw [e,d],lN M.1,f⟩,?_;show(Hu T).map _=_
   rw [b];rfl
  |[],z,_,_=>exact absurd Tw z
 by_cases N:p=1
 .subst N;let⟨rfl,rfl⟩:=q9 S z;exists .show_,S,S
 by_cases o:p=3
 .subst o;let⟨A,rfl,rfl⟩:=ra S z;exists .arrows A,⟨S,lN D⟩,S
 by_cases q:p=4
 .subst q;let⟨rfl,rfl⟩:=q9 S z;exists .counts,S,S
 by_cases r:p=5
 .subst r;let⟨A,rfl,rfl⟩:=ra S z;exists .class_ A,⟨S,lN D⟩,S
 by_cases s:p=6
 .subst s;let⟨rfl,rfl⟩:=q9 S z;exists .classes,S,S
 by_cases t:p=7
 .subst t;let⟨A,rfl,rfl⟩:=ra S z;exists .ask A,⟨S,lN D⟩,S
 by_cases u:p=8
 .subst u;let⟨A,rfl,rfl⟩:=ra S z;exists .funs A,⟨S,lN D⟩,S
 by_cases v:p=9
 .subst v;let⟨A,rfl,rfl⟩:=ra S z;exists .looked A,⟨S,lN D⟩,S
 by_cases w:p=11
 .subst w;let⟨rfl,rfl⟩:=q9 S z;exists .undo,S,S
 by_cases x:p=12
 .subst x;let⟨rfl,rfl⟩:=q9 S z;exists .size,S,S
 simp only [qh,jv,i,N,G,o,q,r,s,t,u,v,m,w,x,ie]at z;cases z
def ND:∀(M:Nat) (D:List Int) (G:List (List (List Int))),zV jv M D=Y G->(G.map mh).all Tz=I->∃N,Calls D N/\N.length=G.length/\∀z,Hv (Hw qi z (G.map mh))=tD z N:=by
 intro M;induction M with
 |zero=>
  intro D G A T;cases D with
  |nil=>cases A;exists [],.nil,S,λ_=>S
  |cons p b=>cases A
 |succ M g=>
  intro D G A T;cases D with
  |nil=>cases A;exists [],.nil,S,λ_=>S
  |cons p b=>
   unfold zV at A;cases d:qh jv (p::b)with
   |none=>grind
   |some y=>
    let⟨c,e⟩:=y;rw [d]at A;dsimp only at A;cases f:zV jv M e with
    |none=>grind
    |some a=>
     rw [f]at A;cases A;rw [aZ,iN,bx]at T;let⟨U,h,i⟩:=call_one d T.1
     let⟨N,j,m,k⟩:=g e a f T.2;exists U::N,.cons h j,by grind,λz=>?_;have l:qi z (mh c)=((iW z U).1,toldOf (iW z U).2):=by unfold qi;rw [i];rfl
     show Hv ((qi z (mh c)).2::Hw qi (qi z (mh c)).1 (a.map mh))=_;rw [l];show _::_++Hv (Hw qi (iW z U).1 (a.map mh))=_
     rw [k];rfl
def NG(D:Hx v6=I):∃A,Calls v6 A/\A.length<=30/\vl v6=tD Hy A/\(vl v6).length<=10000000:=by
 unfold Hx at D;cases a:zV jv v6.length v6 with
 |none=>grind
 |some b=>
  rw [a]at D;simp [bx]at D;let⟨⟨⟨⟨_,S⟩,_⟩,G⟩,T⟩:=D;unfold VG at G;simp only [bx]at G;let⟨A,M,U,N⟩:=ND _ v6 b a G.1
  exists A,M,?_,?_,?_
  .grind
  .unfold vl PyVacfaf.calls;rw [a];exact N _
  simp_all [PyFlat.short]
def bB(z:aj):aa:=⟨(z.map il).toArray⟩
def h5(z:aj):(bB z).length=z.length:=by show(z.map il).toArray.size=z.length;simp
def kF{u:aj}:bB sB=bB u↔sB=u:=by
 constructor
 .intro A;have D:(sB.map il).toArray=(u.map il).toArray:=bD Str.cps A
  have G:sB.map il=u.map il:=by simpa using D
  exact List.map_inj_right (λN S M=>uZ.mp M)|>.mp G
 .intro A;rw [A]
def h6(A:aj):Bool:=A.all λz=>e6 z||z==63
def NH:∀z:UInt8,(e6 z||z==63)=I->TB z.toNat=iT z:=by
 have:∀A:Fin 256,(e6 (e0 A.val)||e0 A.val==63)=I->TB A.val=iT (e0 A.val):=by decide+kernel
 intro z D;have G:e0 z.toNat=z:=zW
 have:=this ⟨z.toNat,zX z⟩;simp only [G]at this;exact this D
def NI:∀z:UInt8,(e6 z||z==63)=I->TC z.toNat=kZ z:=by
 have:∀A:Fin 256,(e6 (e0 A.val)||e0 A.val==63)=I->TC A.val=kZ (e0 A.val):=by decide+kernel
 intro z D;have G:e0 z.toNat=z:=zW
 have:=this ⟨z.toNat,zX z⟩;simp only [G]at this;exact this D
def CZ(D:Nat->Bool)(M:UInt8->Bool)(G:h6 sB=I)(N:∀z:UInt8,(e6 z||z==63)=I->D z.toNat=M z):(bB sB).cps.all D=sB.all M:=by
 show(sB.map il).toArray.all D=sB.all M;unfold h6 at G;rw [List.all_toArray,TF];induction sB with
 |nil=>rfl
 |cons z b a=>
  rw [iN,bx]at G;rw [iN,iN,a G.2];show(D z.toNat&&_)=_
  rw [N z G.1]
def NJ(A:h6 sB=I):zu (bB sB)=(!sB.isEmpty&&sB.all iT):=by unfold zu;rw [CZ _ _ A NH,h5];cases sB<;>rfl
def NK(A:h6 sB=I):zv (bB sB)=(!sB.isEmpty&&sB.all kZ):=by unfold zv;rw [CZ _ _ A NI,h5];cases sB<;>rfl
def top(z:Nat):a8:=VH.main.body.getD z (.Pass ⟨0,0,0,0⟩)
abbrev C0:a8:=top 22
abbrev C1:a8:=top 23
def gK:List (Key×V):=[(.inr "fun",.int 1),(.inr "let",.int 2),(.inr "if",.int 3),(.inr "pair",.int 2),(.inr "fst",.int 1),(.inr "snd",.int 1),(.inr "new",.int 1),(.inr "get",.int 1),(.inr "set",.int 2),(.inr "add",.int 2),(.inr "a call",.int 2)]
inductive C2 (z:List V) (H:U) (A:VK) (D:XK):Prop
 |mk(t:aj)(_:z=[.str (bB t)])(_:h6 t=I)(_:t.length<=10000)(_:A (.bl (isNum t)) H)
def xx:(dO "0")=bB [48]:=by decide+kernel
variable{L:aa->Option J}{d:Z}{pc:bc}{wT:dD}{m:aw}{p:au}{P:aD}{K:af}
def NL(f:a9 K "is_number" "is_number" C0 d pc)(g:L "len"=O)(i:L "MOST_DIGITS"=Y (.int 2 wT)):f_ 1 d pc ["word"] C2:=by
 refine f.go ["word"] λt u x y H B C E G k _ _ _=>?_;let⟨z,rfl,l,e,D⟩:=k;have Q:z.length<=aU:=cu e (by decide)
 exists _,ar (bK (bS cT (T 0) dP (bV _)) (ay (aQ hx)) bQ) (ay (aQ (r8 (Bc PySem.F.slot_str_isdigit PySem.F.type_str_isdigit KA (T 0)) (r8 (oj vH (cR vV (by rfl) g dE (aJ 0)) (b7 i) (bV _)) (z6 (oj qv (cc JB (T 0) cL (λ_ _=>S)) dP (bV _))))))),?_;exists _,S,S,_,S,eb (λU=>?_) (λU=>?_)
 .have b:z=[48]:=by
   have:=eB U;injection this with this;rw [xx]at this;exact kF.mp this
  subst b;exact D
 .have b:¬z=[48]:=λA=>U (cq (by rw [A,<-xx]));have n:isNum z=((!z.isEmpty&&z.all iT)&&(decide (z.length<=2)&&z.head? !=Y 48)):=by
   unfold isNum;rw [show(z==[48])=ao by simpa using b,zj,TH]
  rw [n]at D;exists _,S,⟨_,S⟩,_,S,S,j2,_,S,?_;rw [NJ l];refine eb (λM=>?_) (λM=>?_)
  .rw [M,rX]at D;exists _,S,_,S,by rwa [h5],_,_,S,S,_,S,?_;rw [h5];have o:decide ((z.length:Int)<=2)=decide (z.length<=2):=by
    rw [hb]
    lia
   rw [o];refine eb (λc=>?_) (λc=>?_)
   .rw [c,rX]at D;cases z with
    |nil=>simp at M
    |cons a h=>
     exists _,S,_,_,_,S,S,by rwa [h5],e2 (j:=0) (v:=a.toNat) S,S,?_;have q:(!decide (V.str ⟨#[a.toNat]⟩=V.str (dO "0")))=((a::h).head? !=Y 48):=by
      rw [xx];have:(V.str ⟨#[a.toNat]⟩=V.str (bB [48]))↔a=48:=by
       constructor
       .intro A;injection A with A;have:bB [a]=bB [48]:=A
        have:=kF.mp this;injection this
       .intro A;rw [A];rfl
      by_cases N:a=48
      .rw [cq (this.mpr N),N];rfl
      .rw [bU λA=>N (this.mp A)];simp [N]
     rwa [q]
   .have r:decide (z.length<=2)=ao:=by simpa using c
    rw [r,ux]at D;exact D
  .have s:(!z.isEmpty&&z.all iT)=ao:=by simpa using M
   rw [s,ux]at D;exact D
def NM:∀z:Fm,ek z=ao->z≠.call->cU gK (.inr (bB (fz z)))=Y (.int (arity z)):=by intro z A D;cases z<;>first|exact absurd A (by decide)|exact absurd rfl D|decide+kernel
def NN(m:h6 sB=I)(U:¬(32:UInt8)∈sB)(N:ed sB=O):cU gK (.inr (bB sB))=O:=by
 unfold cU gK;unfold ed at N;rw [nP]at N;rw [nP.mpr]
 .rfl
 .intro n T;simp only [bg,gR,g8]at T;have A:∀M:Fm,M∈[Fm.fn,.letE,.ifz,.pair,.fst,.snd,.new,.get,.set,.add]->¬(kO (bB (fz M)):Key)=kO (bB sB):=λM a z=>by
   injection z with z;exact N M a (by rw [kF.mp z];simp)
  have b:dO "fun"=bB (fz .fn):=by decide+kernel
  have c:dO "let"=bB (fz .letE):=by decide+kernel
  have d:dO "if"=bB (fz .ifz):=by decide+kernel
  have e:dO "pair"=bB (fz .pair):=by decide+kernel
  have f:dO "fst"=bB (fz .fst):=by decide+kernel
  have g:dO "snd"=bB (fz .snd):=by decide+kernel
  have h:dO "new"=bB (fz .new):=by decide+kernel
  have i:dO "get"=bB (fz .get):=by decide+kernel
  have j:dO "set"=bB (fz .set):=by decide+kernel
  have k:dO "add"=bB (fz .add):=by decide+kernel
  have l:dO "a call"=bB [97,32,99,97,108,108]:=by decide+kernel
  rw [b,c,d,e,f,g,h,i,j,k,l]at T;rcases T with rfl|rfl|rfl|rfl|rfl|rfl|rfl|rfl|rfl|rfl|rfl
  all_goals (intro z;have z:=eB z;dsimp only at z)
  .exact A .fn (by simp) z
  .exact A .letE (by simp) z
  .exact A .ifz (by simp) z
  .exact A .pair (by simp) z
  .exact A .fst (by simp) z
  .exact A .snd (by simp) z
  .exact A .new (by simp) z
  .exact A .get (by simp) z
  .exact A .set (by simp) z
  .exact A .add (by simp) z
  .injection z with z;apply U;rw [<-kF.mp z];decide
def C3(N:h6 sB=I)(T:¬(32:UInt8)∈sB):cU gK (.inr (bB sB))=(ed sB).map λA=>V.int (arity A):=by
 cases a:ed sB with
 |none=>exact NN N T a
 |some A=>
  have D:=fq a;have U:fz A=sB:=by have:=mc a;simpa using this
  have M:ek A=ao/\A≠.call:=by simp only [bg,gR,g8]at D;rcases D with rfl|rfl|rfl|rfl|rfl|rfl|rfl|rfl|rfl|rfl<;>decide
  rw [<-U];exact NM A M.1 M.2
inductive xy (z:List V) (H:U) (A:VK) (D:XK):Prop
 |mk(t:aj)(_:z=[.str (bB t)])(_:h6 t=I)(_:t.length<=10000)(_:A (.bl (h4 t)) H)
variable{q:Z}
def NO(c:a9 K "is_name" "is_name" C1 q pc)(M:L "len"=O)(f:L "MOST_LETTERS"=Y (.int 4 wT))(g:L "PARTS"=Y (.ref d))(h:KD K m p d gK):f_ 1 q pc ["word"] xy:=by
 refine c.go ["word"] λa r s t H u x y B i _ _ _=>?_;let⟨z,rfl,b,j,A⟩:=i;have C:z.length<=aU:=cu j (by decide)
 exists _,ay (aQ (r8 (Bc PySem.F.slot_str_isalpha PySem.F.type_str_isalpha KC (T 0)) (r8 (oj vH (cR vV (by rfl) M dE (aJ 0)) (b7 f) (bV _)) (z6 (H5 (Bn (T 0) (ei (v:=.ref d) S g S))))))),?_;have k:h4 z=((!z.isEmpty&&z.all kZ)&&(decide (z.length<=4)&&(ed z).isNone)):=by unfold h4;rw [TH]
 rw [k]at A;exists _,S,⟨_,S⟩,_,S,S,j2,_,S,?_;rw [NK b];refine eb (λD=>?_) (λD=>?_)
 .have l:¬(32:UInt8)∈z:=λG=>by
   rw [bx]at D;have:=js.mp D.2 32 G
   revert this;decide
  rw [D,rX]at A;exists _,S,_,S,by rwa [h5],_,_,S,S,_,S,?_;rw [h5];have n:decide ((z.length:Int)<=4)=decide (z.length<=4):=by
   rw [hb]
   lia
  rw [n];refine eb (λN=>?_) (λN=>?_)
  .rw [N,rX]at A;exists _,S,d,_,S,⟨gK,.inr (bB z),h,S,S⟩,?_;rw [C3 b l,kU];have:(!(ed z).isSome)=(ed z).isNone:=by cases ed z<;>rfl
   rwa [this]
  .have o:decide (z.length<=4)=ao:=by simpa using N
   rw [o,ux]at A;exact A
 .have U:(!z.isEmpty&&z.all kZ)=ao:=by simpa using D
  rw [U,ux]at A;exact A
variable{s4:L2.St}{Gc:Ends}{FM:TG}{Ix:TS}
def C4{x:aa}{H:U}(M:Nat->L2.St->U->Prop)(l:M 0 s4 H)(m:∀z c s4 H,x.cps[z]?=Y c->M z s4 H->FM (.str ⟨#[c]⟩) s4 H λT a=>Ix (Gc.lp (M (z+1))) T a) (n:∀s4 H,M x.cps.size s4 H->Gc.nx s4 H):∃b:Nat->Nat->L2.St->U->Prop,(∃D,b 0 D s4 H)/\∀z D s4 H,b z D s4 H->((qH x).stop z H/\Gc.nx s4 H)\/((qH x).go z H/\∃h:L2.St->U->Prop,(∀d G,h d G->∃i,i<D/\b (z+1) i d G)/\∀v G,(qH x).hc z H v G->FM v s4 G λT a=>Ix (Gc.lp h) T a):=by
 exists λz D s4 H=>D=x.cps.size-z/\z<=x.cps.size/\M z s4 H,⟨x.cps.size,by simp,cP _,l⟩,?_;rintro z D s4 H ⟨rfl,q,j⟩;by_cases k:z<x.cps.size
 .refine .inr ⟨k,M (z+1),λd G o=>⟨x.cps.size-(z+1),by lia,S,k,o⟩,λv G y=>?_⟩;let⟨e,c,p,rfl⟩:=y;subst e;exact m z c s4 _ p j
 .have e:z=x.cps.size:=by lia
  subst e;exact .inl ⟨aR _,n s4 H j⟩
def NP(z:aj)(A:UInt8):bB z++⟨#[A.toNat]⟩=bB (z++[A]):=by show(⟨(z.map il).toArray++ #[A.toNat]⟩:aa)=⟨((z++[A]).map il).toArray⟩;simp
theorem C5(z:UInt8):(⟨#[z.toNat]⟩:aa)=bB [z]:=rfl
def iF:(dO "")=bB []:=by decide+kernel
def C6{c:Nat}(M:(bB sB).cps[t]?=Y c):∃G,sB[t]?=Y G/\c=G.toNat:=by
 have z:(sB.map il)[t]?=Y c:=by simpa [bB]using M
 rw [bh]at z;cases a:sB[t]? with
 |none=>rw [a]at z;cases z
 |some G=>rw [a]at z;exists G,S,(aS z).symm
theorem C7(z:aj):(bB z).cps.size=z.length:=h5 z
def NQ:∀z:UInt8,decide (z.toNat∈(dO " ()").cps.toList)=fH z:=by
 have:∀A:Fin 256,decide (A.val∈(dO " ()").cps.toList)=fH (e0 A.val):=by decide+kernel
 intro z;have D:e0 z.toNat=z:=zW
 have:=this ⟨z.toNat,zX z⟩;simp only [D]at this;exact this
def eM:List aj->aj->aj->List aj×aj
 |ws,w,[]=>(ws,w)
 |ws,w,a::b=>if fH a=I then eM (ws++(if w.isEmpty=I then []else [w])++[[a]]) [] b else eM ws (w++[a]) b
theorem xA(G:UInt8):∀(z A:aj) (D:List aj),eM D A (z++[G])=if fH G=I then((eM D A z).1++(if(eM D A z).2.isEmpty=I then []else [(eM D A z).2])++[[G]],[])else((eM D A z).1,(eM D A z).2++[G])
 |[],A,D=>by rw [dh,eM];rfl
 |c::z,A,D=>by
  rw [dg,eM,eM];split
  .exact xA G z _ _
  .exact xA G z _ _
theorem xB:∀(z A:aj) (D:List aj),(eM D A z).1++(if(eM D A z).2.isEmpty=I then []else [(eM D A z).2])=D++bY A z
 |[],A,D=>by rw [bY];rfl
 |c::z,A,D=>by
  rw [eM,bY];split
  .rw [xB z];simp
  .rw [xB z]
theorem tE:∀(A z:aj) (D:List aj),(eM D z A).1.length+(eM D z A).2.length<=D.length+z.length+2*A.length
 |[],z,D=>by rw [eM];simp
 |c::A,z,D=>by
  rw [eM];split
  .refine cu (tE A _ _) ?_;by_cases G:z.isEmpty=I
   .rw [ai G];simp;lia
   .rw [N G];have:z.length≠0:=λM=>G (by rw [kX.mp M];rfl)
    simp;lia
  .refine cu (tE A _ _) ?_;simp;lia
abbrev C8:a8:=top 25
inductive C9 (D:List V) (H:U) (M:VK) (N:XK):Prop
 |mk(t:aj)(_:D=[.str (bB t)])(_:t.length<=10000)(_:∀p z,(∀A o,H A=Y o->z A=Y o)->H p=O->z p=Y (.lst ((bY [] t).map λx=>V.str (bB x)))->M (.ref p) z)
def NS(Q:a9 K "words_of" "words_of" C8 d pc):f_ 1 d pc ["signs"] C9:=by
 refine Q.go ["signs","words","begun","sign"] λam an ap as H a0 a1 a2 a3 R w _ sz=>?_;let⟨D,rfl,a4,r⟩:=R;exists _,ar (bj 1 w (de aC)) (ar (bj 2 w dP) (ar (d3 dZ S (AX (T 0)) (bX 3 w) (ar (bK (bS KJ (T 3) dP S) (ar (z9 (i:=2) w S (zx S) (T 3) I4) (ay Ii)) bQ) (ar (bK (bS qv (T 2) dP (bV _)) (ar (cM (fe fu gb gF fR (T 1) (aJ 2))) (ay (bj 2 w dP))) bQ) (ay (cM (fe fu gb gF fR (T 1) (aJ 3))))))) (ar (bK (bS qv (T 2) dP (bV _)) (ay (cM (fe fu gb gF fR (T 1) (aJ 2)))) bQ) (ay (aQ (T 1)))))),?_;exists cP _,λb k=>?_;exists _,S,_,S,?_;let E:VLx:=λh s n=>∃t,A3 (s=[Y (.str (bB D)),Y (.ref b),Y (.str (bB (eM [] [] (D.take h)).2)),t]) (n b=Y (.lst ((eM [] [] (D.take h)).1.map λu=>V.str (bB u)))) (∀C o,H C=Y o->n C=Y o)
 refine C4 (x:=bB D) E ?_ ?_ ?_
 .refine⟨O,?_,?_,?_⟩
  .rw [mi,eM,<-iF];rfl
  .rw [mi,eM,M];rfl
  .intro C o A;rw [ah (by intro j;rw [j,k]at A;cases A)];exact A
 .rintro h c s n W ⟨t,rfl,e,l⟩;let⟨C,B,rfl⟩:=C6 W;have X:=(cF.mp B).1
  have ab:D.take (h+1)=D.take h++[C]:=by rw [dq,B];rfl
  have G:=tE (D.take h) [] [];rw [dU,ik (y1 X)]at G;simp only [iP,uQ]at G;dsimp only [E];rw [ab,xA];generalize eM [] [] (D.take h)=v at*;let⟨y,a⟩:=v;dsimp only at*;exists _,S,_,_,S,S,_,S,?_;rw [NQ];cases hd:fH C with
  |false=>
   exists _,S,_,S,_,_,S,S,?_,?_
   .rw [h5];show a.length+1<=aU;lia
   .refine⟨Y (.str ⟨#[C.toNat]⟩),?_,?_,l⟩
    .rw [N (by decide),<-NP];rfl
    .rwa [N (by decide)]
  |true=>
   exists _,S,S,_,S,eb (λA=>?_) (λA=>?_)
   .have f:a.isEmpty=ao:=by
     cases a with
     |nil=>rw [iF]at A;simp at A
     |cons=>rfl
    have hw:=List.isEmpty_eq_false_iff.mp f;exists _,S,.inl ⟨S,_,av.of e⟩,_,S,b,_,_,S,S,e,by rw [z];lia,?_;exists _,S,.inl ⟨S,_,av.of (M)⟩,_,S,b,_,_,S,S,M,by rw [br,z];show y.length+1<_;lia,?_;exists Y (.str ⟨#[C.toNat]⟩),?_,?_,?_
    .rw [ai S,iF];rfl
    .rw [ai S,M,f];simp [C5]
    .intro g o A;have:g≠b:=by intro j;rw [j,k]at A;cases A
     rw [ah this,ah this];exact l g o A
   .have f:a=[]:=by
     cases a with
     |nil=>rfl
     |cons u ad=>exact(A (by rw [iF];simp [kF])).elim
    subst f;exists _,S,.inl ⟨S,_,av.of e⟩,_,S,b,_,_,S,S,e,by rw [z];lia,?_;exists Y (.str ⟨#[C.toNat]⟩),?_,?_,?_
    .rw [ai S];rfl
    .rw [ai S,M];simp [C5]
    .intro g o A;have:g≠b:=by intro j;rw [j,k]at A;cases A
     rw [ah this];exact l g o A
 .rintro s n ⟨t,rfl,e,l⟩;rw [C7,dB]at*;have G:=tE D [] []
  simp only [iP,uQ]at G;have q:=xB D [] []
  rw [dh]at q;generalize eM [] [] D=v at*;let⟨y,a⟩:=v;dsimp only at*;exists _,S,S,_,S,eb (λA=>?_) (λA=>?_)
  .have f:a.isEmpty=ao:=by
    cases a with
    |nil=>rw [iF]at A;simp at A
    |cons=>rfl
   rw [f]at q;exists _,S,.inl ⟨S,_,av.of e⟩,_,S,b,_,_,S,S,e,by rw [z];lia,_,S,r _ _ (λg o A=>?_) k ?_
   .have:g≠b:=by intro j;rw [j,k]at A;cases A
    rw [ah this];exact l g o A
   .rw [M,<-q,aT];rfl
  .have f:a=[]:=by
    cases a with
    |nil=>rfl
    |cons u ad=>exact(A (by rw [iF];simp [kF])).elim
   subst f;have al:y=bY [] D:=by simpa using q
   rw [<-al]at r;exists _,S,r _ _ l k e
abbrev Dc:a8:=inClass (top 21) 1
abbrev Dd:a8:=inClass (top 21) 2
abbrev De:a8:=inClass (top 21) 3
def kG(z:Z)(A D:Int)(G M:Z):List (aa×V):=[("words",.ref z),("at",.int A),("signs_taken",.int D),("nodes",.ref G),("around",.ref M)]
theorem tF{a i n b c}:(kG a i n b c).lookup ("at":aa)=Y (.int i):=rfl
theorem tG{a i n b c}:(kG a i n b c).lookup ("words":aa)=Y (.ref a):=rfl
theorem xC{a i n b c}:(kG a i n b c).lookup ("signs_taken":aa)=Y (.int n):=rfl
theorem nc{b i n a c}:(kG b i n a c).lookup ("nodes":aa)=Y (.ref a):=rfl
theorem lO{b i n c a}:(kG b i n c a).lookup ("around":aa)=Y (.ref a):=rfl
variable{nw:aa}
def gv{a i n b c}(A:nw="peek"\/nw="take"\/nw="pass_over"\/nw="begin_node"\/nw="read_head"\/nw="read_bracketed_head"\/nw="read_on"):(kG a i n b c).lookup nw=O:=by rcases A with rfl|rfl|rfl|rfl|rfl|rfl|rfl<;>rfl
structure kH(K:af)(z:Z):Prop where
 cl:fc K z
 at_:dF K z "at"
 words:dF K z "words"
 taken:dF K z "signs_taken"
 nodes:dF K z "nodes"
 around:dF K z "around"
def wordAt(z:List aj)(A:Nat):aj:=z.getD A []
def rb(D:t<wr.length):wr[t]?=Y (wordAt wr t):=by unfold wordAt;rw [Hz,gf D];rfl
def kI(D:wr.length<=t):wordAt wr t=[]:=by unfold wordAt;rw [Hz,GG D];rfl
def jP(z:List aj)(A:Nat):Nat:=fl (z.take A)
def NU(z:List aj)(D:t<=z.length):jP z (jw (t+1) z.length)=jP z t+(wordAt z t).length:=by
 unfold jP;by_cases c:t<z.length
 .rw [ik c,dq,rb c,kD];show _+fl [wordAt z t]=_
  rw [o8,MT,j9]
 .rw [n7 (by lia),kI (by lia),iP,j9];have:t=z.length:=by lia
  rw [this]
def hL(N:Z)(H:U)(S M T a:Z)(z:List aj)(A:Nat):Prop:=(∃b,H S=Y (.ins N b (kG M A (jP z A) T a)))/\H M=Y (.lst (z.map λD=>V.str (bB D)))/\A<=z.length/\z.length<20000/\∀D∈z,D.length<=10000
def xD(D:∀M∈wr,M.length<=10000)(A:Nat):(wordAt wr A).length<=10000:=by
 by_cases c:A<wr.length
 .exact D _ (cG (rb c))
 .rw [kI (by lia)];exact cP _
inductive xE (z:Z) (A:List V) (H:U) (D:VK) (M:XK):Prop
 |mk(a lw ln b ws i:_)(_:A=[.ref a])(_:hL z H a lw ln b ws i)(_:D (.str (bB (wordAt ws i))) H)
def NV{c:Z}(j:a9 K "peek" "Reading.peek" Dc c pc)(D:kH K d)(k:L "len"=O):f_ 1 c pc ["self"] (xE d):=by
 refine j.go ["self"] λo G q r H s t u v l _ _ _=>?_;let⟨N,e,x,y,f,g,rfl,⟨⟨T,U⟩,h,M,B,_⟩,a⟩:=l;exists _,ar (bK (bS cT (aF 0) (cR ej (by rfl) k dE (A (aF 0) aC)) (bV _)) (ay (aQ dP)) bQ) (ay (aQ (cc dk (aF 0) (aF 0) (λ_ _=>S)))),?_;exists _,S,N,d,T,_,_,S,U,D.cl,D.at_,tF,_,S,N,d,T,_,_,S,U,D.cl,D.words,tG,e,_,S,.inl (av.of h),S,_,S,eb (λb=>?_) (λb=>?_)
 .have i:g=f.length:=by
   have:=eB b;injection this with this;rw [z]at this
   lia
  rw [kI (by lia),<-iF]at a;exact a
 .have i:g<f.length:=by
   refine Nat.lt_of_le_of_ne M λn=>b (cq ?_);rw [z,n]
  exists _,S,N,d,T,_,_,S,U,D.cl,D.words,tG,_,S,N,d,T,_,_,S,U,D.cl,D.at_,tF,e,_,_,_,S,S,av.of h,e2 (by rw [bh,rb i];rfl),a
def bN(A:Z)(H D:U):Prop:=∀z o,H z=Y o->z≠A->D z=Y o
inductive tH (A:Z) (D:List V) (H:U) (M:VK) (N:XK):Prop
 |mk(a lw ln b ws i:_)(_:D=[.ref a])(_:hL A H a lw ln b ws i)(_:∀z,hL A z a lw ln b ws (jw (i+1) ws.length)->bN a H z->M (.str (bB (wordAt ws i))) z)
def NW(g:a9 K "take" "Reading.take" Dd q pc)(N:kH K d)(h:L "len"=O)(w:L "min"=O)(r:h_ 1 d "peek" ["self"] (xE d)):f_ 2 q pc ["self"] (tH d):=by
 refine g.go ["self","word"] λD Q R W H X ab ad s t u _ sz=>?_;let⟨a,i,v,x,b,c,rfl,j,y⟩:=t;let⟨⟨U,G⟩,k,B,C,l⟩:=id j;exists _,ar (bj 1 u (dR (T 0) r s cx)) (ar (dQ (T 0) (cR (I5 S) (by rfl) w (by decide+kernel) (A (hg se (aF 0) cL) (A (cR ej (by rfl) h dE (A (aF 0) aC)) aC))) S) (ar (vN (T 0) (cR vV (by rfl) h dE (aJ 1)) vO) (ay (aQ (T 1))))),?_;exists _,S,a,U,_,S,G,gv (.inl S),a,i,v,x,b,c,S,j,?_;exists _,S,a,d,U,_,_,S,G,N.cl,N.at_,tF,_,_,S,S,_,S,a,d,U,_,_,S,G,N.cl,N.words,tG,i,_,S,.inl (av.of k),_,_,S,_,S,a,d,U,_,S,G,N.cl,N.at_,(by show 5<1000;decide),?_;have E:(if((b.map λe=>V.str (bB e)).length:Int)<(c:Int)+1 then((b.map λe=>V.str (bB e)).length:Int)else(c:Int)+1)=((jw (c+1) b.length:Nat):Int):=by rw [z];split<;>lia
 have f:=cW k G (by intro F;cases F);have al:=xD l c
 exists _,S,a,d,U,_,_,S,M,N.cl,N.taken,S,_,S,_,S,by rw [h5];lia,_,_,S,S,U,_,M,(by show 5<1000;decide),_,S,?_;refine y _ ⟨⟨U,?_⟩,by rwa [ah f,ah f],Nat.min_le_right _ _,C,l⟩ λam o an n=>by rwa [ah n,ah n]
 rw [M];rw [E,h5,NU b B];rfl
inductive xF (A D:Z) (M:List V) (H:U) (N:VK) (S:XK):Prop
 |mk(a lw ln b ws i x:_)(_:M=[.ref a,.str (bB x)])(_:hL A H a lw ln b ws i)(_:∀z,hL A z a lw ln b ws (jw (i+1) ws.length)->bN a H z->if wordAt ws i=x then N .bw z else S (.ref D) O z)
variable{Q:Z}
def NX(g:a9 K "pass_over" "Reading.pass_over" De Q pc)(h:h_ 2 d "take" ["self"] (tH d))(i:L "NoProgram"=Y (.ref q))(j:gP K q fV "Exception.__new__"=I):k_ 3 Q pc ["self","word"] (xF d q):=by
 refine g.et ["self","word"] λx B C D H M R V b k _ _ _=>?_;let⟨c,l,G,n,w,e,o,rfl,f,U⟩:=k;let⟨⟨a,r⟩,X,ab,ad⟩:=id f;exists _,ay (bK (bS qv (dR (E:=E0) (T 0) h b cx) (T 1) (bV _)) (ay (jH j8 (by decide) j S i b.hd)) bQ),?_;exists _,S,c,a,_,S,r,gv (.inr (.inl S)),c,l,G,n,w,e,S,f,λs t u=>⟨_,S,S,_,S,?_⟩;have z:=U s t u
 by_cases A:wordAt w e=o
 .rw [ai A]at z;subst A;exact KQ S z
 .rw [N A]at z;refine eb (λ_=>z) λv=>?_;exfalso;apply v;rw [bU (λy=>A (by injection y with y;exact kF.mp y))];rfl
def ji:aj:=az " ()0123456789abcdefghijklmnopqrstuvwxyz"
def sig_str:(dO " ()0123456789abcdefghijklmnopqrstuvwxyz")=bB ji:=by decide+kernel
def nf(A:aj):List (Key×V):=A.map λz=>(.inl (z.toNat:Int),.str (bB [z]))
variable{KE:List (Key×V)}
def AQ{A:Key}{v:V}(D:(KE.any λG=>decide (G.1=A))=ao):putK KE A v=KE++[(A,v)]:=by unfold putK;rw [D];rfl
def NY:∀z:Fin 39,((nf (ji.take z.val)).any λA=>decide (A.1=(.inl ((ji.getD z.val 0).toNat:Int))))=ao:=by decide+kernel
def NZ:∀z:UInt8,((cU (nf ji) (.inl (z.toNat:Int))).getD (.str (dO "?")))=.str (bB [norm z]):=by
 have:∀A:Fin 256,((cU (nf ji) (.inl (A.val:Int))).getD (.str (dO "?")))=.str (bB [norm (e0 A.val)]):=by decide+kernel
 intro z;have D:e0 z.toNat=z:=zW
 have:=this ⟨z.toNat,zX z⟩;simp only [D]at this;exact this
theorem Df:∀A:aj,GR (dO "") (A.map λz=>bB [z])=bB A
 |[]=>rfl
 |[z]=>rfl
 |z::c::a=>by
  show bB [z]++dO ""++GR (dO "") ((c::a).map λz=>bB [z])=_;rw [Df (c::a),iF];show(⟨((([z]:aj).map il).toArray++(([]:aj).map il).toArray)++((c::a).map il).toArray⟩:aa)=⟨((z::c::a).map il).toArray⟩
  simp
def join_nil(z:aj):zt (dO "") (z.map λA=>bB [A])=bB z:=by rw [TL.join_eq];exact Df z
abbrev Dg:a8:=top 24
inductive Dh (D:List V) (H:U) (M:VK) (N:XK):Prop
 |mk(a:_)(t:aj)(_:D=[.ref a])(_:H a=Y (.lst (t.map λz=>V.int (z.toNat:Int))))(_:t.length<=10000)(_:∀A,(∀z o,H z=Y o->A z=Y o)->M (.str (bB (t.map norm))) A)
variable{UV:dD}
def N1(am:a9 K "signs_of" "signs_of" Dg d pc)(an:L "ord"=O)(a0:L "SIGNS"=Y (.str " ()0123456789abcdefghijklmnopqrstuvwxyz" wT))(a1:L "NO_SIGN"=Y (.str "?" UV)):f_ 1 d pc ["text"] Dh:=by
 refine am.go ["text","sign_of","sign","byte"] λbi bk bl r H bm bn bs bt a2 n G sz=>?_;let⟨w,a,rfl,Q,bv,a3⟩:=a2;exists _,ar (bj 1 n wk) (ar (d3 dZ S (AX (hl a0)) (bX 2 n) (ay (sA G (T 1) (cR Ai (by rfl) an (by decide+kernel) (aJ 2)) (T 2) S))) (ay (aQ (KI dP (fU (own:=[("byte",3)]) S n (dC (T 0)) (e3 S) (λr H R W X=>bX 3 n) (λr H R W X=>hB) (λr H R W X=>Kq G (T 1) (T 3) (hl a1) ⟨S,S,S,S⟩)))))),?_;intro f ab;exists _,S,?_;rw [sig_str];let s:VLx:=λN t q=>∃v,A3 (t=[Y (.ref w),Y (.ref f),v,O]) (q f=Y (.dK (nf (ji.take N)))) (∀A o,H A=Y o->q A=Y o)
 refine C4 (x:=bB ji) s ?_ ?_ ?_
 .refine⟨O,S,?_,?_⟩
  .rw [M];rfl
  .intro A o D;rw [ah (by intro b;rw [b,ab]at D;cases D)];exact D
 .rintro N c t q a4 ⟨v,rfl,g,h⟩;let⟨A,E,rfl⟩:=C6 a4;have ad:N<39:=(cF.mp E).1
  have y:ji.take (N+1)=ji.take N++[A]:=by rw [dq,E];rfl
  have i:=NY ⟨N,ad⟩;have a5:ji.getD N 0=A:=by rw [Hz,E];rfl
  simp only [a5]at i;exists _,S,_,S,_,S,_,S,S,f,_,S,.inl ⟨_,.inl (A.toNat:Int),g,S,?_,S⟩,?_
  .unfold nf;rw [z,dU]
   lia
  .refine⟨_,S,?_,?_⟩
   .rw [M,AQ i,y];unfold nf;rw [aT];rfl
   .intro c o D;rw [ah (by intro b;rw [b,ab]at D;cases D)];exact h c o D
 .rintro t q ⟨v,rfl,g,h⟩;rw [C7,dB]at g;exists ⟨_,S⟩,_,S,w,S,?_,?_
  .exact⟨_,av.of (h w _ Q)⟩
  .intro j B;have al:f≠j:=by intro b;rw [b,B]at g;cases g
   have i:∀A o,H A=Y o->A≠j:=by intro A o D b;rw [b]at D;rw [h j o D]at B;cases B
   let s:VCx:=λN e=>A3 (e j=Y (.lst ((a.take N).map λA=>V.str (bB [norm A])))) (e f=Y (.dK (nf ji))) (∀A o,H A=Y o->e A=Y o);refine hC (xs:=a.map λA=>V.int (A.toNat:Int)) s ?_ ?_ ?_ ?_
   .refine⟨by rw [M];rfl,ah al▸g,λA o D=>?_⟩;rw [ah (i A o D)];exact h A o D
   .rintro N e ad ⟨_,_,k⟩;exact av.of (k w _ Q)
   .rintro N ca e l ⟨F,C,k⟩;rw [bh]at l;cases E:a[N]? with
    |none=>rw [E]at l;cases l
    |some A=>
     rw [E]at l;obtain rfl:=aS l;have y:a.take (N+1)=a.take N++[A]:=by rw [dq,E];rfl
     exists S,?_;unfold hk;dsimp only [];rw [ai S];exists _,S,f,S,.inl ⟨_,.inl C⟩,_,S,_,.inl ⟨_,.inl (A.toNat:Int),.inl C,S,S⟩,_,F,?_,?_,?_,?_
     .rw [z,dU];lia
     .rw [M,NZ,y,aT];rfl
     .rwa [ah al]
     .intro c o D;rw [ah (i c o D)];exact k c o D
   .rintro e ⟨F,C,k⟩;rw [z,dB]at F;have bd:(a.map λA=>V.str (bB [norm A]))=((a.map norm).map λA=>bB [A]).map V.str:=by
     rw [d6,d6];rfl
    rw [bd]at F;exists _,j,_,S,S,.inl (av.of F),?_,?_
    .rw [z,z,iF,h5];have:∀u:aj,((u.map λA=>bB [A]).map (·.length)).sum=u.length:=by
      intro u;induction u with
      |nil=>rfl
      |cons A cd be=>rw [aZ,aZ,eC,be,h5];simp;lia
     rw [this,z];simp
     lia
    .rw [join_nil];exact a3 e k
def b4(z:Pr):List V:=[.int z.1,.int z.2]
def pk(z:Pr):List Key:=[.inl (z.1:Int),.inl (z.2:Int)]
def lP(D:pk sc=pk Ch):sc=Ch:=by unfold pk at D;injection D with b a;injection b with b;injection a with a _;injection a with a;exact kf (by lia) (by lia)
def Ext(H A:U):Prop:=∀z o,H z=Y o->A z=Y o
theorem Ext.refl(H:U):Ext H H:=λ_ _ z=>z
variable{r s0:U}
theorem Ext.trans{H:U}(G:Ext H r)(M:Ext r s0):Ext H s0:=λD o N=>M D o (G D o N)
theorem Ext.upd{H:U}{o:HO}(G:Ext H r)(M:H d=O):Ext H (upd r d o):=λN u z=>by rw [ah (by intro S;rw [S,M]at z;cases z)];exact G N u z
def Ext.none{H:U}(G:Ext H r)(D:r d=O):H d=O:=by
 cases a:H d with
 |none=>rfl
 |some o=>rw [G d o a]at D;cases D
def Ext.rd{H:U}{o:HO}(G:Ext H r)(z:Rd H d o):Rd r d o:=by
 rcases z with z|⟨u,z⟩
 .exact .inl (G d _ z)
 .exact .inr ⟨u,G d _ z⟩
variable{ul:List V}
theorem Ext.aP{K:af}{H:U}(G:Ext H r)(M:ax K H d ul):ax K r d ul:=M.imp G.rd id
theorem Ext.ee{K:af}{H:U}(G:Ext H r)(M:av K H d ul):av K r d ul:=M.imp G.rd id
variable{pu:bW}
theorem Ext.keys{K:af}{H:U}(D:Ext H r)(G:cb K H pu):cb K r pu:=λM N=>D.aP (G M N)
abbrev fJ(K:af)(H:U):List Z->List Pr->Prop:=cE λz A=>ax K H z (b4 A)
def LstAt(K:af)(H:U)(A:Z)(D:List Pr):Prop:=∃z,av K H A (z.map V.ref)/\fJ K H z D
def fK(D:aw)(G:au)(K:af)(H:U)(A:Z)(M:List Pr):Prop:=∃z,H A=Y (dX D G A z)/\cb K H z/\z.map (·.1)=M.map pk
variable{wf:List Z}
theorem fJ.ext{K:af}{H:U}(G:Ext H r)(M:fJ K H wf re):fJ K r wf re:=Paired.b9 M λ_ _ N=>G.aP N
def LstAt.ext{K:af}{H:U}(G:Ext H r)(M:LstAt K H d re):LstAt K r d re:=by let⟨N,S,T⟩:=M;exists N,G.ee S,fJ.ext G T
def fK.ext{K:af}{H:U}(N:Ext H r)(S:fK m p K H d re):fK m p K r d re:=by let⟨T,a,b,c⟩:=S;exists T,N d _ a,N.keys b,c
def kJ(S:pu.map (·.1)=re.map pk)(G:Pr):(cm pu (pk G)).isSome=decide (G∈re):=by
 unfold cm;rw [kU];rw [ic,List.find?_isSome,n0];constructor
 .rintro⟨M,N,z⟩;have z:=eB z
  have:M.1∈re.map pk:=S▸dY N;let⟨a,b,T⟩:=bH.mp this;rw [z]at T;rwa [<-lP T]
 .intro U;have:pk G∈pu.map (·.1):=S▸dY U
  let⟨M,N,z⟩:=bH.mp this;exists M,N,cq z
theorem ey{D:sK->AC->Prop}:∀{M:List sK} {N:List AC} {S:sK},cE D M N->M[t]?=Y S->∃T,N[t]?=Y T/\D S T:=λU a=>A1 U a
abbrev Di:a8:=top 71
inductive xG (m:aw) (p:au) (K:af) (A:List V) (H:U) (D:VK) (M:XK):Prop
 |mk(a ps:_)(_:A=[.ref a])(_:LstAt K H a ps)(_:ps.Nodup)(_:ps.length<=10000)(_:∀d z,Ext H z->H d=O->fK m p K z d ps->D (.ref d) z)
def N2(Q:a9 K "as_keys" "as_keys" Di d pc):f_ 1 d pc ["sorts"] (xG m p K):=by
 refine Q.go ["sorts","keys","sort"] λas a0 a1 a2 H a3 a4 a5 bd G t R sz=>?_;let⟨u,r,rfl,⟨x,y,B⟩,C,be,W⟩:=G;exists _,ar (bj 1 t ky) (ar (d3 dZ S (dC (T 0)) (bX 2 t) (ay (i4 R (T 1) (T 2) hx S))) (ay (aQ (T 1)))),?_;intro g k;exists _,S,u,S,⟨_,(Ext.upd (Ext.refl H) k).ee y⟩,?_;let X:VLx:=λN l a=>X2 λs A=>A5 (l=[Y (.ref u),Y (.ref g),s]) (a g=Y (dX m p g A)) (cb K a A) (A.map (·.1)=(r.take N).map pk) (Ext H a)
 refine fw (xs:=x.map V.ref) X ?_ ?_ ?_ ?_
 .exact⟨O,[],S,M,λD n=>absurd n gR,S,Ext.upd (Ext.refl H) k⟩
 .rintro N l a _ ⟨s,A,rfl,h,i,b,e⟩;exact e.ee y
 .rintro N bi l a j ⟨s,A,rfl,h,i,b,e⟩;rw [bh]at j;cases q:x[N]? with
  |none=>rw [q]at j;cases j
  |some ab=>
   rw [q]at j;obtain rfl:=aS j;let⟨D,n,ad⟩:=ey B q;have bk:A.length<=r.length:=by
    have:=bD cN b;rw [z,z,dU]at this
    lia
   have E:r.take (N+1)=r.take N++[D]:=by rw [dq,n];rfl
   have al:cm A (pk D)=O:=by
    have:=kJ b D;have am:D∉r.take N:=by
     have F:=(cF.mp n)
     let⟨F,f⟩:=F;rw [<-vk (N+1) r,E]at C;have:=(gC.mp (gC.mp C).1).2.2
     intro an;exact this D an D (bb.mpr S) S
    rw [bU am]at this;cases f:cm A (pk D)with
    |none=>rfl
    |some v=>rw [f]at this;cases this
   have w:=e.aP ad;exists _,S,_,S,g,A,pk D,ab,S,h,i,S,w,by lia,_,_,S,M,?_,?_,?_
   .exact(ly i _ w).same λc bl G=>bF (.inl (h▸trivial)) G
   .rw [iw _ _ al,aT,b,E,aT];rfl
   .intro c o f;rw [ah (by intro ap;rw [ap,k]at f;cases f)];exact e c o f
 .rintro l a ⟨s,A,rfl,h,i,b,e⟩;rw [z,bO B,dB]at b;exists _,S,W g a e k ⟨A,h,i,b⟩
def fk(D:aw)(G:au)(K:af)(H:U):bW->List (Pr×List Pr)->Prop:=cE λz y=>z.1=pk y.1/\∃A,z.2.2=.ref A/\fK D G K H A y.2
def TabAt(D:aw)(G:au)(K:af)(H:U)(A:Z)(M:List (Pr×List Pr)):Prop:=∃z,H A=Y (dX D G A z)/\cb K H z/\fk D G K H z M/\(z.map (·.2.2)).Nodup/\(V.ref A)∉z.map (·.2.2)
variable{Wl:List (Pr×List Pr)}
def TabAt.ext{K:af}{H:U}(A:Ext H r)(S:TabAt m p K H d Wl):TabAt m p K r d Wl:=by let⟨T,a,b,c,z⟩:=S;exists T,A d _ a,A.keys b,Paired.b9 c λj y e=>?_,z;let⟨f,g,h,i⟩:=e;exists f,g,h,i.ext A
theorem fZ{K:af}{H:U}:∀{D:bW} {G:List (Pr×List Pr)},fk m p K H D G->ba G sc=Y re->∃z,cm D (pk sc)=Y (.ref z)/\fK m p K H z re
 |_,_,.nil,a=>by cases a
 |x::D,y::G,.cons d e,a=>by
  let⟨b,z,f,g⟩:=d;unfold ba at a;rw [gc]at a;by_cases c:y.1=sc
  .rw [cq c]at a;obtain rfl:=aS a;exists z,?_,g;unfold cm;rw [gc,cq (by rw [b,c])];show Y x.2.2=_
   rw [f]
  .rw [bU c]at a;let⟨h,i,j⟩:=fZ e a;exists h,?_,j;unfold cm;rw [gc,bU (by rw [b];exactλk=>c (lP k))];exact i
def h7(A:Z)(H:U)(D:Z)(G:aa)(v:V):Prop:=∃M z,H D=Y (.ins A M z)/\z.lookup G=Y v
def h7.ext{H:U}{v:V}(M:Ext H r)(N:h7 q H d nw v):h7 q r d nw v:=by let⟨S,T,a,b⟩:=N;exists S,T,M d _ a,b
theorem fL{D:sK->AC->Prop}:∀{G:List sK} {M:List AC} {N:sK} {S:AC},cE D G M->D N S->cE D (G++[N]) (M++[S])
 |_,_,_,_,.nil,a=>.cons a .nil
 |_,_,_,_,.cons b c,a=>.cons b (fL c a)
variable{h:Cx}{op o:a7}{sw zn:TE}{pv:b2}
def pf(z:aw)(A:au)(K:af)(D:h.A.units+1<cK)(G:PE h o sw)(M:PE h op zn)(N:oA op)(T:h.prog=z:=by rfl)(hw:h.w=A:=by rfl)(U:h.K=K:=by rfl):PE h (.Subscript o op pv) (Bl z A K sw zn):=by subst T hw U;exact ff D G M N
def Dj(z:aw)(A:au)(K:af)(D:h.A.units+1<cK)(G:PE h op zn)(M:PE h o sw)(N:h.prog=z:=by rfl)(hw:h.w=A:=by rfl)(T:h.K=K:=by rfl):PC h .In op o (Bm z A K zn sw):=by subst N hw T;exact wz D G M
def xH(K:af)(z:PE h op sw)(A:j3 op nw h.env (iR op h.env)=iR op h.env)(D:h.K=K:=by rfl):PE h (.Attribute op nw pv) (vM K sw nw):=by subst D;exact fQ z A
def ph(K:af)(z:h.K=K:=by rfl):qy h (AA K):=by subst z;exact ku
abbrev Dk:a8:=top 72
inductive tI (m:aw) (p:au) (K:af) (D:Z) (M:List V) (H:U) (N:VK) (T:XK):Prop
 |mk(P t b ls a tab c ps:_)(_:M=[.ref P,.ref t,.ref b])(_:h7 D H P "sorts" (.ref ls))(_:LstAt K H ls a)(_:a.length<=10000)(_:TabAt m p K H t tab)(_:ax K H b (b4 c))(_:ba tab c=Y ps)(_:∀z A,Ext H A->H z=O->LstAt K A z (a.filter λx=>decide (x∈ps))->(∃S,A z=Y (.lst S))->N (.ref z) A)
def N3(W:a9 K "sorts_at" "sorts_at" Dk q pc)(j:fc K d)(X:dF K d "sorts"):f_ 1 q pc ["program","table","place"] (tI m p K d):=by
 refine W.go ["program","table","place","sort"] λch ci cl r H cn co cr cs ab t u sz=>?_;let⟨v,ad,x,al,g,ct,am,k,rfl,⟨an,ap,as,a0⟩,⟨y,B,C⟩,c0,a1,a2,a3,a4⟩:=ab;exists _,ay (aQ (fU (own:=[("sort",3)]) S t (dC (aF 0)) (e3 S) (λr H d j E=>bX 3 t) (λr H d j E=>kv (i0 (Dj m p K u (T 3) (pf m p K u (T 1) (T 2) (λ_ _=>S))) S)) (λr H d j E=>T 3))),?_;dsimp;exists _,S,v,d,an,ap,_,S,as,j,X,a0,al,S,⟨_,B⟩,λF n=>?_;let b:VCx:=λD w=>(∃a,w F=Y (.lst (a.map V.ref))/\fJ K w a ((g.take D).filter λf=>decide (f∈k))/\a.length<=D)/\Ext H w
 refine hC (xs:=y.map V.ref) b ?_ ?_ ?_ ?_
 .exact⟨⟨[],M,.nil,aR _⟩,Ext.upd (Ext.refl H) n⟩
 .rintro D w a5 ⟨_,A⟩;exact A.ee B
 .rintro D f w h ⟨⟨a,e,i,o⟩,A⟩;rw [bh]at h;cases s:y[D]? with
  |none=>rw [s]at h;cases h
  |some c=>
   rw [s]at h;obtain rfl:=aS h;let⟨l,Q,R⟩:=ey C s;have a5:=(cF.mp Q).1
   have bd:g.take (D+1)=g.take D++[l]:=by rw [dq,Q];rfl
   let⟨be,bi,bk,bl,_⟩:=a1.ext A;let⟨bm,bn,bs,bt,bv,ca⟩:=fZ bl a3;exists S,_,S,_,S,_,S,ad,_,S,⟨be,pk am,x,bi,bk,S,A.aP a2,bn.symm⟩,bm,_,S,⟨bs,pk l,c,bt,bv,S,A.aP R,S⟩,?_;rw [kJ ca];have cd:(g.take (D+1)).filter (λf=>decide (f∈k))=(g.take D).filter (λf=>decide (f∈k))++(if decide (l∈k)=I then [l]else []):=by rw [bd,nV];congr 1;rw [ig,vg]
   dsimp only [b];rw [cd];exists _,S,eb (λG=>?_) (λG=>?_)
   .rw [ai G];exists _,S,_,e,by rw [z];lia,⟨a++[c],?_,?_,br▸qj o 1⟩,?_
    .rw [M,aT];rfl
    .refine fL (Paired.b9 i λx v ce=>?_) ?_
     .exact bF (.inl (e▸trivial)) ce
     .exact bF (.inl (e▸trivial)) (A.aP R)
    .exact Ext.upd A n
   .rw [N G,b0];exists ⟨a,e,i,HA o⟩,A
 .rintro w ⟨⟨a,e,i,o⟩,A⟩;rw [z,bO C,dB]at i;exact a4 F w A n ⟨a,av.of e,i⟩ ⟨_,e⟩
variable{Is:TT}
def rf{c:Z}{o:aL}{aX:bW}{u:U->Prop}(A:Nat->U->Prop)(B:A 0 (upd r d (.lst [])))(C:∀z H,z<=aX.length->A z H->H c=Y (.bP o (dX m p c aX)))(E:∀z b H,aX[z]?=Y b->A z H->FM (.ref b.2.1) (wipe s4 wE) H λD i=>wipe D wE=wipe s4 wE/\Is D i λj T=>if j=I then sw D T λy e=>∃G,e d=Y (.lst G)/\G.length<aU/\A (z+1) (upd e d (.lst (G++[y])))else A (z+1) T) (F:∀H,A aX.length H->u H):∃k:Nat->Nat->U->Prop,(∃M,k 0 M (upd r d (.lst [])))/\∀z M H,k z M H->((lA m p c o aX).stop z H/\u H)\/((lA m p c o aX).go z H/\∃l:U->Prop,(∀N,l N->∃v,v<M/\k (z+1) v N)/\∀a N,(lA m p c o aX).hc z H a N->FM a (wipe s4 wE) N λD i=>wipe D wE=wipe s4 wE/\Is D i λj T=>if j=I then sw D T λy e=>∃G,e d=Y (.lst G)/\G.length<aU/\l (upd e d (.lst (G++[y])))else l T):=by
 exists λz M H=>M=aX.length-z/\z<=aX.length/\A z H,⟨aX.length,by simp,cP _,B⟩,?_;rintro z M H ⟨rfl,K,b⟩;have w:=C z H K b
 by_cases x:z<aX.length
 .refine .inr ⟨⟨w,x⟩,A (z+1),λN n=>⟨aX.length-(z+1),by lia,S,x,n⟩,λa N y=>?_⟩;let⟨f,n,L,rfl⟩:=y;subst f;exact E z n _ L b
 .have f:z=aX.length:=by lia
  subst f;exact .inl ⟨⟨w,aR _⟩,F H b⟩
abbrev Dl:a8:=top 51
inductive xI (m:aw) (p:au) (K:af) (D:List V) (H:U) (M:VK) (N:XK):Prop
 |mk(t tab l k ps:_)(_:D=[.ref t,.int (l:Nat),.int (k:Nat)])(_:TabAt m p K H t tab)(_:ba tab (0,l)=Y ps)(_:ps.length<=10000)(_:∀z A,Ext H A->H z=O->A z=Y (.lst ((dJ k ps).map λx=>V.int (x:Nat)))->M (.ref z) A)
set_option tactic.hygienic true
def N4(bi:a9 K "labels_at" "labels_at" Dl d pc)(bl:L "NODE_PLACE"=Y (.int 0 wT)):f_ 1 d pc ["table","label","kind"] (xI m p K):=by
 refine bi.go ["table","label","kind","sort"] λct c0 c1 E H c2 c3 c4 c5 G am bm sz=>?_;let⟨F,c6,an,j,q,rfl,bn,bs,c7,bt⟩:=G;exists _,ay (mB (aQ (fU (own:=[("sort",3)]) S am (lB (ff bm (T 0) (b6 (A (b7 bl) (aJ 1))) (λ_ _=>S))) (e3 S) (λE H ap as a0=>bX 3 am) (λE H ap as a0=>kv (bS cT (cc (ph K) (T 3) cL (λ_ _=>S)) (T 2) (bV _))) (λE H ap as a0=>cc (ph K) (T 3) cL (λ_ _=>S))))),?_;let⟨a1,a2,bv,ca,c8,cd⟩:=bn;let⟨c,w,r,Q,ce,a3⟩:=fZ ca bs;exists c,_,Q,trivial,λR=>?_;have ch:F≠c:=by
  intro b;apply cd;have:∃e∈a1,e.2.2=.ref c:=by unfold cm at w;let⟨e,k,a⟩:=cv.mp w;exists e,fq k,a
  let⟨e,k,a⟩:=this;rw [b,<-a];exact dY k
 exists _,S,_,S,(by show 2<=aU;decide),λl t=>?_;have x:l≠c:=by intro b;rw [b,M]at t;cases t
 have a4:H l=O:=by rw [ah x]at t;exact t
 have ci:F≠l:=by intro b;rw [b,a4]at a2;cases a2
 let cl:U:=upd (upd H c (.bP R (dX m p c r))) l (.tup [.int 0,.int (an:Nat)]);have a5:∀D f,ax K H D f->ax K cl D f:=λD f G=>bF (.inr t) (bF (.inl (Q▸trivial)) G)
 exists F,_,S,⟨a1,pk (0,an),l,?_,bv.same a5,S,ax.of M,w.symm⟩,c,R,r,S,?_,λs ad=>?_
 .rwa [ah ci,ah ch]
 .rw [ah x.symm,M];rfl
 have y:c≠s:=by intro b;rw [<-b,ah x.symm,M]at ad;cases ad
 have W:H s=O:=by
  have n:s≠l:=by intro b;rw [b,M]at ad;cases ad
  rw [ah n,ah (eP y)]at ad;exact ad
 have cn:r.length=q.length:=by have:=bD cN a3;rwa [z,z]at this
 let bd:VCx:=λg h=>A4 (h s=Y (.lst ((dJ j (q.take g)).map λe=>V.int (e:Nat)))) (h c=Y (.bP R (dX m p c r))) (∀D f,ax K H D f->ax K h D f) (∀D o,D≠c->H D=Y o->h D=Y o);refine rf (aX:=r) bd ?_ ?_ ?_ ?_
 .refine⟨M,by rw [ah y,ah x.symm,M],λD f G=>bF (.inr ad) (a5 D f G),λD o i a=>?_⟩;have n:D≠s:=by intro b;rw [b,W]at a;cases a
  have co:D≠l:=by intro b;rw [b,a4]at a;cases a
  rwa [ah n,ah co,ah i]
 .rintro g h _ ⟨_,G,_⟩;exact G
 .rintro g e h k ⟨u,X,B,C⟩;have v:(r.map (·.1))[g]?=Y e.1:=by rw [bh,k];rfl
  rw [a3,bh]at v;cases ab:q[g]? with
  |none=>rw [ab]at v;cases v
  |some al=>
   rw [ab]at v;have cr:=aS v
   have be:ax K h e.2.1 (b4 al):=by have:=B _ _ (ce e (cG k));rw [<-cr]at this;exact this
   have cs:dJ j (q.take (g+1))=dJ j (q.take g)++(if al.1=j then [al.2]else []):=by
    rw [dq,ab];unfold dJ;rw [vh];congr 1;show TJ _ [al]=_
    rw [kR,zU];split<;>rename_i G<;>split at G<;>simp_all
   have c9:=(cF.mp k).1;exists S,_,S,_,_,_,_,S,S,be,S,_,S,S,_,S,?_;dsimp only [bd];rw [cs];refine eb (λa=>?_) (λa=>?_)
   .have n:al.1=j:=by
     have:=eB a;injection this with this
     lia
    rw [ai n];exists _,S,_,_,_,_,S,S,be,S,_,u,?_,?_,?_,?_,?_
    .rw [z];have:(dJ j (q.take g)).length<=g:=cu (iU _ _) (by rw [dU];lia)
     lia
    .rw [M,aT];rfl
    .rwa [ah y]
    .exactλD f G=>bF (.inl (u▸trivial)) (B D f G)
    .intro D o i a;rw [ah (by intro b;rw [b,W]at a;cases a)];exact C D o i a
   .have n:¬al.1=j:=λb=>a (cq (by rw [b]));rw [N n,b0];exists u,X,B,C
 .rintro h ⟨u,X,B,C⟩;rw [cn,dB]at u;exists X,bt s _ ?_ W ?_
  .intro D o a;by_cases i:D=c
   .rwa [i,M,<-Q,<-i]
   .rw [ah i];exact C D o i a
  .rwa [ah (eP y)]
set_option tactic.hygienic false
def cO:Fm->aa
 |.num=>"a number"|.used=>"a name"|.given=>"in"|.call=>"a call"
 |.fn=>"fun"|.letE=>"let"|.ifz=>"if"|.pair=>"pair"|.fst=>"fst"|.snd=>"snd"|.new=>"new"|.get=>"get"|.set=>"set"|.add=>"add"
def Dm:∀z A:Fm,cO z=cO A->z=A:=by intro z A;cases z<;>cases A<;>first|exactλ_=>rfl|exactλD=>absurd D (by decide+kernel)
def rg(z A:Fm):decide (V.str (cO z)=V.str (cO A))=decide (z=A):=by rw [hb];exact⟨λD=>Dm z A (by injection D),λD=>by rw [D]⟩
def ng:Option Nat->V
 |none=>.bw
 |some n=>.int (n:Nat)
structure kK(z:Z)(H:U)(a:Z)(i:Info):Prop where
 aK:h7 z H a "form" (.str (cO i.aK))
 word:h7 z H a "word" (.str (bB i.word))
 parent:h7 z H a "parent" (ng i.parent)
 parts:∃lp,h7 z H a "parts" (.ref lp)/\H lp=Y (.lst (i.parts.map λx=>V.int (x:Nat)))
variable{Op:Info}
def kK.ext{H:U}(z:Ext H r)(A:kK d H q Op):kK d r q Op:=by let⟨S,T,a⟩:=A.parts;exists A.aK.ext z,A.word.ext z,A.parent.ext z,S,T.ext z,z _ _ a
structure lQ(K:af)(z N:Z)(H:U)(p:Z)(A:Pg):Prop where
 nodes:∃D G,h7 z H p "nodes" (.ref D)/\H D=Y (.lst (G.map V.ref))/\cE (kK N H) G A.nodes
 binders:∃lb,h7 z H p "binders" (.ref lb)/\H lb=Y (.dK (A.binders.map λx=>(.inl (x.1:Int),.int (x.2:Nat))))
 sorts:∃M,h7 z H p "sorts" (.ref M)/\LstAt K H M A.sorts
 places:∃lp,h7 z H p "places" (.ref lp)/\LstAt K H lp A.places
def lQ.ext{K:af}{H:U}{S:Pg}(z:Ext H r)(A:lQ K d q H Q S):lQ K d q r Q S:=by let⟨T,a,b,c,D⟩:=A.nodes;let⟨e,f,g⟩:=A.binders;let⟨h,i,j⟩:=A.sorts;let⟨k,l,m⟩:=A.places;exists ⟨T,a,b.ext z,z _ _ c,Paired.b9 D λ_ _ n=>n.ext z⟩,⟨e,f.ext z,z _ _ g⟩,⟨h,i.ext z,j.ext z⟩,⟨k,l.ext z,m.ext z⟩
structure rh(K:af)(z A:Z):Prop where
 c:fc K z
 cn:fc K A
 nodes:dF K z "nodes"
 binders:dF K z "binders"
 sorts:dF K z "sorts"
 places:dF K z "places"
 aK:dF K A "form"
 word:dF K A "word"
 parent:dF K A "parent"
 parts:dF K A "parts"
def da(K:af)(H:U)(G:Z)(z:Wy):Prop:=∃A D,ax K H G [.ref A,.ref D]/\ax K H A (b4 z.1)/\ax K H D (b4 z.2)
def da.ext{K:af}{H:U}{G:Wy}(z:Ext H r)(M:da K H d G):da K r d G:=by let⟨N,S,T,a,b⟩:=M;exists N,S,z.aP T,z.aP a,z.aP b
def jj(K:af)(H:U)(A:Z)(D:List Wy):Prop:=∃z,H A=Y (.lst (z.map V.ref))/\cE (da K H) z D
theorem Ext.new{H:U}{o:HO}(D:Ext H r)(G:r d=O):Ext H (L2.upd r d o):=D.upd (D.none G)
theorem Ext.one{H:U}{o:HO}(A:H d=O):Ext H (L2.upd H d o):=(Ext.refl H).new A
structure Gs(G:aa->Option J):Prop where
 node:∃z,G "NODE_PLACE"=Y (.int 0 z)
 name:∃z,G "NAME_PLACE"=Y (.int 1 z)
 first:∃z,G "FIRST_PLACE"=Y (.int 2 z)
 second:∃z,G "SECOND_PLACE"=Y (.int 3 z)
 inside:∃z,G "INSIDE_PLACE"=Y (.int 4 z)
 used:∃z,G "USED_NAME"=Y (.str "a name" z)
 call:∃z,G "CALL"=Y (.str "a call" z)
theorem lR{D:AC->sK->Prop}:∀{G:List AC} {M:List sK} {i:Nat} {N:sK},cE D G M->M[i]?=Y N->∃T,G[i]?=Y T/\D T N
 |_,_,_,_,.nil,a=>by cases a
 |_,_,0,_,.cons b _,a=>by cases a;exists _,S,b
 |_,_,i+1,_,.cons _ c,a=>lR (i:=i) c a
def cD:2<=aU:=by decide
def eN:1<=aU:=by decide
def N5(D:Pg)(G:Nat):cU (D.binders.map λz=>((.inl (z.1:Int):Key),V.int (z.2:Nat))) (.inl (G:Int))=(lH D G).map λN=>V.int (N:Nat):=by
 unfold cU lH;induction D.binders with
 |nil=>rfl
 |cons z a b=>
  rw [aZ,gc,gc];by_cases A:z.1=G
  .rw [cq (by rw [A]),cq A];rfl
  .rwa [bU (by intro M;injection M with M;exact A (by lia)),bU A]
abbrev Dn:a8:=top 48
inductive Dq (K:af) (D M:Z) (N:List V) (H:U) (S:VK) (T:XK):Prop
 |mk(p g l i:_)(_:N=[.ref p,.int (l:Nat)])(_:lQ K D M H p g)(_:g.nodes[l]?=Y i)(_:i.parts.length=arity i.aK)(_:(i.aK=.used->(lH g l).isSome=I))(_:∀z A,Ext H A->H z=O->jj K A z (hG g l i.aK i.parts)->S (.ref z) A)
theorem list1{z:List sK}(D:z.length=1):∃M,z=[M]:=TK.mp D
theorem ri{z:List sK}(N:z.length=2):∃A D,z=[A,D]:=match z,N with
 |[A,D],_=>⟨A,D,S⟩
theorem N6{z:List sK}(N:z.length=3):∃A D c,z=[A,D,c]:=match z,N with
 |[A,D,c],_=>⟨A,D,c,S⟩
def Dr{D:sK->AC->Prop}{M:List sK}{N:AC}(U:cE D M [N]):∃T,M=[T]/\D T N:=by
 cases U with
 |cons a b=>cases b;exists _,S,a
def tJ{z:sK->AC->Prop}{M:List sK}{N y:AC}(U:cE z M [N,y]):∃T c,M=[T,c]/\z T N/\z c y:=by
 cases U with
 |cons a b=>let⟨c,rfl,d⟩:=Dr b;exists _,c,S,a,d
def N7{z:sK->AC->Prop}{N:List sK}{T y U:AC}(d:cE z N [T,y,U]):∃b c A,N=[b,c,A]/\z b T/\z c y/\z A U:=by
 cases d with
 |cons a e=>let⟨c,A,rfl,f⟩:=tJ e;exists _,c,A,S,a,f
def N8(ds:a9 K "standing_ways" "standing_ways" Dn Q pc)(N:rh K q d)(an:Gs L):f_ 1 Q pc ["program","label"] (Dq K q d):=by
 let⟨hd,c4⟩:=an.node;let⟨he,c5⟩:=an.name;let⟨hf,dx⟩:=an.first;let⟨hi,dK⟩:=an.second;let⟨hm,dL⟩:=an.inside;let⟨hz,dT⟩:=an.used;refine ds.go ["program","label","node","here","parts","part"] λh0 h1 h2 ch H id ii im io dX ca d0 sz=>?_;let⟨ci,cl,c3,f,rfl,c6,d1,ap,em,h⟩:=dX;exists _,ar (bj 2 ca (cc dk (aF 0) (T 1) (λ_ _=>S))) (ar (bj 3 ca (b6 (A (b7 c4) (aJ 1)))) (ar (su (i:=4) (own:=[("part",5)]) S ca S rfl (sv S rfl rfl rfl) (dC (aF 2)) (e3 S) (λch H q N c7=>bX 5 ca) (λch H q N c7=>hB) (λch H q N c7=>b6 (A (b7 c4) (aJ 5)))) (ar (bK (bS cT (aF 2) (ei (v:=.str (cO .used)) S dT ⟨_,S⟩) (bV _)) (ay (aQ (de (A (b6 (A (b6 (A (b7 c5) (A (AS d0 (aF 0) (T 1) (λ_ _=>S)) aC))) (aJ 3))) aC)))) bQ) (ar (bK (bS cT (aF 2) dP (bV _)) (ay (aQ (de (A (b6 (A (cc dk (T 4) cL (λ_ _=>S)) (A (b6 (A (b7 c5) (aJ 1))) aC))) (A (b6 (A (cc dk (T 4) cL (λ_ _=>S)) (aJ 3))) aC))))) bQ) (ar (bK (bS cT (aF 2) dP (bV _)) (ay (aQ (de (A (b6 (A (cc dk (T 4) cL (λ_ _=>S)) (aJ 3))) (A (b6 (A (cc dk (T 4) cL (λ_ _=>S)) (aJ 3))) aC))))) bQ) (ar (bK (bS cT (aF 2) dP (bV _)) (ay (aQ (de (A (b6 (A (cc dk (T 4) cL (λ_ _=>S)) (A (b6 (A (b7 dx) (aJ 1))) aC))) (A (b6 (A (cc dk (T 4) cL (λ_ _=>S)) (A (b6 (A (b7 dK) (aJ 1))) aC))) aC))))) bQ) (ar (bK (bS cT (aF 2) dP (bV _)) (ay (aQ (de (A (b6 (A (cc dk (T 4) cL (λ_ _=>S)) (A (b6 (A (b7 dL) (aJ 1))) aC))) aC)))) bQ) (ar (bK (bS cT (aF 2) dP (bV _)) (ay (aQ (de (A (b6 (A (cc dk (T 4) cL (λ_ _=>S)) (aJ 3))) aC)))) bQ) (ay (aQ (de aC))))))))))),?_;let⟨eq,is,⟨es,ev,ex,fa⟩,fd,fl⟩:=c6.nodes;let⟨W,fm,c8⟩:=lR fl d1;let⟨fn,⟨fr,fs,fT,f0⟩,c9⟩:=c8.parts;exists _,S,ci,q,es,ev,_,S,ex,N.c,N.nodes,fa,_,S,eq,_,_,_,S,S,av.of fd,e2 (by rw [bh,fm];rfl),?_;exists _,S,cD,λr f1=>?_;have cd:Ext H (upd H r (.tup [.int 0,.int (c3:Nat)])):=Ext.one f1
 exists _,S,W,d,fr,fs,_,S,cd _ _ fT,N.cn,N.parts,f0,fn,S,⟨_,av.of (cd _ _ c9)⟩,λt cn=>?_;have f2:=cd.none cn
 let f4:VCx:=λX E=>A3 (∃as,E t=Y (.lst (as.map V.ref))/\fJ K E as ((f.parts.take X).map λF=>(0,F))/\as.length<=X) (Ext H E) (ax K E r (b4 (0,c3)));refine hC (xs:=f.parts.map λF=>V.int (F:Nat)) f4 ?_ ?_ ?_ ?_
 .exact⟨⟨[],M,.nil,aR _⟩,cd.new cn,(Ext.one cn).aP (ax.of M)⟩
 .rintro X E _ ⟨_,a,_⟩;exact av.of (a _ _ c9)
 .rintro X F E bm ⟨⟨as,s,w,db⟩,a,ab⟩;rw [bh]at bm;cases ce:f.parts[X]? with
  |none=>rw [ce]at bm;cases bm
  |some c=>
   rw [ce]at bm;obtain rfl:=aS bm;have it:=(cF.mp ce).1
   have ix:f.parts.length<=3:=by rw [ap];cases f.aK<;>decide
   have f8:(f.parts.take (X+1)).map (λF=>((0,F):Pr))=(f.parts.take X).map (λF=>(0,F))++[(0,c)]:=by rw [dq,ce,aT];rfl
   exists S,?_;unfold hk;dsimp only [];rw [ai S];exists _,S,cD,λco bn=>?_;have dd:t≠co:=by intro bs;rw [<-bs,s]at bn;cases bn
   have cr:cX (upd E co (.tup [.int 0,.int (c:Nat)]) t):=by rw [ah dd,s];exact trivial
   exists _,by rw [ah dd];exact s,by rw [z];lia,⟨as++[co],?_,?_,by rw [br];exact qj db 1⟩,(a.new bn).upd f2,bF (.inl cr) (bF (.inr bn) ab)
   .rw [M,aT];rfl
   .rw [f8];exact fL (Paired.b9 w λa0 ci bs=>bF (.inl cr) (bF (.inr bn) bs)) (bF (.inl cr) (ax.of M))
 .rintro E ⟨⟨as,s,w,db⟩,a,ab⟩;rw [z,dB]at w;let⟨a1,a2,a3,a4⟩:=(c8.ext a).aK;have bt:∀ad:Fm,¬decide (V.str (cO f.aK)=V.str (cO ad))=I->¬f.aK=ad:=λad y bs=>y (by rw [bs];exact cq S)
  have a5:∀ad:Fm,decide (V.str (cO f.aK)=V.str (cO ad))=I->f.aK=ad:=λad y=>by rw [rg]at y;exact eB y
  exists _,S,W,d,a1,a2,_,S,a3,N.cn,N.aK,a4,S,_,S,eb (λy=>?_) (λy=>?_)
  .have y:=a5 .used y;let⟨ga,⟨ge,gl,go,gt⟩,g1⟩:=(c6.ext a).binders;let⟨a0,dl⟩:=rB.mp (em y);exists _,S,ci,q,ge,gl,_,S,go,N.c,N.binders,gt,_,S,ga,.int (a0:Nat),S,?_,cD,λu al=>?_
   .have:=ir.k (k:=.inl (c3:Int)) g1;rw [N5,dl]at this;exact this
   exists _,S,cD,λb g=>⟨eN,λn D=>?_⟩;have am:=Ext.one (o:=.tup [.int 1,.int (a0:Nat)]) al
   have G:=am.new (o:=.tup [.ref u,.ref r]) g;have e:=G.new (o:=.lst [.ref b]) D
   have cs:hG cl c3 f.aK f.parts=[((1,a0),(0,c3))]:=by
    rw [y];show(match lH cl c3 with|some a0=>[((1,a0),(0,c3))]|none=>[])=_
    rw [dl]
   rw [cs]at h;exact h n _ (a.trans e) ((a.trans G).none D) ⟨[b],M,.cons ⟨u,r,(Ext.one D).aP (ax.of M),((Ext.one g).new D).aP (ax.of M),e.aP ab⟩ .nil⟩
  exists _,S,W,d,a1,a2,_,S,a3,N.cn,N.aK,a4,S,_,S,eb (λbd=>?_) (λbd=>?_)
  .have bd:=a5 .letE bd;let⟨c,ct,j⟩:=ri (ap.trans (bD arity bd));rw [bd,j]at h;rw [j]at w;let⟨l,B,rfl,C,bv⟩:=tJ w;exists _,S,t,_,_,_,S,S,av.of s,S,_,S,cD,λu al=>⟨cD,λb g=>?_⟩;have am:=Ext.one (o:=.tup [.int 1,.int (c3:Nat)]) al
   have G:=am.new (o:=.tup [.ref l,.ref u]) g;exists _,S,t,_,_,_,S,S,av.of (G _ _ s),S,_,S,cD,λR x=>⟨cD,λn D=>?_⟩;have e:=G.new (o:=.tup [.ref B,.ref r]) x
   have c2:=e.new (o:=.lst [.ref b,.ref R]) D;exact h n _ (a.trans c2) ((a.trans e).none D) ⟨[b,R],M,.cons ⟨l,u,((Ext.one x).new D).aP (ax.of M),c2.aP C,(((Ext.one g).new x).new D).aP (ax.of M)⟩ (.cons ⟨B,r,(Ext.one D).aP (ax.of M),c2.aP bv,c2.aP ab⟩ .nil)⟩
  exists _,S,W,d,a1,a2,_,S,a3,N.cn,N.aK,a4,S,_,S,eb (λbe=>?_) (λbe=>?_)
  .have be:=a5 .ifz be;let⟨c,ct,jp,j⟩:=N6 (ap.trans (bD arity be));rw [be,j]at h;rw [j]at w;let⟨g2,l,B,rfl,g3,C,bv⟩:=N7 w;exists _,S,t,_,_,_,S,S,av.of s,S,_,S,cD,λb g=>?_;have G:=Ext.one (o:=.tup [.ref l,.ref r]) g
   exists _,S,t,_,_,_,S,S,av.of (G _ _ s),S,_,S,cD,λR x=>⟨cD,λn D=>?_⟩;have e:=G.new (o:=.tup [.ref B,.ref r]) x
   have c2:=e.new (o:=.lst [.ref b,.ref R]) D;exact h n _ (a.trans c2) ((a.trans e).none D) ⟨[b,R],M,.cons ⟨l,r,((Ext.one x).new D).aP (ax.of M),c2.aP C,c2.aP ab⟩ (.cons ⟨B,r,(Ext.one D).aP (ax.of M),c2.aP bv,c2.aP ab⟩ .nil)⟩
  exists _,S,W,d,a1,a2,_,S,a3,N.cn,N.aK,a4,S,_,S,eb (λbi=>?_) (λbi=>?_)
  .have bi:=a5 .pair bi;let⟨c,ct,j⟩:=ri (ap.trans (bD arity bi));rw [bi,j]at h;rw [j]at w;let⟨l,B,rfl,C,bv⟩:=tJ w;exists _,S,t,_,_,_,S,S,av.of s,S,_,S,cD,λu al=>⟨cD,λb g=>?_⟩;have am:=Ext.one (o:=.tup [.int 2,.int (c3:Nat)]) al
   have G:=am.new (o:=.tup [.ref l,.ref u]) g;exists _,S,t,_,_,_,S,S,av.of (G _ _ s),S,_,S,cD,λdp c0=>⟨cD,λR x=>⟨cD,λn D=>?_⟩⟩;have e:=G.new (o:=.tup [.int 3,.int (c3:Nat)]) c0
   have c2:=e.new (o:=.tup [.ref B,.ref dp]) x;have c1:=c2.new (o:=.lst [.ref b,.ref R]) D
   exact h n _ (a.trans c1) ((a.trans c2).none D) ⟨[b,R],M,.cons ⟨l,u,(((Ext.one c0).new x).new D).aP (ax.of M),c1.aP C,((((Ext.one g).new c0).new x).new D).aP (ax.of M)⟩ (.cons ⟨B,dp,(Ext.one D).aP (ax.of M),c1.aP bv,((Ext.one x).new D).aP (ax.of M)⟩ .nil)⟩
  exists _,S,W,d,a1,a2,_,S,a3,N.cn,N.aK,a4,S,_,S,eb (λbk=>?_) (λbk=>?_)
  .have bk:=a5 .new bk;let⟨c,j⟩:=list1 (ap.trans (bD arity bk));rw [bk,j]at h;rw [j]at w;let⟨l,rfl,C⟩:=Dr w;exists _,S,t,_,_,_,S,S,av.of s,S,_,S,cD,λu al=>⟨cD,λb g=>⟨eN,λn D=>?_⟩⟩;have am:=Ext.one (o:=.tup [.int 4,.int (c3:Nat)]) al
   have G:=am.new (o:=.tup [.ref l,.ref u]) g;have e:=G.new (o:=.lst [.ref b]) D
   exact h n _ (a.trans e) ((a.trans G).none D) ⟨[b],M,.cons ⟨l,u,(Ext.one D).aP (ax.of M),e.aP C,((Ext.one g).new D).aP (ax.of M)⟩ .nil⟩
  exists _,S,W,d,a1,a2,_,S,a3,N.cn,N.aK,a4,S,_,S,eb (λbl=>?_) (λbl=>?_)
  .have bl:=a5 .set bl;let⟨c,ct,j⟩:=ri (ap.trans (bD arity bl));rw [bl,j]at h;rw [j]at w;let⟨g2,l,rfl,g3,C⟩:=tJ w;exists _,S,t,_,_,_,S,S,av.of s,S,_,S,cD,λb g=>⟨eN,λn D=>?_⟩;have G:=Ext.one (o:=.tup [.ref l,.ref r]) g
   have e:=G.new (o:=.lst [.ref b]) D;exact h n _ (a.trans e) ((a.trans G).none D) ⟨[b],M,.cons ⟨l,r,(Ext.one D).aP (ax.of M),e.aP C,e.aP ab⟩ .nil⟩
  have cs:hG cl c3 f.aK f.parts=[]:=by
   have kk:=bt .letE bd;have kp:=bt .ifz be
   have ks:=bt .pair bi;have kt:=bt .new bk
   have kw:=bt .set bl;unfold hG;split<;>first|rfl|(exfalso;simp_all)
  rw [cs]at h;exists cP _,λn D=>h n _ (a.new D) (a.none D) ⟨[],M,.nil⟩
abbrev Ds:a8:=inClass (top 20) 0
def eW(z:Fm)(A:aj)(D:Option Nat)(G:Z)(M N:Int):List (aa×V):=[("form",.str (cO z)),("word",.str (bB A)),("parent",ng D),("parts",.ref G),("begin",.int M),("end",.int N)]
structure pj(K:af)(z:Z):Prop where
 cl:fc K z
 aK:dF K z "form"
 word:dF K z "word"
 parent:dF K z "parent"
 parts:dF K z "parts"
 begin_:dF K z "begin"
 end_:dF K z "end"
inductive xJ (z:Z) (A:List V) (H:U) (D:VK) (M:XK):Prop
 |mk(a b f x:_)(_:A=[.ref a,.str (cO f),.str (bB x)])(_:H a=Y (.ins z b []))(_:∀lp,H lp=O->D .bw (upd (upd H lp (.lst [])) a (.ins z b (eW f x O lp 0 0))))
variable{Ev:HO}
def gS{H:U}{o:HO}:upd (upd H d o) d Ev=upd H d Ev:=by
 funext a;by_cases A:a=d
 .subst A;rw [M,M]
 .rw [ah A,ah A,ah A]
def Dt{H:U}{o:HO}(T:d≠q):upd (upd H d o) q Ev=upd (upd H q Ev) d o:=by
 funext c;by_cases D:c=d
 .subst D;rw [ah T,M,M]
 .by_cases N:c=q
  .subst N;rw [M,ah D,M]
  .rw [ah N,ah D,ah D,ah N]
def N9{c:bc}(e:a9 K "__init__" "Node.__init__" Ds q c)(z:pj K d):f_ 1 q c ["self","form","word"] (xJ d):=by
 refine e.go ["self","form","word"] λj k l b H n w G r f _ _ _=>?_;let⟨D,N,q,s,rfl,g,h⟩:=f;exists _,ar (dQ (T 0) (T 1) S) (ar (dQ (T 0) (T 2) S) (ar (dQ (T 0) vr S) (ar (dQ (T 0) (de aC) S) (ar (dQ (T 0) cL S) (ay (dQ (T 0) cL S)))))),?_;exists _,S,_,S,D,d,N,_,S,g,z.cl,z.aK,(by decide),?_;exists _,S,_,S,D,d,N,_,S,M,z.cl,z.word,(by show 1<1000;decide),?_;exists _,S,D,d,N,_,S,M,z.cl,z.parent,(by show 2<1000;decide),?_;exists cP _,λA a=>?_;have U:A≠D:=by intro i;rw [i,M]at a;cases a
 exists _,S,D,d,N,_,S,by rw [ah U.symm,M],z.cl,z.parts,(by show 3<1000;decide),?_;exists _,S,D,d,N,_,S,M,z.cl,z.begin_,(by show 4<1000;decide),?_;exists _,S,D,d,N,_,S,M,z.cl,z.end_,(by show 5<1000;decide),?_;rw [ah U,ah U,ah U]at a;have:=h A a
 rw [gS,gS,Dt (o:=HO.lst []) U,gS,gS,gS];rw [Dt U]at this;exact this
abbrev Du:a8:=inClass (top 21) 5
abbrev Dv:a8:=inClass (top 21) 6
structure nh(ws:List aj):Prop where
 ok:∀x∈ws,h6 x=I
 bl:∀x∈ws,¬(32:UInt8)∈x\/x=[32]
def nh.word(D:nh wr)(A:Nat):h6 (wordAt wr A)=I/\(¬(32:UInt8)∈wordAt wr A\/wordAt wr A=[32]):=by
 by_cases c:A<wr.length
 .have:=cG (rb c);exists D.ok _ this,D.bl _ this
 .rw [kI (by lia)];exists S,.inl (λG=>nomatch G)
def Oa(D:h6 sB=I)(A:¬(32:UInt8)∈sB\/sB=[32]):cU gK (.inr (bB sB))=(ed sB).map λG=>V.int (arity G):=by
 rcases A with A|rfl
 .exact C3 D A
 .decide+kernel
def jQ(D:t<wr.length):wr.drop t=wordAt wr t::wr.drop (t+1):=by
 rw [TM D];have:=rb D
 rw [gf D]at this;rw [aS this]
theorem jk(D:wr.length<=t):wr.drop t=[]:=zY D
theorem bN.refl(z:Z)(H:U):bN z H H:=λ_ _ A _=>A
theorem bN.trans{H:U}(N:bN d H r)(S:bN d r s0):bN d H s0:=λG o T M=>S G o (N G o T M) M
theorem Ext.but{a:Z}{H:U}(A:Ext H r):bN a H r:=λD o G _=>A D o G
def bN.none{H:U}(M:bN q H r)(G:r d=O)(N:d≠q):H d=O:=by
 cases a:H d with
 |none=>rfl
 |some o=>rw [M d o a N]at G;cases G
structure Ob(A a:Z)(H z:U)(nd lp:Z)(D:Fm)(x:aj):Prop where
 but:bN a H z
 xM:H nd=O
 xN:H lp=O
 pq:nd≠a
 Dx:lp≠a
 nd:∃G,z nd=Y (.ins A G (eW D x O lp 0 0))
 lp:z lp=Y (.lst [])
variable{pp:Z}
def tK{f:Fm}{t:aj}(h:r d=O)(i:r q=O)(m:q≠d)(N:upd (upd r q (.own d)) d (.ins pp q []) Q=O):∃c,c=upd (upd (upd (upd r q (.own d)) d (.ins pp q [])) Q (.lst [])) d (.ins pp q (eW f t O Q 0 0))/\Ext r c/\r Q=O/\Q≠d/\c d=Y (.ins pp q (eW f t O Q 0 0))/\c Q=Y (.lst []):=by
 have z:Q≠d:=by intro G;rw [G,M]at N;cases N
 have j:Q≠q:=by intro G;rw [ah z,G,M]at N;cases N
 rw [ah z,ah j]at N;refine⟨_,S,λe o a=>?_,N,z,M,by rw [ah z,M]⟩;have g:e≠d:=by intro G;rw [G,h]at a;cases a
 have k:e≠q:=by intro G;rw [G,i]at a;cases a
 have l:e≠Q:=by intro G;rw [G,N]at a;cases a
 rwa [ah g,ah l,ah g,ah k]
variable{s3:Z}
def hL.ext{H:U}(a:Ext H r)(b:hL d H q Q pp s3 wr t):hL d r q Q pp s3 wr t:=by let⟨⟨c,z⟩,e,f⟩:=b;exists ⟨c,a _ _ z⟩,a _ _ e,f
def ni(S T a:Z)(H:U)(b:VK)(c:XK)(A d e f:Z)(D:List aj):Option (Fm×aj×List aj)->Prop
 |none=>∀z,bN A H z->c (.ref a) O z
 |some (g,x,h)=>∀z M N i,M<=D.length->D.drop M=h->hL S z A d e f D M->Ob T A H z N i g x->b (.ref N) z
inductive Dy (z A D:Z) (M:List V) (H:U) (N:VK) (S:XK):Prop
 |mk(a lw ln b ws i:_)(_:M=[.ref a])(_:hL z H a lw ln b ws i)(_:nh ws)(_:ni z A D H N S a lw ln b ws (el (ws.drop i)))
def xO{A:Fm}(D:ed sB=Y A):bB sB=cO A/\fz A=sB:=by
 have M:=fq D;have N:fz A=sB:=by simpa using mc D
 exists ?_,N;rw [<-N];simp only [bg,gR,g8]at M;rcases M with rfl|rfl|rfl|rfl|rfl|rfl|rfl|rfl|rfl|rfl<;>decide+kernel
def Oc{z:Fm}(D:ed sB=Y z):jE (.str (bB sB)) [.str "fun",.str "let"]=isBinder z:=by
 rw [(xO D).1];have M:=fq D
 simp only [bg,gR,g8]at M;rcases M with rfl|rfl|rfl|rfl|rfl|rfl|rfl|rfl|rfl|rfl<;>decide+kernel
def Dz:(dO "in")=bB du:=by decide+kernel
def xQ:(dO " ")=bB [32]:=by decide+kernel
theorem Od:(dO "a call")=cO .call:=rfl
variable{wl:Z}
def Oe(c4:a9 K "read_bracketed_head" "Reading.read_bracketed_head" Dv wl pc)(f1:kH K d)(c5:L "NoProgram"=Y (.ref q))(c6:gP K q fV "Exception.__new__"=I)(c7:L "PARTS"=Y (.ref Q)) (c8:KD K m p Q gK) (c9:L "BINDERS"=Y (.ref pp)) (db:∀H,ax K H pp [.str "fun",.str "let"])  (dp:L "CALL"=Y (.str "a call" wT)) (ds:L "GIVEN"=Y (.str "in" UV))(dx:h_ 1 d "peek" ["self"] (xE d)) (dK:h_ 2 d "take" ["self"] (tH d)) (cl:r_ 3 d "pass_over" ["self","word"] (xF d q))(bl:iu m p K L P aE 1 "Node" s3 ["self","form","word"] (xJ s3)) (dL:g_ 1 "is_name" ["word"] xy):k_ 4 wl pc ["self"] (Dy d s3 q):=by
 refine c4.et ["self","form","bound"] λf2 f4 f8 ga H ge gl go r dT cn _ _=>?_;let⟨e,ap,as,a0,D,z,rfl,a1,co,g⟩:=dT;have cr:=r.mo 1
 have a2:=r.mo 2;exists _,ar (bj 1 cn (dR (E:=E0) (T 0) dx cr cx)) (ar (bK (i0 (Bn (T 1) (ei (v:=.ref Q) S c7 S)) S) (ay (aQ (iv (E:=E0) bl a2 cx (A (hl dp) (A dP aC))))) bQ) (ar (cM (eL (T 0) cl r dw (aJ 1))) (ar (bK (bS AD (T 1) (ei (v:=.ref pp) S c9 S) S) (ay (aQ (iv (E:=E0) bl a2 cx (A (T 1) (A dP aC))))) bQ) (ar (cM (eL (T 0) cl r dw (A dP aC))) (ar (bj 2 cn (dR (E:=E0) (T 0) dK a2 cx)) (ar (bK (PW.pt (vw (bS cT (T 2) (hl ds) (bV _)) (vu (r7 (kn (bI dL cr (aJ 2))))))) (ay (jH j8 (by decide) c6 S c5 r.hd)) bQ) (ay (aQ (iv (E:=E0) bl a2 cx (A (T 1) (aJ 2))))))))))),?_;let⟨⟨cs,a3⟩,gt,dX,g1,g2⟩:=id a1;let⟨d0,d1⟩:=co.word z;exists _,S,e,cs,_,S,a3,gv (.inl S),e,ap,as,a0,D,z,S,a1,?_;exists _,S,Q,_,S,⟨gK,.inr (bB (wordAt D z)),c8,S,S⟩,_,S,?_;rw [Oa d0 d1,kU];cases i:ed (wordAt D z)with
 |none=>
  refine cf ?_;have s:el (D.drop z)=Y (.call,[],D.drop z):=by
   by_cases c:z<D.length
   .rw [jQ c];unfold el;dsimp only;rw [i]
   .rw [jk (by lia)];rfl
  rw [s]at g;intro a k b u x;exists a,k,.call,[],?_,M,λal y=>⟨S,?_⟩
  .rw [Od,iF];rfl
  .obtain⟨B,C,l,h,ct,G,w⟩:=tK (f:=.call) (t:=[]) b u x y;rw [<-C];exact g B z a al dX S (a1.ext l) ⟨l.but,b,h,(by intro U;rw [U,a3]at b;cases b),(by intro U;rw [U,a3]at h;cases h),⟨k,G⟩,w⟩
 |some fm=>
  refine b1 ?_;have c:z<D.length:=by refine p8 λU=>?_;rw [kI U,show ed ([]:aj)=O by decide]at i;cases i
  have em:=ik c;exists _,S,e,cs,_,S,a3,gv (.inr (.inr (.inl S))),_,S,e,ap,as,a0,D,z,wordAt D z,S,a1,λeq a4 n=>?_;rw [ai S];rw [em]at a4;let⟨⟨es,bm⟩,g3,ev,hd,he⟩:=id a4;exists _,S,pp,_,S,.inr (db eq),S,S,_,S,?_;rw [ai S,Oc i];have bn:=jQ c
  cases bs:isBinder fm with
  |false=>
   refine cf ?_;have s:el (D.drop z)=Y (fm,[],D.drop (z+1)):=by rw [bn];unfold el;dsimp only;rw [i];dsimp only;rw [bs];rfl
   rw [s]at g;exists _,S,λa k b u x=>?_;exists a,k,fm,[],?_,M,λal y=>⟨S,?_⟩
   .rw [(xO i).1,iF];rfl
   .obtain⟨B,C,l,h,ct,G,w⟩:=tK (f:=fm) (t:=[]) b u x y;rw [<-C];have R:a≠e:=by intro U;rw [U,bm]at b;cases b
    have X:al≠e:=by intro U;rw [U,bm]at h;cases h
    exact g B (z+1) a al ev S (a4.ext l) ⟨n.trans l.but,n.none b R,n.none h X,R,X,⟨k,G⟩,w⟩
  |true=>
   refine b1 ?_;exists _,S,e,es,_,S,bm,gv (.inr (.inr (.inl S))),e,ap,as,a0,D,z+1,[32],?_,a4,λex bt a5=>?_
   .rw [<-xQ];rfl
   by_cases am:wordAt D (z+1)=[32]
   .rw [ai am];have bd:z+1<D.length:=by
     refine p8 λU=>?_;rw [kI U]at am;cases am
    have fa:=ik bd;rw [fa]at bt;let⟨⟨fd,fl⟩,hf,hi,hm,hz⟩:=id bt;exists _,S,e,fd,_,S,fl,gv (.inr (.inl S)),e,ap,as,a0,D,z+2,S,bt,λc0 bv ca=>?_;let⟨fn,h0⟩:=co.word (z+2);let⟨⟨h1,c1⟩,h2,c2,ii,fr⟩:=id bv;have fs:D.drop z=wordAt D z::[32]::D.drop (z+2):=by rw [bn,jQ bd,am]
    have cd:el (D.drop z)=(match D.drop (z+2)with
      |a::c3=>if a=du\/h4 a=ao then O else Y (fm,a,c3)
      |[]=>O):=by
     rw [fs];unfold el;dsimp only;rw [i];dsimp only;rw [ai bs];cases D.drop (z+2)with
     |nil=>rfl
     |cons a be=>dsimp only;rw [ai S]
    exists _,S,S,_,S,?_;have fT:decide (V.str (bB (wordAt D (z+2)))=V.str (dO "in"))=decide (wordAt D (z+2)=du):=by rw [hb,Dz];exact⟨λU=>by injection U with U;exact kF.mp U,λU=>by rw [U]⟩
    rw [fT];refine eb (λo=>?_) (λo=>?_)
    .have o:=eB o;refine cf ?_;have ab:el (D.drop z)=O:=by
      rw [cd];cases j:D.drop (z+2)with
      |nil=>rfl
      |cons a be=>
       have an:=p8 λU=>by rw [jk U]at j;cases j
       rw [jQ an]at j;injection j with ad _;dsimp only;rw [ai (.inl (ad▸o))]
     rw [ab]at g;exact g c0 ((n.trans a5).trans ca)
    .have o:¬wordAt D (z+2)=du:=λU=>o (cq U);exists _,S,wordAt D (z+2),S,fn,xD fr _,_,S,?_;cases bi:h4 (wordAt D (z+2))with
     |false=>
      refine cf ?_;have ab:el (D.drop z)=O:=by
       rw [cd];cases j:D.drop (z+2)with
       |nil=>rfl
       |cons a be=>
        have an:=p8 λU=>by rw [jk U]at j;cases j
        rw [jQ an]at j;injection j with ad _;dsimp only;rw [ai (.inr (ad▸bi))]
      rw [ab]at g;exact g c0 ((n.trans a5).trans ca)
     |true=>
      refine b1 ?_;have an:z+2<D.length:=by refine p8 λU=>?_;rw [kI U]at bi;exact absurd bi (by decide)
      have f0:=ik an;rw [f0]at bv c2;have s:el (D.drop z)=Y (fm,wordAt D (z+2),D.drop (z+3)):=by rw [cd,jQ an];dsimp only;rw [N (λU=>U.elim o λU=>by rw [bi]at U;cases U)]
      rw [s]at g;exists _,S,_,S,λa k b u x=>?_;exists a,k,fm,wordAt D (z+2),?_,M,λal y=>⟨S,?_⟩
      .rw [(xO i).1];rfl
      .obtain⟨B,C,l,h,ct,G,w⟩:=tK (f:=fm) (t:=wordAt D (z+2)) b u x y;rw [<-C];have ce:=(n.trans a5).trans ca
       have R:a≠e:=by intro U;rw [U,c1]at b;cases b
       have X:al≠e:=by intro U;rw [U,c1]at h;cases h
       exact g B (z+3) a al c2 S (bv.ext l) ⟨ce.trans l.but,ce.none b R,ce.none h X,R,X,⟨k,G⟩,w⟩
   .rw [N am];have ab:el (D.drop z)=O:=by
     rw [bn];unfold el;dsimp only;rw [i];dsimp only;rw [ai bs];cases j:D.drop (z+1)with
     |nil=>rfl
     |cons im be=>
      have bd:=p8 λU=>by rw [jk U]at j;cases j
      rw [jQ bd]at j;injection j with ad _;cases be with
      |nil=>rfl
      |cons a c3=>dsimp only;rw [N (ad▸am)]
    rw [ab]at g;exact g ex (n.trans a5)
inductive DA (z A D:Z) (M:List V) (H:U) (N:VK) (S:XK):Prop
 |mk(a lw ln b ws i:_)(_:M=[.ref a])(_:hL z H a lw ln b ws i)(_:nh ws)(_:ni z A D H N S a lw ln b ws (head (ws.drop i)))
def Of(z:List aj)(A:Nat):head (z.drop A)=if wordAt z A=[40]then el (z.drop (A+1))else if isNum (wordAt z A)=I then Y (.num,wordAt z A,z.drop (A+1))else if wordAt z A=du then Y (.given,[],z.drop (A+1))else if h4 (wordAt z A)=I then Y (.used,wordAt z A,z.drop (A+1))else O:=by
 by_cases c:A<z.length
 .rw [jQ c];rfl
 .rw [jk (by lia),kI (by lia)];rfl
def xR(A D:aj):decide (V.str (bB A)=V.str (bB D))=decide (A=D):=by rw [hb];exact⟨λz=>by injection z with z;exact kF.mp z,λz=>by rw [z]⟩
def Og:(dO "(")=bB [40]:=by decide+kernel
variable{KB:VK}{Da:Z}
theorem ni.from{H:U}{c:XK}(A:bN d H r):∀{o:Option (Fm×aj×List aj)},ni q Q pp H KB c d s3 wl Da wr o->ni q Q pp r KB c d s3 wl Da wr o
 |none,k=>λM h=>k M (A.trans h)
 |some (D,x,N),k=>λM i j l m n p z=>k M i j l m n p ⟨A.trans z.but,A.none z.xM z.pq,A.none z.xN z.Dx,z.pq,z.Dx,z.nd,z.lp⟩
variable{Wm:dD}
def Oh{o:Z}(a3:a9 K "read_head" "Reading.read_head" Du Q pc)(c1:kH K q)(a4:L "NoProgram"=Y (.ref o))(a5:gP K o fV "Exception.__new__"=I) (bk:L "NUMBER"=Y (.str "a number" wT)) (ad:L "GIVEN"=Y (.str "in" UV)) (bl:L "USED_NAME"=Y (.str "a name" Wm))(bm:h_ 2 q "take" ["self"] (tH q)) (bn:r_ 4 q "read_bracketed_head" ["self"] (Dy q d o))(v:iu m p K L P aE 1 "Node" d ["self","form","word"] (xJ d)) (bs:g_ 1 "is_name" ["word"] xy) (bt:g_ 1 "is_number" ["word"] C2):k_ 5 Q pc ["self"] (DA q d o):=by
 refine a3.et ["self","word"] λc3 c5 c6 c7 H c8 al bv X ca cd _ _=>?_;let⟨n,x,y,B,U,a,rfl,am,an,D⟩:=ca;have ap:=X.mo 1
 have ab:=X.mo 2;exists _,ar (bj 1 cd (dR (E:=E0) (T 0) bm ab cx)) (ar (bK (bS cT (T 1) dP (bV _)) (ay (aQ (dR (T 0) bn X dw))) bQ) (ar (bK (kn (bI bt ap (aJ 1))) (ay (aQ (iv (E:=E0) v ab cx (A (hl bk) (aJ 1))))) bQ) (ar (bK (bS cT (T 1) (hl ad) (bV _)) (ay (aQ (iv (E:=E0) v ab cx (A (hl ad) (A dP aC))))) bQ) (ar (bK (kn (bI bs ap (aJ 1))) (ay (aQ (iv (E:=E0) v ab cx (A (hl bl) (aJ 1))))) bQ) (ay (jH j8 (by decide) a5 S a4 X.hd)))))),?_;let⟨⟨ce,ch⟩,c9,db,dd,ci⟩:=id am;let⟨as,dl⟩:=an.word a;exists _,S,n,ce,_,S,ch,gv (.inr (.inl S)),n,x,y,B,U,a,S,am,λj C cl=>?_;have D:=ni.from cl D
 rw [Of]at D;let⟨⟨cn,G⟩,dp,co,ds,dx⟩:=id C;have a0:=xD ci a
 have a1:U.drop (jw (a+1) U.length)=U.drop (a+1):=by
  by_cases c:a<U.length
  .rw [ik c]
  .rw [n7 (by lia),jk (aR _),jk (by lia)]
 have h:∀{r:Fm} {b:aj},ni q d o j al bv n x y B U (Y (r,b,U.drop (a+1)))->∀e z,j e=O->j z=O->z≠e->∀w,upd (upd j z (.own e)) e (.ins d z []) w=O->al (.ref e) (upd (upd (upd (upd j z (.own e)) e (.ins d z [])) w (.lst [])) e (.ins d z (eW r b O w 0 0))):=by intro r b D e z g k l w i;let⟨cr,cs,a2,R,dK,ct,c0⟩:=tK (f:=r) (t:=b) g k l i;rw [<-cs];exact D cr _ e w co a1 (C.ext a2) ⟨a2.but,g,R,(by intro V;rw [V,G]at g;cases g),(by intro V;rw [V,G]at R;cases R),⟨z,ct⟩,c0⟩
 exists _,S,S,_,S,?_;rw [Og,xR];by_cases s:wordAt U a=[40]
 .rw [ai s]at D;rw [cq s];refine cf ⟨_,S,n,cn,_,S,G,gv (.inr (.inr (.inr (.inr (.inr (.inl S)))))),n,x,y,B,U,_,S,C,an,?_⟩;rwa [a1]
 rw [N s]at D;rw [bU s];refine b1 ⟨_,S,wordAt U a,S,as,a0,_,S,?_⟩;cases c2:isNum (wordAt U a)with
 |true=>
  rw [ai c2]at D;exact cf ⟨_,S,λb z g k l=>⟨b,z,.num,wordAt U a,S,M,λw i=>⟨S,h D b z g k l w i⟩⟩⟩
 |false=>
 rw [N (by rw [c2];decide)]at D;refine b1 ⟨_,S,S,_,S,?_⟩;rw [Dz,xR];by_cases u:wordAt U a=du
 .rw [ai u]at D;rw [cq u];refine cf (λb z g k l=>⟨b,z,.given,[],?_,M,λw i=>⟨S,h D b z g k l w i⟩⟩);rw [iF];rfl
 rw [N u]at D;rw [bU u];refine b1 ⟨_,S,wordAt U a,S,as,a0,_,S,?_⟩;cases c4:h4 (wordAt U a)with
 |true=>
  rw [ai c4]at D;exact cf ⟨_,S,λb z g k l=>⟨b,z,.used,wordAt U a,S,M,λw i=>⟨S,h D b z g k l w i⟩⟩⟩
 |false=>
  rw [N (by rw [c4];decide)]at D;exact b1 (D j (bN.refl n j))
abbrev DB:a8:=inClass (top 21) 4
abbrev DC:a8:=inClass (top 21) 7
structure NR where
 a:Z
 lp:Z
 i:Info
 sp:Nat×Nat
def gL(D:Z)(A:Nat)(H:U)(z:NR):Prop:=(∃G,H z.a=Y (.ins D G (eW z.i.aK z.i.word z.i.parent z.lp ((A:Int)-z.sp.1) ((A:Int)-z.sp.2))))/\H z.lp=Y (.lst (z.i.parts.map λM=>V.int (M:Nat)))
structure ez(S T:Z)(D H:U)(a N G M:Z)(ws:List aj)(i:Nat)(rs:List NR)(A:List Nat):Prop where
 rd:hL S H a N G M ws i
 nodes:H G=Y (.lst (rs.map λz=>V.ref z.a))
 around:H M=Y (.lst (A.reverse.map λx=>V.int (x:Nat)))
 nd:∀z∈rs,gL T (fl ws) H z
 nj:(rs.map (·.lp)).Nodup
 nk:(rs.map (·.a)).Nodup
 h8:∀z∈rs,z.lp≠M/\z.lp≠G/\z.lp≠N/\z.a≠a
 lS:G≠M
 lT:N≠M/\N≠G
 ext:Ext D H
 fresh:D a=O/\D G=O/\D M=O/\D N=O/\∀z∈rs,D z.a=O/\D z.lp=O
 bL:rs.length<=30/\A.length<=9/\(∀p∈A,p<rs.length)/\∀z∈rs,z.i.parts.length<=30
variable{Go:List (aa×V)}
theorem gw{H:U}{y:Z}(N:H d=Y (.ins q Q Go))(S:H y=Y (.lst ul)):d≠y:=cW N S (by intro T;cases T)
variable{Hp:List NR}{H:U}{a:Z}
def ez.but(z:ez d s3 s0 H a q Q pp wr wP Hp wE)(D:bN a H r)(U:hL d r a q Q pp wr t):ez d s3 s0 r a q Q pp wr t Hp wE:=by let⟨⟨f,G⟩,g,h⟩:=z.rd;exists U,D _ _ z.nodes (gw G z.nodes).symm,D _ _ z.around (gw G z.around).symm,λN S=>?_,z.nj,z.nk,z.h8,z.lS,z.lT,λc o M=>D c o (z.ext c o M) (by intro b;rw [b,z.fresh.1]at M;cases M),z.fresh,z.bL;let⟨⟨C,e⟩,T⟩:=z.nd N S;exists ⟨C,D _ _ e (z.h8 N S).2.2.2⟩,D _ _ T (gw G T).symm
def ez.new(z:ez wl Da r H q Q pp s3 wr t Hp wE){o:HO}(N:r d=O)(S:d≠q)(T:d≠pp)(U:d≠s3)(b:d≠Q)(c:∀G∈Hp,d≠G.a/\d≠G.lp):ez wl Da r (upd H d o) q Q pp s3 wr t Hp wE:=by let⟨⟨D,e⟩,f,g⟩:=z.rd;exists ⟨⟨D,ah S.symm▸e⟩,ah b.symm▸f,g⟩,ah T.symm▸z.nodes,ah U.symm▸z.around,λG M=>?_,z.nj,z.nk,z.h8,z.lS,z.lT,z.ext.upd N,z.fresh,z.bL;let⟨⟨h,k⟩,l⟩:=z.nd G M;let⟨m,n⟩:=c G M;exists ⟨h,ah m.symm▸k⟩,ah n.symm▸l
def pw{G:NR->NR}{z:NR}(S:z∈Hp.modify t G):∃y∈Hp,z=y\/z=G y:=by
 let⟨U,M⟩:=hR.mp S;rw [vm]at M;let⟨y,T,D⟩:=cv.mp M;exists y,cG T,?_;split at D
 .exact .inr D.symm
 .exact .inl D.symm
theorem kL{c:Type}(z:sK->c)(G:sK->sK)(T:∀D,z (G D)=z D):∀(U:List sK) (M:Nat),(U.modify M G).map z=U.map z
 |[],M=>by simp
 |D::b,0=>by show z (G D)::_=_;rw [T];rfl
 |D::b,M+1=>by show z D::(b.modify M G).map z=_;rw [kL z G T b M];rfl
theorem xS(z:sK->AC)(M:sK->sK)(T:AC->AC)(c:∀D,z (M D)=T (z D)):∀(d:List sK) (G:Nat),(d.modify G M).map z=(d.map z).modify G T
 |[],G=>by simp
 |D::b,0=>by show z (M D)::_=T (z D)::_;rw [c]
 |D::b,G+1=>by show z D::(b.modify G M).map z=z D::_;rw [xS z M T c b G];rfl
variable{i:Nat}
def addPart(D:Nat)(z:NR):NR:={z with i:={z.i with parts:=z.i.parts++[D]}}
def jl(q:Nat)(z:NR):NR:={z with sp:=(z.sp.1,q)}
def ez.attach(z:ez d q r H Q pp s3 wl wr wP Hp wE){n:Nat}{G:NR}(f:Hp[t]?=Y G)(a:G.i.parts.length<30):ez d q r (upd H G.lp (.lst (G.i.parts.map (λy=>V.int (y:Nat))++[V.int (n:Nat)]))) Q pp s3 wl wr wP (Hp.modify t (addPart n)) wE:=by
 let⟨⟨i,m⟩,s,g⟩:=z.rd;have h:=cG f
 let⟨A,u,v,X⟩:=z.h8 G h;have w:=(gw m (z.nd G h).2).symm
 have x:(Hp.modify t (addPart n)).map (·.lp)=Hp.map (·.lp):=kL (·.lp) (addPart n) (λ_=>S) _ _;have B:(Hp.modify t (addPart n)).map (·.a)=Hp.map (·.a):=kL (·.a) (addPart n) (λ_=>S) _ _
 have E:(Hp.modify t (addPart n)).map (λz=>V.ref z.a)=Hp.map λz=>V.ref z.a:=kL (λz:NR=>V.ref z.a) (addPart n) (λ_=>S) _ _;exists ⟨⟨i,by rw [ah w.symm];exact m⟩,by rw [ah v.symm];exact s,g⟩,by rw [ah u.symm,E];exact z.nodes,by rw [ah A.symm];exact z.around,λy C=>?_,by rw [x];exact z.nj,by rw [B];exact z.nk,λy C=>?_,z.lS,z.lT,z.ext.upd (z.fresh.2.2.2.2 G h).2,⟨z.fresh.1,z.fresh.2.1,z.fresh.2.2.1,z.fresh.2.2.2.1,λy C=>?_⟩,by rw [rY];exact z.bL.1,z.bL.2.1,by rw [rY];exact z.bL.2.2.1,λy C=>?_
 .obtain⟨k,e⟩:=hR.mp C;rw [vm]at e;let⟨T,U,D⟩:=cv.mp e;have F:=cG U
  let⟨⟨o,l⟩,K⟩:=z.nd T F;have p:T.a≠G.lp:=gw l (z.nd G h).2
  by_cases c:t=k
  .rw [ai c]at D;subst c;rw [f]at U;obtain rfl:=aS U;subst D;exists ⟨o,?_⟩,?_
   .show upd H G.lp _ G.a=_;rw [ah p];exact l
   .show upd H G.lp _ G.lp=_;rw [M];show _=Y (HO.lst ((G.i.parts++[n]).map _))
    rw [aT];rfl
  .rw [N c]at D;have D:T=y:=D
   subst D;have L:T.lp≠G.lp:=by
    intro P;have b:=z.nj
    have g:(Hp.map (·.lp))[t]?=Y G.lp:=by rw [bh,f];rfl
    have R:(Hp.map (·.lp))[k]?=Y G.lp:=by rw [bh,U];show Y T.lp=_;rw [P]
    have W:=(cF.mp g).1;exact c ((Hi W b).mp (g.trans R.symm))
   exact⟨⟨o,by rw [ah p];exact l⟩,by rw [ah L];exact K⟩
 .obtain⟨T,U,D|D⟩:=pw C
  .rw [D];exact z.h8 T U
  .rw [D];exact z.h8 T U
 .obtain⟨T,U,D|D⟩:=pw C
  .rw [D];exact z.fresh.2.2.2.2 T U
  .rw [D];exact z.fresh.2.2.2.2 T U
 .obtain⟨k,e⟩:=hR.mp C;rw [vm]at e;let⟨T,U,D⟩:=cv.mp e;by_cases c:t=k
  .rw [ai c]at D;subst c;rw [f]at U;obtain rfl:=aS U;rw [<-D];show(G.i.parts++[n]).length<=30
   rw [br];exact a
  .rw [N c]at D;have D:T=y:=D
   rw [<-D];exact z.bL.2.2.2 T (cG U)
def ez.push(D:ez wl q r H Q pp d s3 wr t Hp wE){x:NR}(g:gL q (fl wr) H x)(C:r x.a=O/\r x.lp=O)(h:x.lp≠s3/\x.lp≠d/\x.lp≠pp/\x.a≠Q)(a:∀y∈Hp,x.a≠y.a/\x.lp≠y.lp)(k:Hp.length<30)(e:x.i.parts.length<=30):ez wl q r (upd H d (.lst (Hp.map (λD=>V.ref D.a)++[V.ref x.a]))) Q pp d s3 wr t (Hp++[x]) wE:=by
 let⟨⟨l,f⟩,m,n⟩:=D.rd;have o:=gw f D.nodes
 exists ⟨⟨l,ah o▸f⟩,ah D.lT.2▸m,n⟩,by rw [M,aT];rfl,ah D.lS.symm▸D.around,λy z=>?_,?_,?_,λy z=>?_,D.lS,D.lT,D.ext.upd D.fresh.2.1,⟨D.fresh.1,D.fresh.2.1,D.fresh.2.2.1,D.fresh.2.2.2.1,λy z=>?_⟩,br▸k,D.bL.2.1,λp e=>?_,λy z=>?_
 .rcases bR.mp z with z|z
  .obtain⟨⟨T,G⟩,U⟩:=D.nd y z;exists ⟨T,ah (gw G D.nodes)▸G⟩,ah (D.h8 y z).2.1▸U
  .rw [bb.mp z];let⟨⟨T,G⟩,U⟩:=g;exists ⟨T,ah (gw G D.nodes)▸G⟩,ah h.2.1▸U
 .rw [aT];refine gC.mpr ⟨D.nj,by simp,λu b v c N=>?_⟩;let⟨y,z,rfl⟩:=bH.mp b;rw [bb.mp c]at N;exact(a y z).2 N.symm
 .rw [aT];refine gC.mpr ⟨D.nk,by simp,λu b v c N=>?_⟩;let⟨y,z,rfl⟩:=bH.mp b;rw [bb.mp c]at N;exact(a y z).1 N.symm
 .rcases bR.mp z with z|z
  .exact D.h8 y z
  .rwa [bb.mp z]
 .rcases bR.mp z with z|z
  .exact D.fresh.2.2.2.2 y z
  .rwa [bb.mp z]
 .have:=D.bL.2.2.1 p e;rw [br]
  lia
 .rcases bR.mp z with z|z
  .exact D.bL.2.2.2 y z
  .rwa [bb.mp z]
def ez.xT(z:ez q Q r H pp s3 wl d wr t Hp wE){A':List Nat}(S:A'.length<=9)(T:∀U∈A',U<Hp.length):ez q Q r (upd H d (.lst (A'.reverse.map λb=>V.int (b:Nat)))) pp s3 wl d wr t Hp A':=by
 let⟨⟨c,D⟩,C,e⟩:=z.rd;have f:=gw D z.around
 exists ⟨⟨c,ah f▸D⟩,ah z.lT.1▸C,e⟩,ah z.lS▸z.nodes,M,λy G=>?_,z.nj,z.nk,z.h8,z.lS,z.lT,z.ext.upd z.fresh.2.2.1,z.fresh,z.bL.1,S,T,z.bL.2.2.2;let⟨⟨g,N⟩,h⟩:=z.nd y G;exists ⟨g,ah (gw N z.around)▸N⟩,ah (z.h8 y G).1▸h
variable{Id:Z}
def ez.jl(z:ez pp d r H s3 wl Da Id wr wP Hp wE){q:Nat}{G:NR}(g:Hp[t]?=Y G)(e:H G.a=Y (.ins d Q Go)):ez pp d r (upd H G.a (.ins d Q (eW G.i.aK G.i.word G.i.parent G.lp ((fl wr:Int)-G.sp.1) ((fl wr:Int)-q)))) s3 wl Da Id wr wP (Hp.modify t (Cf.jl q)) wE:=by
 let⟨⟨s,C⟩,l,f⟩:=z.rd;have m:=cG g
 let⟨P,b,R,u⟩:=z.h8 G m;have v:(Hp.modify t (Cf.jl q)).map (·.lp)=Hp.map (·.lp):=kL (·.lp) (Cf.jl q) (λ_=>S) _ _
 have w:(Hp.modify t (Cf.jl q)).map (·.a)=Hp.map (·.a):=kL (·.a) (Cf.jl q) (λ_=>S) _ _;have x:(Hp.modify t (Cf.jl q)).map (λz=>V.ref z.a)=Hp.map λz=>V.ref z.a:=kL (λz:NR=>V.ref z.a) (Cf.jl q) (λ_=>S) _ _
 exists ⟨⟨s,ah u.symm▸C⟩,ah (gw e l).symm▸l,f⟩,by rw [ah (gw e z.nodes).symm,x];exact z.nodes,ah (gw e z.around).symm▸z.around,λy h=>?_,v▸z.nj,w▸z.nk,λy h=>?_,z.lS,z.lT,z.ext.upd (z.fresh.2.2.2.2 G m).1,⟨z.fresh.1,z.fresh.2.1,z.fresh.2.2.1,z.fresh.2.2.2.1,λy h=>?_⟩,by rw [rY];exact z.bL.1,z.bL.2.1,by rw [rY];exact z.bL.2.2.1,λy h=>?_
 .obtain⟨n,o⟩:=hR.mp h;rw [vm]at o;let⟨U,T,D⟩:=cv.mp o;let⟨⟨B,E⟩,k⟩:=z.nd U (cG T);have p:=(gw e k).symm
  by_cases c:t=n
  .rw [ai c]at D;subst c;rw [g]at T;obtain rfl:=aS T;subst D;exists ⟨Q,M⟩,(ah p).trans k
  .rw [N c]at D;have D:=D
   subst D;have F:U.a≠G.a:=by
    intro K;have f:(Hp.map (·.a))[t]?=Y G.a:=by rw [bh,g];rfl
    have L:(Hp.map (·.a))[n]?=Y G.a:=by rw [bh,T];show Y U.a=_;rw [K]
    exact c ((Hi ((cF.mp f).1) z.nk).mp (f.trans L.symm))
   exact⟨⟨B,by rw [ah F];exact E⟩,by rw [ah p];exact k⟩
 .obtain⟨U,T,D|D⟩:=pw h
  .rw [D];exact z.h8 U T
  .rw [D];exact z.h8 U T
 .obtain⟨U,T,D|D⟩:=pw h
  .rw [D];exact z.fresh.2.2.2.2 U T
  .rw [D];exact z.fresh.2.2.2.2 U T
 .obtain⟨U,T,D|D⟩:=pw h
  .rw [D];exact z.bL.2.2.2 U T
  .rw [D];exact z.bL.2.2.2 U T
def xU(z:List aj)(A:Nat):((jP z A:Nat):Int)=(fl z:Int)-(fl (z.drop A):Int):=by
 have:fl z=fl (z.take A)+fl (z.drop A):=by rw [<-kD,vk]
 unfold jP
 lia
def Oi(M:List aj)(T:Nat)(A:List NR)(D:List Nat):fI ⟨M.drop T,A.map (·.i),D,A.map (·.sp)⟩=if A.length=30\/8<D.length then O else(head (M.drop T)).map λG=>(⟨G.2.2,attach (A.map (·.i)) D A.length++[⟨G.1,G.2.1,D.head?,[]⟩],if ek G.1=I then D else A.length::D,A.map (·.sp)++[(fl (M.drop T),fl G.2.2)]⟩:RX):=by
 unfold fI begin_ RX.rs;dsimp only;rw [z];by_cases c:A.length=30\/8<D.length
 .rw [ai c,ai c];rfl
 .rw [N c,N c];cases head (M.drop T)with
  |none=>rfl
  |some G=>rfl
def DD(z:Fm):(cU gK (.inr (cO z))).isSome= !ek z:=by cases z<;>decide+kernel
def rj(S T b:Z)(D:U)(c:VK)(d:XK)(e f g h:Z)(M:List aj):Option RX->Prop
 |none=>∀z,Ext D z->d (.ref b) O z
 |some a=>∀z N A,ez S T D z e f g h M N A a.around->a.ws=M.drop N->a.nodes=A.map (·.i)->a.sp=A.map (·.sp)->c .bw z
inductive xV (z D M:Z) (N:List V) (H:U) (S:VK) (T:XK):Prop
 |mk(a lw ln b ws i c rs A:_)(_:N=[.ref a])(_:ez z D c H a lw ln b ws i rs A)(_:nh ws)(_:(∀p d,A=p::d->∀y,rs[p]?=Y y->y.i.parts.length<30))(_:rj z D M c S T a lw ln b ws (fI ⟨ws.drop i,rs.map (·.i),A,rs.map (·.sp)⟩))
def Oj(fm:a9 K "begin_node" "Reading.begin_node" DB s3 pc)(k:kH K q)(C:pj K d)(fn:L "NoProgram"=Y (.ref pp))(fr:gP K pp fV "Exception.__new__"=I)(fs:L "PARTS"=Y (.ref Q)) (ds:KD K m p Q gK) (cn:L "len"=O)  (f1:L "MOST_NODES"=Y (.int 30 wT)) (f2:L "MOST_AROUND"=Y (.int 8 UV))(f4:r_ 5 q "read_head" ["self"] (DA q d pp)):k_ 6 s3 pc ["self"] (xV q d pp):=by
 refine fm.et ["self","begin","node","label"] λit ix jp kk H kp ks kt dx f8 co _ sz=>?_;let⟨u,cr,R,ap,D,bi,bk,b,ad,rfl,g,ga,ge,h⟩:=f8;exists _,ar (bK (PW.pt (vw (bS cT (cR ej (by rfl) cn dE (A (aF 0) aC)) (b7 f1) (bV _)) (vu (bS vI (cR ej (by rfl) cn dE (A (aF 0) aC)) (b7 f2) (bV _))))) (ay (jH j8 (by decide) fr S fn dx.hd)) bQ) (ar (bj 1 co (aF 0)) (ar (bj 2 co (dR (T 0) f4 dx dw)) (ar (dQ (T 2) (T 1) S) (ar (dQ (T 2) (aF 0) S) (ar (bj 3 co (cR ej (by rfl) cn dE (A (aF 0) aC))) (ar (bK (sg (aF 0) (λ_=>S)) (ar (dQ (T 2) (cc dk (aF 0) (vD vG cL) (λ_ _=>S)) S) (ay (cM (fe fu gb gF fR (fQ (cc dk (aF 0) (aF 2) (λ_ _=>S)) S) (aJ 3))))) bQ) (ar (cM (fe fu gb gF fR (aF 0) (aJ 2))) (ay (bK (i0 (wB (aF 2) (ei (v:=.ref Q) S fs S)) S) (ay (cM (fe fu gb gF fR (aF 0) (aJ 3)))) bQ))))))))),?_;let⟨⟨bl,bm⟩,gl,kw,kP,kV⟩:=g.rd;rw [Oi]at h;exists _,S,u,q,bl,_,_,S,bm,k.cl,k.nodes,nc,R,_,S,.inl (av.of g.nodes),S,_,S,?_;rw [z];by_cases dK:b.length=30
 .rw [ai (.inl dK)]at h;rw [dK];exact cf (cf (h H g.ext))
 have cs:decide (V.int ((b.length:Nat):Int)=V.int 30)=ao:=bU λa1=>by injection a1 with a1;lia
 rw [cs];refine b1 ⟨_,S,u,q,bl,_,_,S,bm,k.cl,k.around,lO,ap,_,S,.inl (av.of g.around),_,_,S,S,_,S,?_⟩;rw [z,TN];by_cases dL:8<ad.length
 .rw [ai (.inr dL)]at h;rw [cq (by lia)];exact cf (h H g.ext)
 rw [bU (by lia)];rw [N (by lia)]at h;refine b1 ⟨_,S,u,q,bl,_,_,S,bm,k.cl,k.taken,xC,_,S,u,bl,_,S,bm,gv (.inr (.inr (.inr (.inr (.inl S))))),u,cr,R,ap,D,bi,S,g.rd,ga,?_⟩;cases dT:head (D.drop bi)with
 |none=>
  rw [dT]at h;exactλgo a2=>h go λc o B=>a2 c o (g.ext c o B) (by intro a1;rw [a1,g.fresh.1]at B;cases B)
 |some gt=>
 let⟨w,e,k0⟩:=gt;rw [dT]at h;intro a3 j G f k1 al dX t;have g1:=g.but t.but dX
 let⟨r,d0⟩:=t.nd;let⟨⟨g2,g3⟩,k2,k3,k5,la⟩:=id dX;have a4:∀{a2:Z} {o:HO},H a2=Y o->G≠a2/\f≠a2:=λB=>⟨λa1=>(by rw [<-a1,t.xM]at B;cases B),λa1=>(by rw [<-a1,t.xN]at B;cases B)⟩
 have a5:=a4 g.nodes;have ct:=a4 g.around
 have c0:=a4 gl;have am:∀y∈b,(G≠y.a/\f≠y.a)/\G≠y.lp/\f≠y.lp:=λy s=>by let⟨⟨d1,c1⟩,bn⟩:=g.nd y s;exists a4 c1,a4 bn
 have c2:bk G=O/\bk f=O:=⟨g.ext.none t.xM,g.ext.none t.xN⟩
 have em:=gw d0 t.lp;exists _,S,_,S,G,d,r,_,S,d0,C.cl,C.begin_,(by show 6<1000;decide),?_;exists _,S,u,q,g2,_,_,S,by rw [ah t.pq.symm];exact g3,k.cl,k.taken,xC,_,S,G,d,r,_,S,M,C.cl,C.end_,(by show 6<1000;decide),?_;rw [gS];have an:=g1.new (o:=.ins d r (eW w e O f ((fl D:Int)-(fl (D.drop bi):Int)) ((fl D:Int)-(fl (D.drop j):Int)))) c2.1 t.pq a5.1 ct.1 c0.1 λy s=>⟨(am y s).1.1,(am y s).2.1⟩
 have eq:upd a3 G (.ins d r (aO "end" (.int (jP D j)) (aO "begin" (.int (jP D bi)) (eW w e O f 0 0))))=upd a3 G (.ins d r (eW w e O f ((fl D:Int)-(fl (D.drop bi):Int)) ((fl D:Int)-(fl (D.drop j):Int)))):=by rw [<-xU,<-xU];rfl
 rw [eq];have c3:upd a3 G (.ins d r (eW w e O f ((fl D:Int)-(fl (D.drop bi):Int)) ((fl D:Int)-(fl (D.drop j):Int)))) G=Y (.ins d r (eW w e O f ((fl D:Int)-(fl (D.drop bi):Int)) ((fl D:Int)-(fl (D.drop j):Int)))):=M
 have es:upd a3 G (.ins d r (eW w e O f ((fl D:Int)-(fl (D.drop bi):Int)) ((fl D:Int)-(fl (D.drop j):Int)))) f=Y (.lst []):=(ah em.symm).trans t.lp;clear eq;generalize upd a3 G (.ins d r (eW w e O f ((fl D:Int)-(fl (D.drop bi):Int)) ((fl D:Int)-(fl (D.drop j):Int))))=bs at*;let⟨⟨bt,bv⟩,_⟩:=an.rd;exists _,S,u,q,bt,_,_,S,bv,k.cl,k.nodes,nc,R,_,S,.inl (av.of an.nodes),?_;exists _,S,u,q,bt,_,_,S,bv,k.cl,k.around,lO,_,.inl ⟨_,av.of an.around,S⟩,?_;have ev:∀{as:U} {ab:List NR},ez q d bk as u cr R ap D j ab ad->ab.map (·.i)=attach (b.map (·.i)) ad b.length->ab.map (·.sp)=b.map (·.sp)->(∀y∈ab,∃a1∈b,y.a=a1.a/\y.lp=a1.lp)->as G=Y (.ins d r (eW w e ad.head? f ((fl D:Int)-(fl (D.drop bi):Int)) ((fl D:Int)-(fl (D.drop j):Int))))->as f=Y (.lst [])->
   ∃E:ez q d bk (upd as R (.lst (ab.map (λg=>V.ref g.a)++[V.ref G]))) u cr R ap D j (ab++[⟨G,f,⟨w,e,ad.head?,[]⟩,(fl (D.drop bi),fl (D.drop j))⟩]) ad,ab.length=b.length:=by
  intro as ab a0 ca bd hd cd c4;have ce:ab.length=b.length:=by have:=bD cN bd;simpa using this
  exists a0.push (x:=⟨G,f,⟨w,e,ad.head?,[]⟩,(fl (D.drop bi),fl (D.drop j))⟩) ⟨⟨r,cd⟩,c4⟩ c2 ⟨ct.2,a5.2,c0.2,t.pq⟩ (λy s=>?_) ?_ (cP _),ce
  .obtain⟨a1,ch,cs,he⟩:=hd y s;let⟨hf,hi⟩:=am a1 ch;rw [cs,he];exists hf.1,hi.2
  .have:=g.bL.1
   lia
 have lb:∀{y:NR},y∈b->y.lp≠G:=λs=>(am _ s).2.1.symm;cases ex:ad with
 |nil=>
  subst ex;refine b1 ?_;let⟨E,ce⟩:=ev an S rfl (λy s=>⟨y,s,S,S⟩) c3 es;exists _,S,u,q,bt,_,_,S,bv,k.cl,k.nodes,nc,.inl ⟨S,_,av.of an.nodes⟩,_,S,R,_,_,S,S,an.nodes,by rw [z];have:=g.bL.1;lia,?_;have c5:upd bs R (.lst (b.map (λg=>V.ref g.a)++[V.ref G])) G=_:=(ah a5.1).trans c3
  let⟨⟨c6,c7⟩,_⟩:=E.rd;exists _,S,G,d,r,_,_,S,c5,C.cl,C.aK,S,Q,_,S,⟨gK,.inr (cO w),ds,S,S⟩,_,S,?_;rw [DD];cases be:ek w with
  |true=>
   refine b1 ?_;refine h _ j (b++[⟨G,f,⟨w,e,([]:List Nat).head?,[]⟩,(fl (D.drop bi),fl (D.drop j))⟩]) ?_ al.symm ?_ ?_
   .dsimp only;rw [ai be];exact E
   .rw [aT];rfl
   .rw [aT,<-al];rfl
  |false=>
   refine cf ?_;exists _,S,u,q,c6,_,_,S,c7,k.cl,k.around,lO,.inl ⟨S,_,av.of E.around⟩,_,S,ap,_,_,S,S,E.around,(by decide),?_;have c8:=E.xT (A':=[b.length]) (by show 1<=9;decide) (λl hm=>by rw [bb.mp hm,br];simp)
   refine h _ j (b++[⟨G,f,⟨w,e,([]:List Nat).head?,[]⟩,(fl (D.drop bi),fl (D.drop j))⟩]) ?_ al.symm ?_ ?_
   .dsimp only;rw [N (by rw [be];decide)];have c9:(rV (λe=>V.int ((e:Nat):Int)) ([]:List Nat).reverse++[V.int ((rV (λg:NR=>V.ref g.a) b).length:Int)])=rV (λe=>V.int ((e:Nat):Int)) [b.length].reverse:=by
     rw [z];rfl
    rw [c9];exact c8
   .rw [aT];rfl
   .rw [aT,<-al];rfl
 |cons l X=>
  subst ex;have hz:l<b.length:=g.bL.2.2.1 l bE
  obtain⟨y,s⟩:∃y,b[l]?=Y y:=⟨_,gf hz⟩
  have ci:=cG s;have fa:((l::X).reverse.map λe=>V.int ((e:Nat):Int))=(X.reverse.map λe=>V.int ((e:Nat):Int))++[V.int ((l:Nat):Int)]:=by rw [zZ,aT];rfl
  have h0:(!((l::X).reverse.map λe=>V.int ((e:Nat):Int)).isEmpty)=I:=by rw [fa];simp
  rw [h0];refine cf ?_;exists _,S,u,q,bt,_,_,S,bv,k.cl,k.around,lO,_,S,ap,_,_,_,S,S,av.of an.around,by rw [fa];exact vS _ _,_,S,G,d,r,_,S,c3,C.cl,C.parent,(by show 6<1000;decide),?_;have cl:=an.new (o:=.ins d r (aO "parent" (.int (l:Nat)) (eW w e O f ((fl D:Int)-(fl (D.drop bi):Int)) ((fl D:Int)-(fl (D.drop j):Int))))) c2.1 t.pq a5.1 ct.1 c0.1 λy s=>⟨(am y s).1.1,(am y s).2.1⟩
  have fd:upd bs G (.ins d r (aO "parent" (.int (l:Nat)) (eW w e O f ((fl D:Int)-(fl (D.drop bi):Int)) ((fl D:Int)-(fl (D.drop j):Int))))) G=Y (.ins d r (eW w e (Y l) f ((fl D:Int)-(fl (D.drop bi):Int)) ((fl D:Int)-(fl (D.drop j):Int)))):=M;have h1:upd bs G (.ins d r (aO "parent" (.int (l:Nat)) (eW w e O f ((fl D:Int)-(fl (D.drop bi):Int)) ((fl D:Int)-(fl (D.drop j):Int))))) f=Y (.lst []):=(ah em.symm).trans es
  generalize upd bs G (.ins d r (aO "parent" (.int (l:Nat)) (eW w e O f ((fl D:Int)-(fl (D.drop bi):Int)) ((fl D:Int)-(fl (D.drop j):Int)))))=db at*;let⟨⟨h2,ii⟩,_⟩:=cl.rd;let⟨⟨d1,c1⟩,bn⟩:=cl.nd y ci;exists _,S,u,q,h2,_,_,S,ii,k.cl,k.nodes,nc,_,S,G,d,r,_,_,S,fd,C.cl,C.parent,S,R,_,_,_,S,S,av.of cl.nodes,e2 (by rw [bh,s];rfl),y.a,d,d1,_,_,S,c1,C.cl,C.parts,S,.inl ⟨S,_,av.of bn⟩,_,S,y.lp,_,_,S,S,bn,by rw [z];have:=g.bL.2.2.2 y ci;lia,?_;rw [z];have a0:=cl.attach (n:=b.length) s (ge l X S y s)
  have cd:upd db y.lp (.lst (y.i.parts.map (λa1=>V.int ((a1:Nat):Int))++[V.int ((b.length:Nat):Int)])) G=_:=(ah (am y ci).2.1).trans fd;have c4:upd db y.lp (.lst (y.i.parts.map (λa1=>V.int ((a1:Nat):Int))++[V.int ((b.length:Nat):Int)])) f=_:=(ah (am y ci).2.2).trans h1
  generalize upd db y.lp (.lst (y.i.parts.map (λa1=>V.int ((a1:Nat):Int))++[V.int ((b.length:Nat):Int)]))=as at*;have ca:(b.modify l (addPart b.length)).map (·.i)=attach (b.map (·.i)) (l::X) b.length:=xS (·.i) (addPart b.length) _ (λ_=>S) _ _
  have bd:(b.modify l (addPart b.length)).map (·.sp)=b.map (·.sp):=kL (·.sp) (addPart b.length) (λ_=>S) _ _;let⟨E,ce⟩:=ev a0 ca bd (λy s=>by
   obtain⟨a1,ch,B|B⟩:=pw s
   .exact⟨a1,ch,by rw [B],by rw [B]⟩
   .exact⟨a1,ch,by rw [B];rfl,by rw [B];rfl⟩) cd c4
  let⟨⟨im,io⟩,_⟩:=a0.rd;exists _,S,u,q,im,_,_,S,io,k.cl,k.nodes,nc,.inl ⟨S,_,av.of a0.nodes⟩,_,S,R,_,_,S,S,a0.nodes,by rw [z];have:=a0.bL.1;lia,?_;have c5:upd as R (.lst ((b.modify l (addPart b.length)).map (λg=>V.ref g.a)++[V.ref G])) G=_:=(ah a5.1).trans cd
  let⟨⟨c6,c7⟩,_⟩:=E.rd;exists _,S,G,d,r,_,_,S,c5,C.cl,C.aK,S,Q,_,S,⟨gK,.inr (cO w),ds,S,S⟩,_,S,?_;rw [DD];cases be:ek w with
  |true=>
   refine b1 ?_;refine h _ j (b.modify l (addPart b.length)++[⟨G,f,⟨w,e,(l::X).head?,[]⟩,(fl (D.drop bi),fl (D.drop j))⟩]) ?_ al.symm ?_ ?_
   .dsimp only;rw [ai be];exact E
   .rw [aT,ca];rfl
   .rw [aT,bd,<-al];rfl
  |false=>
   refine cf ?_;exists _,S,u,q,c6,_,_,S,c7,k.cl,k.around,lO,.inl ⟨S,_,av.of E.around⟩,_,S,ap,_,_,S,S,E.around,by rw [z,TN];have:=E.bL.2.1;lia,?_;have c8:=E.xT (A':=b.length::l::X) (by simp only [dn]at dL⊢;lia) (λis dd=>by
    rw [br];rcases bg.mp dd with B|dd
    .rw [B];simp [ce]
    .have:=E.bL.2.2.1 is dd;rw [br]at this;exact this)
   refine h _ j (b.modify l (addPart b.length)++[⟨G,f,⟨w,e,(l::X).head?,[]⟩,(fl (D.drop bi),fl (D.drop j))⟩]) ?_ al.symm ?_ ?_
   .dsimp only;rw [N (by rw [be];decide)];have c9:(rV (λe=>V.int ((e:Nat):Int)) (l::X).reverse++[V.int ((b.length:Nat):Int)])=rV (λe=>V.int ((e:Nat):Int)) (b.length::l::X).reverse:=by
     rw [zZ (a:=b.length),aT];rfl
    rw [c9];exact c8
   .rw [aT,ca];rfl
   .rw [aT,bd,<-al];rfl
structure nq(z:RX):Prop where
 at_:∀p∈z.around,∃i,z.nodes[p]?=Y i/\ek i.aK=ao/\i.parts.length<=arity i.aK
 nd:z.around.Nodup
def Ol(z:Fm):arity z<=3:=by cases z<;>decide
def DE{z f:RX}(g:fI z=Y f)(a:nq z)(l:∀D d,z.around=D::d->∀A,z.nodes[D]?=Y A->A.parts.length<arity A.aK):nq f:=by
 unfold fI at g;let⟨p,b,rfl⟩:=cv.mp g;unfold begin_ at b;split at b
 .cases b
 .obtain⟨M,q,rfl⟩:=cv.mp b;have h:∀D∈z.around,∃A,(attach z.nodes z.around z.nodes.length++[(⟨M.1,M.2.1,z.around.head?,[]⟩:Info)])[D]?=Y A/\ek A.aK=ao/\A.parts.length<=arity A.aK:=by
   intro D G;let⟨A,T,i,m⟩:=a.at_ D G;have n:=(cF.mp T).1
   cases j:z.around with
   |nil=>rw [j]at G;cases G
   |cons e d=>
    show∃A,((z.nodes.modify e λA=>{A with parts:=A.parts++[z.nodes.length]})++_)[D]?=Y A/\_;rw [uC (by rw [rY];exact n),vm,T];by_cases c:e=D
    .subst c;exists {A with parts:=A.parts++[z.nodes.length]},by simp,i,?_;have:=l e d j A T
     rw [br];exact this
    .exact⟨A,by simp [c],i,m⟩
  by_cases U:ek M.1=I
  .refine⟨?_,?_⟩
   .rw [ai U];exact h
   .rw [ai U];exact a.nd
  .refine⟨?_,?_⟩
   .rw [N U];intro D G;rcases bg.mp G with rfl|G
    .refine⟨⟨M.1,M.2.1,z.around.head?,[]⟩,?_,by simpa using U,cP _⟩;have k:=oZ z.nodes z.around z.nodes.length
     show(attach z.nodes z.around z.nodes.length++[_])[z.nodes.length]?=_;rw [hu (by rw [k];exact aR _),k,kd];rfl
    .exact h D G
   .rw [N U];refine eh.mpr ⟨λo=>?_,a.nd⟩;let⟨A,T,_⟩:=a.at_ _ o;have:=(cF.mp T).1
    exact jY _ this
def Om{D M:RX}(z:fi D=Y M)(A:nq D):nq M:=by
 let⟨l,d,T,m⟩:=D;cases T with
 |nil=>cases z
 |cons p T=>
  let⟨U,e,n,o⟩:=A.at_ p bE;have a:=e
  unfold fi at z;simp only [a]at z;by_cases c:U.parts.length=arity U.aK
  .rw [ai c]at z;let⟨f,g,rfl⟩:=cv.mp z;exists λb G=>A.at_ b (bC _ G),(eh.mp A.nd).2
  .rw [N c]at z;let⟨f,g,h⟩:=ft.mp z;refine DE h ⟨A.at_,A.nd⟩ λb q G i j=>?_;injection G with k r;subst k;have:d[p]?=Y i:=j
   rw [a]at this;obtain rfl:=aS this
   lia
def DF(G:sB≠[]):pass sB (wr.drop t)=if wordAt wr t=sB then Y (wr.drop (t+1))else O:=by
 by_cases c:t<wr.length
 .rw [jQ c];rfl
 .rw [jk (by lia),kI (by lia),N G.symm];rfl
def Oo{z:Fm}(A:ek z=ao):Y (V.int (arity z))=cU gK (.inr (cO z)):=by cases z<;>first|exact absurd A (by decide)|decide+kernel
def Oq:(dO ")")=bB [41]:=by decide+kernel
def xX(z:List aj)(A:Nat):z.drop (jw (A+1) z.length)=z.drop (A+1):=by
 by_cases c:A<z.length
 .rw [ik c]
 .rw [n7 (by lia),jk (aR _),jk (by lia)]
inductive DG (z D M:Z) (N:List V) (H:U) (S:VK) (T:XK):Prop
 |mk(a lw ln b ws i c rs p A:_)(_:N=[.ref a])(_:ez z D c H a lw ln b ws i rs (p::A))(_:nh ws)(_:nq ⟨ws.drop i,rs.map (·.i),p::A,rs.map (·.sp)⟩)(_:rj z D M c S T a lw ln b ws (fi ⟨ws.drop i,rs.map (·.i),p::A,rs.map (·.sp)⟩))
def Ot(c2:a9 K "read_on" "Reading.read_on" DC wl pc)(C:kH K d)(r:pj K Q)(c3:L "PARTS"=Y (.ref s3)) (c4:KD K m p s3 gK) (c5:L "len"=O)  (c7:L "CALL"=Y (.str "a call" wT))(ca:r_ 3 d "pass_over" ["self","word"] (xF d pp)) (c8:r_ 6 d "begin_node" ["self"] (xV d Q pp)):k_ 7 wl pc ["self"] (DG d Q pp):=by
 refine c2.et ["self","inner"] λfd fm fn fr H fs cd bd ce c9 db _ sz=>?_;let⟨b,G,n,k,D,M,h,f,g,l,rfl,w,be,dd,X⟩:=c9;have ch:=ce.mo 3
 exists _,ar (bj 1 db (cc dk (aF 0) (cc dk (aF 0) (vD vG cL) (λ_ _=>S)) (λ_ _=>S))) (ar (bK (bS cT (cR ej (by rfl) c5 dE (A (aF 1) aC)) (wA (ei (v:=.ref s3) S c3 S) (aF 1) (λ_ _=>S)) (bV _)) (ar (cM (eL (T 0) ca ch dw (A dP aC))) (ar (dQ (T 1) (aF 0) S) (ar (cM (JJ fu R6 PySem.F.type_list_pop JQ (aF 0))) (ay Im)))) bQ) (ar (bK (PW.pt (vw (bS qv (aF 1) (hl c7) (bV _)) (vu (sg (aF 1) (λ_=>S))))) (ay (cM (eL (T 0) ca ch dw (A dP aC)))) bQ) (ay (cM (dR (T 0) c8 ce dw))))),?_;let⟨⟨ab,ad⟩,fT,f0,f1,f2⟩:=w.rd;have dl:=w.bL.2.2.1 g bE
 obtain⟨y,am⟩:∃y,f[g]?=Y y:=⟨_,gf dl⟩
 have ci:=cG am;let⟨⟨a0,a1⟩,cl⟩:=w.nd y ci;have cn:(f.map (·.i))[g]?=Y y.i:=by rw [bh,am];rfl
 let⟨f4,dp,ds,f8⟩:=dd.at_ g bE;have co:=dp
 rw [cn]at co;obtain rfl:=aS co;have ga:=Ol y.i.aK
 have bi:((g::l).reverse.map λj=>V.int ((j:Nat):Int))=(l.reverse.map λj=>V.int ((j:Nat):Int))++[V.int ((g:Nat):Int)]:=by rw [zZ,aT];rfl
 exists _,S,b,d,ab,_,_,S,ad,C.cl,C.nodes,nc,_,S,b,d,ab,_,_,S,ad,C.cl,C.around,lO,_,S,k,_,_,_,S,S,av.of w.around,bi▸vS _ _,n,_,_,_,S,S,av.of w.nodes,e2 (by rw [bh,am];rfl),?_;exists _,S,y.a,Q,a0,_,_,S,a1,r.cl,r.parts,S,y.lp,_,S,.inl (av.of cl),_,S,y.a,Q,a0,_,_,S,a1,r.cl,r.aK,S,s3,_,S,⟨gK,.inr (cO y.i.aK),c4,S,Oo ds⟩,S,_,S,?_;rw [z];have dx:fi ⟨D.drop M,f.map (·.i),g::l,f.map (·.sp)⟩=if y.i.parts.length=arity y.i.aK then(pass [41] (D.drop M)).map λw=>(⟨w,f.map (·.i),l,(f.map (·.sp)).modify g λj=>(j.1,fl w)⟩:RX)
  else((if y.i.aK≠.call\/y.i.parts≠[]then pass [32] (D.drop M)else Y (D.drop M))).bind λw=>fI ⟨w,f.map (·.i),g::l,f.map (·.sp)⟩:=by
  unfold fi;simp only [cn]
 rw [dx]at X;have cr:∀{e:U},bN b H e->Ext h e:=λdK c o an=>dK c o (w.ext c o an) (by intro E;rw [E,w.fresh.1]at an;cases an)
 by_cases a2:y.i.parts.length=arity y.i.aK
 .rw [ai a2,DF (by decide)]at X;rw [cq (by rw [a2])];refine cf ⟨_,S,b,ab,_,S,ad,gv (.inr (.inr (.inl S))),b,G,n,k,D,M,[41],?_,w.rd,λe s t=>?_⟩
  .rw [<-Oq];rfl
  by_cases R:wordAt D M=[41]
  .rw [ai R]at X⊢;have al:=w.but t s
   let⟨⟨x,W⟩,ge,gl,go,gt⟩:=id s;let⟨⟨a3,cs⟩,g1⟩:=al.nd y ci;exists _,S,b,d,x,_,_,S,W,C.cl,C.taken,xC,_,S,y.a,Q,a3,_,S,cs,r.cl,r.end_,(by show 6<1000;decide),?_;have a4:=al.jl (q:=fl (D.drop (M+1))) am cs
   have dL:upd e y.a (.ins Q a3 (aO "end" (.int (jP D (jw (M+1) D.length))) (eW y.i.aK y.i.word y.i.parent y.lp ((fl D:Int)-y.sp.1) ((fl D:Int)-y.sp.2))))=upd e y.a (.ins Q a3 (eW y.i.aK y.i.word y.i.parent y.lp ((fl D:Int)-y.sp.1) ((fl D:Int)-(fl (D.drop (M+1)):Nat)))):=by rw [xU,xX];rfl
   rw [dL];generalize upd e y.a (.ins Q a3 (eW y.i.aK y.i.word y.i.parent y.lp ((fl D:Int)-y.sp.1) ((fl D:Int)-(fl (D.drop (M+1)):Nat))))=g2 at*;let⟨⟨dT,dX⟩,_⟩:=a4.rd;exists _,S,b,d,dT,_,_,S,dX,C.cl,C.around,lO,.inl ⟨S,_,av.of a4.around⟩,k,_,V.int (g:Nat),S,S,a4.around,?_,?_
   .rw [bi,br];show(_++[_])[_+1-1]?=_
    rw [SO,hu (aR _),kd];rfl
   .rw [bi,List.dropLast_concat];have d0:=a4.xT (A':=l) (by have:=w.bL.2.1;rw [dn]at this;lia) (λd1 em=>by rw [rY];exact w.bL.2.2.1 d1 (bC _ em))
    refine X _ _ _ d0 (xX D M).symm ?_ ?_
    .exact(kL (·.i) (Cf.jl (fl (D.drop (M+1)))) (λ_=>S) _ _).symm
    .exact(xS (·.sp) (Cf.jl (fl (D.drop (M+1)))) _ (λ_=>S) _ _).symm
  .rw [N R]at X⊢;exact X e (cr t)
 .rw [N a2]at X;rw [bU (λE=>a2 (by injection E with E;lia))];have eq:y.i.parts.length<30:=by lia
  have bk:∀bl ct,g::l=bl::ct->∀E,f[bl]?=Y E->E.i.parts.length<30:=λbl ct an E c0=>by injection an with es _;subst es;rw [am]at c0;obtain rfl:=aS c0;exact eq
  refine b1 ⟨_,S,y.a,Q,a0,_,_,S,a1,r.cl,r.aK,S,S,_,S,?_⟩;have ev:decide (V.str (cO y.i.aK)=V.str (dO "a call"))=decide (y.i.aK=.call):=rg y.i.aK .call
  rw [ev];have c1:∀(ap:rj d Q pp h cd bd b G n k D ((pass [32] (D.drop M)).bind λw=>fI ⟨w,f.map (·.i),g::l,f.map (·.sp)⟩)),∀e,hL d e b G n k D (jw (M+1) D.length)->bN b H e->(wordAt D M=[32]->∃x:Z,e b=Y (.ins d x (kG G (jw (M+1) D.length:Nat) (jP D (jw (M+1) D.length)) n k))/\ez d Q h e b G n k D (jw (M+1) D.length) f (g::l)/\rj d Q pp h cd bd b G n k D (fI ⟨D.drop (jw (M+1) D.length),f.map (·.i),g::l,f.map (·.sp)⟩))/\(¬wordAt D M=[32]->bd (.ref pp) O e):=by
   intro ap e s t;rw [DF (by decide)]at ap;exists λc=>?_,λc=>?_
   .rw [ai c]at ap;let⟨⟨x,W⟩,_⟩:=id s;exists x,W,w.but t s,?_;rwa [xX]
   .rw [N c]at ap;exact ap e (cr t)
  by_cases R:y.i.aK=.call
  .rw [cq R];refine b1 ⟨_,S,y.a,Q,a0,_,_,S,a1,r.cl,r.parts,S,_,.inl ⟨_,av.of cl,S⟩,?_⟩;by_cases a5:y.i.parts=[]
   .rw [N (by rw [R,a5];simp)]at X;rw [a5];exact b1 ⟨_,S,b,ab,_,S,ad,gv (.inr (.inr (.inr (.inl S)))),b,G,n,k,D,M,h,f,g::l,S,w,be,bk,X⟩
   .rw [ai (.inr a5)]at X;have ex:(!(y.i.parts.map λj=>V.int ((j:Nat):Int)).isEmpty)=I:=by
     cases fa:y.i.parts with
     |nil=>exact absurd fa a5
     |cons u v=>rfl
    rw [ex];refine cf ⟨_,S,b,ab,_,S,ad,gv (.inr (.inr (.inl S))),b,G,n,k,D,M,[32],?_,w.rd,λe s t=>?_⟩
    .rw [<-xQ];rfl
    let⟨bm,bn⟩:=c1 X e s t;by_cases B:wordAt D M=[32]
    .rw [ai B];let⟨x,W,al,bs⟩:=bm B;exists _,S,b,x,_,S,W,gv (.inr (.inr (.inr (.inl S)))),b,G,n,k,D,_,h,f,g::l,S,al,be,bk,bs
    .rw [N B];exact bn B
  .rw [ai (.inl R)]at X;rw [bU R];refine cf (cf ⟨_,S,b,ab,_,S,ad,gv (.inr (.inr (.inl S))),b,G,n,k,D,M,[32],?_,w.rd,λe s t=>?_⟩)
   .rw [<-xQ];rfl
   let⟨bm,bn⟩:=c1 X e s t;by_cases B:wordAt D M=[32]
   .rw [ai B];let⟨x,W,al,bs⟩:=bm B;exists _,S,b,x,_,S,W,gv (.inr (.inr (.inr (.inl S)))),b,G,n,k,D,_,h,f,g::l,S,al,be,bk,bs
   .rw [N B];exact bn B
abbrev DH:a8:=inClass (top 21) 0
abbrev DI:a8:=top 26
def px(z:UInt8):Bool:=e6 z||z==63
set_option tactic.hygienic true
theorem pz:∀(U G A:aj),(G.all λz=>px z&& !fH z)=I->(U.all px)=I->A∈bY G U->h6 A=I/\(¬(32:UInt8)∈A\/A=[32])/\A.length<=G.length+U.length
 |[],G,A,hw,b,a=>by
  rw [bY]at a;split at a
  .cases a
  .rw [bb.mp a];refine⟨?_,.inl λd=>?_,by simp⟩
   .rw [js]at hw;unfold h6;rw [js];intro z g;have:=hw z g
    rw [bx]at this;exact this.1
   .rw [js]at hw;have:=hw 32 d
    revert this;decide
 |z::e,G,A,hw,b,a=>by
  rw [iN,bx]at b;rw [bY]at a;split at a
  .rename_i f;have:A∈(if G.isEmpty=I then []else [G])\/A=[z]\/A∈bY [] e:=by
    rcases bR.mp a with D|D
    .exact .inl D
    .rcases bg.mp D with D|D
     .exact .inr (.inl D)
     .exact .inr (.inr D)
   rcases this with D|D|D
   .have h:A∈bY G []:=by rwa [bY]
    let⟨M,N,T⟩:=pz [] G A hw rfl h;exact⟨M,N,by simp at T⊢;lia⟩
   .subst D;refine⟨?_,?_,by simp;lia⟩
    .show([z].all λz=>e6 z||z==63)=I;rw [iN,bx];exists b.1,S
    .by_cases c:z=32
     .exact .inr (by rw [c])
     .exact .inl λd=>c (bb.mp d).symm
   .obtain⟨M,N,T⟩:=pz e [] A S b.2 D;exact⟨M,N,by simp at T⊢;lia⟩
  .rename_i f;have i:((G++[z]).all λz=>px z&& !fH z)=I:=by
    rw [zM,hw,rX,iN,Th,Ti,b.1,rX];simpa using f
   let⟨M,N,T⟩:=pz e (G++[z]) A i b.2 a;exact⟨M,N,by simp at T⊢;lia⟩
set_option tactic.hygienic false
theorem xY:∀(A z:aj),(bY z A).length<=2*A.length+1
 |[],z=>by rw [bY];split<;>simp
 |b::a,z=>by
  rw [bY];have D:=xY a []
  have G:=xY a (z++[b]);split
  .rw [br,dn,dn];split<;>simp<;>lia
  .rw [dn];lia
def xZ(A:aj):((A.map norm).all px)=I:=by
 rw [TF,js];intro z _;show px (norm z)=I
 unfold norm px;by_cases c:e6 z=I
 .rw [ai c,c];rfl
 .rw [N c];decide
theorem Ou(z:aj):nh (bY [] (z.map norm)):=⟨λA D=>(pz _ [] A S (xZ z) D).1,λA D=>(pz _ [] A S (xZ z) D).2.1⟩
def Ov(A:aj):fl (bY [] (A.map norm))=A.length:=by rw [<-xh,qS,dh,z]
inductive DJ (M:Z) (N:List V) (H:U) (S:VK) (T:XK):Prop
 |mk(a b lw:_)(_:N=[.ref a,.ref lw])(_:H a=Y (.ins M b []))(_:∀z A D,bN a H z->H A=O->H D=O->A≠D->A≠a->D≠a->z A=Y (.lst [])->z D=Y (.lst [])->z a=Y (.ins M b (kG lw 0 0 A D))->S .bw z)
def Ow(i:a9 K "__init__" "Reading.__init__" DH q pc)(A:kH K d):f_ 1 q pc ["self","words"] (DJ d):=by
 refine i.go ["self","words"] λt u v x H y B C E n _ _ _=>?_;let⟨b,a,F,rfl,j,w⟩:=n;exists _,ar (dQ (T 0) (T 1) S) (ar (dQ (T 0) cL S) (ar (dQ (T 0) cL S) (ar (dQ (T 0) (de aC) S) (ay (dQ (T 0) (de aC) S))))),?_;exists _,S,_,S,b,d,a,_,S,j,A.cl,A.words,(by decide),?_;exists _,S,b,d,a,_,S,M,A.cl,A.at_,(by show 1<1000;decide),?_;exists _,S,b,d,a,_,S,M,A.cl,A.taken,(by show 2<1000;decide),?_;exists cP _,λf c=>?_;have D:f≠b:=by intro N;rw [N,M]at c;cases c
 exists _,S,b,d,a,_,S,by rw [ah D.symm,M],A.cl,A.nodes,(by show 3<1000;decide),?_;exists cP _,λg U=>?_;have z:g≠b:=by intro N;rw [N,M]at U;cases U
 have h:g≠f:=by intro N;rw [ah z,N,M]at U;cases U
 exists _,S,b,d,a,_,S,by rw [ah z.symm,M],A.cl,A.around,(by show 4<1000;decide),?_;refine w _ f g (λk o l e=>?_) ?_ ?_ h.symm D z ?_ ?_ M
 .have r:k≠f:=by intro N;rw [ah D,ah D,ah D,<-N,l]at c;cases c
  have s:k≠g:=by intro N;rw [ah z,ah h,ah z,ah z,ah z,<-N,l]at U;cases U
  rwa [ah e,ah s,ah e,ah r,ah e,ah e,ah e]
 .rw [ah D,ah D,ah D]at c;exact c
 .rw [ah z,ah h,ah z,ah z,ah z]at U;exact U
 .rw [ah D,ah h.symm,ah D,M]
 .rw [ah z,M]
def x6(N S:Z)(H:U)(T:VK)(a:XK)(b:Nat):Option (List Info×List (Nat×Nat))->Prop
 |none=>∀z,Ext H z->a (.ref S) O z
 |some (ns,sp)=>∀(z:U) (D:Z) (A:List NR),Ext H z->H D=O->z D=Y (.lst (A.map λM=>V.ref M.a))->(∀M∈A,gL N b z M)->A.map (·.i)=ns->A.map (·.sp)=sp->T (.ref D) z
inductive x7 (z A:Z) (D:List V) (H:U) (M:VK) (N:XK):Prop
 |mk(lt:_)(t:aj)(_:D=[.ref lt])(_:H lt=Y (.lst (t.map λS=>V.int (S.toNat:Int))))(_:t.length<=9000)(_:x6 z A H M N t.length (hH (bY [] (t.map norm))))
def Ox(c3:a9 K "read_expression" "read_expression" DI pp pc)(n:kH K d)(c4:L "NoProgram"=Y (.ref Q))(c5:gP K Q fV "Exception.__new__"=I)(c6:L "len"=O)(c7:g_ 1 "signs_of" ["text"] Dh) (c8:g_ 1 "words_of" ["signs"] C9) (c9:iu m p K L P aE 1 "Reading" d ["self","words"] (DJ d))(db:r_ 6 d "begin_node" ["self"] (xV d q Q)) (dd:r_ 7 d "read_on" ["self"] (DG d q Q)):k_ 8 pp pc ["text"] (x7 q Q):=by
 refine c3.et ["text","reading"] λgt g1 g2 g3 H hd bs as t e dl _ sz=>?_;let⟨a0,h,rfl,a1,he,G⟩:=e;have bt:=t.mo 1
 have dp:=t.mo 2;have ds:=t.mo 6
 exists _,ar (bj 1 dl (iv (E:=E0) c9 dp cx (A (bI c8 bt (A (bI c7 bt (aJ 0)) aC)) aC))) (ar (cM (dR (T 1) db ds dw)) (ar (oh z0 (sg (aF 1) (λ_=>S)) (ay (cM (dR (T 1) dd t dw)))) (ar (bK (bS sf (aF 1) (cR ej (by rfl) c6 dE (A (aF 1) aC)) (bV _)) (ay (jH j8 (by decide) c5 S c4 t.hd)) bQ) (ay (aQ (aF 1)))))),?_;have a2:=Ou h
 have dx:=xY (h.map norm) [];rw [z]at dx;have dK:∀B∈bY [] (h.map norm),B.length<=10000:=λB dL=>by
  have:=(pz _ [] B S (xZ h) dL).2.2;rw [z]at this;simp at this
  lia
 have dT:=Ov h;exists _,S,a0,h,S,a1,by lia,λdX ab=>?_;exists h.map norm,S,by rw [z];lia,λi ad a3 d0 C=>?_;have a3:=a3
 have ab:Ext H dX:=ab;generalize bY [] (h.map norm)=ws at*;intro a b a4 bv hf;have ca:=cB C a4
 have d1:=cB C bv;exists a,b,i,S,M,λcd bm u ce ch ci em hi hm eq es ev=>⟨S,?_⟩;have al:=ab.trans a3
 have ex:Ext H cd:=λr o g=>by
  have a5:=al r o g;have k:=cB a5 a4
  have bd:=cB a5 bv;exact ce r o (by rw [ah k,ah bd];exact a5) k
 have fa:=ce i _ (by rw [ah ca,ah d1];exact C) ca;have am:∀{r:Z},upd (upd ad b (.own a)) a (.ins d b []) r=O->ad r=O:=λ{r} g=>by
  have k:r≠a:=by intro R;rw [R,M]at g;cases g
  have bd:r≠b:=by intro R;rw [ah k,R,M]at g;cases g
  rw [ah k,ah bd]at g;exact g
 have cl:ez d q H cd a i bm u ws 0 [] []:=
  ⟨⟨⟨b,ev⟩,fa,cP _,by lia,dK⟩,eq,es,(λ_ e=>nomatch e),gd,gd,(λ_ e=>nomatch e),em,⟨cB (H:=ad) C (am ci),cB (H:=ad) C (am ch)⟩,ex,⟨al.none a4,al.none (am ch),al.none (am ci),ab.none d0,λ_ e=>nomatch e⟩,by decide,by decide,(λ_ e=>nomatch e),(λ_ e=>nomatch e)⟩
 let⟨⟨fd,fl⟩,_⟩:=cl.rd;exists _,S,a,fd,_,S,fl,gv (.inr (.inr (.inr (.inl S)))),a,i,bm,u,ws,0,H,[],[],S,cl,a2,(λs hz g=>nomatch g),?_;show rj d q Q H _ as a i bm u ws (fI ⟨ws,[],[],[]⟩)
 cases be:fI ⟨ws,[],[],[]⟩with
 |none=>
  have bi:hH ws=O:=by unfold hH;rw [be];rfl
  rw [bi]at G;exact G
 |some f=>
 intro h0 U D fm fn fr fs;have bi:hH ws=(en f).bind λf=>if f.ws=[]then Y (f.nodes,f.sp)else O:=by unfold hH;rw [be];rfl
 rw [bi]at G;have fT:=DE be ⟨(λs f0=>nomatch f0),gd⟩ (λs w g=>nomatch g)
 have cn:f=⟨ws.drop U,D.map (·.i),f.around,D.map (·.sp)⟩:=by rw [<-fn,<-fr,<-fs]
 refine⟨λco cr an=>∃U D w,cr=[Y (.ref a0),Y (.ref a)]/\ez d q H an a i bm u ws U D w/\nq ⟨ws.drop U,D.map (·.i),w,D.map (·.sp)⟩/\en ⟨ws.drop U,D.map (·.i),w,D.map (·.sp)⟩=en f/\co=(ws.drop U).length,⟨_,U,D,f.around,S,fm,by rw [<-cn];exact fT,by rw [<-cn],S⟩,?_⟩;rintro co cr an ⟨U,D,w,rfl,l,bk,cs,rfl⟩;let⟨⟨v,x⟩,f1,h1,_⟩:=l.rd;exists _,S,a,d,v,_,_,S,x,n.cl,n.around,lO,_,.inl ⟨_,av.of l.around,S⟩,?_;cases w with
 |nil=>
  refine b1 ?_;have j:en f=Y ⟨ws.drop U,D.map (·.i),[],D.map (·.sp)⟩:=by rw [<-cs,mX,ai S]
  rw [j]at G;exists _,S,a,d,v,_,_,S,x,n.cl,n.at_,tF,_,S,a,d,v,_,_,S,x,n.cl,n.words,tG,i,_,S,.inl (av.of f1),_,_,S,S,_,S,?_;rw [z];by_cases c:U<ws.length
  .rw [cq (by lia)];have:¬ws.drop U=[]:=by rw [jQ c];intro R;cases R
   have X:x6 q Q H bs as h.length (if ws.drop U=[]then Y (D.map (·.i),D.map (·.sp))else O):=G;rw [N this]at X;exact cf (X an l.ext)
  .rw [bU (by lia)];have X:x6 q Q H bs as h.length (if ws.drop U=[]then Y (D.map (·.i),D.map (·.sp))else O):=G
   rw [ai (jk (by lia))]at X;refine b1 ⟨_,S,a,d,v,_,_,S,x,n.cl,n.nodes,nc,X an bm D l.ext l.fresh.2.1 l.nodes (λf2 t=>?_) S rfl⟩;rw [<-dT];exact l.nd f2 t
 |cons s w=>
  have f4:(!((s::w).reverse.map λB=>V.int ((B:Nat):Int)).isEmpty)=I:=by rw [zZ,aT];simp
  rw [f4];refine cf ?_;have j:en f=(fi ⟨ws.drop U,D.map (·.i),s::w,D.map (·.sp)⟩).bind en:=by rw [<-cs,mX,N (by simp)]
  cases y:fi ⟨ws.drop U,D.map (·.i),s::w,D.map (·.sp)⟩with
  |none=>
   rw [y]at j;have j:en f=O:=j
   rw [j]at G;exists λ_ _=>False,(λ_ _ e=>e.elim),_,S,a,v,_,S,x,gv (.inr (.inr (.inr (.inr (.inr (.inr S)))))),a,i,bm,u,ws,U,H,D,s,w,S,l,a2,bk,?_;rw [y];exact G
  |some ap=>
   rw [y]at j;have j:en f=en ap:=j
   have a1:=mW y;refine⟨λf8 ga=>∃ct,ct<(ws.drop U).length/\∃U D w,f8=[Y (.ref a0),Y (.ref a)]/\ez d q H ga a i bm u ws U D w/\nq ⟨ws.drop U,D.map (·.i),w,D.map (·.sp)⟩/\en ⟨ws.drop U,D.map (·.i),w,D.map (·.sp)⟩=en f/\ct=(ws.drop U).length,(λ_ _ e=>e),_,S,a,v,_,S,x,gv (.inr (.inr (.inr (.inr (.inr (.inr S)))))),a,i,bm,u,ws,U,H,D,s,w,S,l,a2,bk,?_⟩;rw [y];intro h2 c0 bl ge c1 gl go;have c2:ap=⟨ws.drop c0,bl.map (·.i),ap.around,bl.map (·.sp)⟩:=by rw [<-c1,<-gl,<-go]
   exists _,by rw [<-c1];exact a1,c0,bl,ap.around,S,ge,by rw [<-c2];exact Om y bk,by rw [<-c2,j],S
def da.upd{K:af}{H:U}{G:Wy}{o:HO}(A:cX (H d)\/H d=O)(M:da K H q G):da K (L2.upd H d o) q G:=by let⟨N,S,T,a,b⟩:=M;exists N,S,bF A T,bF A a,bF A b
abbrev DK:a8:=top 50
inductive DL (m:aw) (p:au) (K:af) (M N:Z) (S:List V) (H:U) (T:VK) (b:XK):Prop
 |mk(P g l t tab i c d ps:_)(_:S=[.ref P,.int (l:Nat),.ref t])(_:lQ K M N H P g)(_:g.nodes[l]?=Y i)(_:i.parts=[c,d])(_:TabAt m p K H t tab)(_:ba tab (0,c)=Y ps)(_:ps.length<=1000)(_:(∀u∈dJ 1 ps,∃D a z,g.nodes[u]?=Y D/\D.parts=a::z))(_:∀z A,Ext H A->H z=O->jj K A z (jN g l d (dJ 1 ps))->T (.ref z) A)
def Oy(ds:a9 K "call_ways" "call_ways" DK Q pc)(w:rh K q d)(bi:Gs L)(dx:L "FUNCTION_KIND"=Y (.int 1 wT))(dK:g_ 1 "labels_at" ["table","label","kind"] (xI m p K)):f_ 2 Q pc ["program","label","table"] (DL m p K q d):=by
 let⟨id,an⟩:=bi.node;let⟨ii,dL⟩:=bi.name;refine ds.go ["program","label","table","node","ways","fun","body"] λim io is it H ix jp kk dT ap C _ sz=>?_;let⟨as,v,e,bk,dX,kp,c,g,h,rfl,d0,d1,em,eq,es,ks,ev,ex⟩:=ap;exists _,ar (bj 3 C (cc dk (aF 0) (T 1) (λ_ _=>S))) (ar (bj 4 C (de aC)) (ar (d3 dZ S (dC (gI dK dT cx (A (T 2) (A (cc dk (aF 3) cL (λ_ _=>S)) (A (b7 dx) aC))))) (bX 5 C) (ar (bj 6 C (cc dk (fQ (cc dk (aF 0) (T 5) (λ_ _=>S)) S) cL (λ_ _=>S))) (ar (cM (fe fu gb gF fR (T 4) (A (b6 (A (b6 (A (b7 an) (A (cc dk (aF 3) cL (λ_ _=>S)) aC))) (A (b6 (A (b7 dL) (aJ 5))) aC))) aC))) (ay (cM (fe fu gb gF fR (T 4) (A (b6 (A (b6 (A (b7 an) (aJ 6))) (A (b6 (A (b7 an) (aJ 1))) aC))) aC))))))) (ay (aQ (T 4))))),?_;let⟨bl,kt,⟨bm,bn,bs,bt⟩,bv,ca⟩:=d0.nodes;let⟨a0,fa,fd⟩:=lR ca d1;let⟨cd,⟨ce,ch,ci,cl⟩,a1⟩:=fd.parts;rw [em]at a1;exists _,S,as,q,bm,bn,_,S,bs,w.c,w.nodes,bt,_,S,bl,_,_,_,S,S,av.of bv,e2 (by rw [bh,fa];rfl),?_;exists cP _,λN E=>?_;have t:Ext H (upd H N (.lst [])):=Ext.one E
 exists _,S,_,S,a0,d,ce,ch,_,S,t _ _ ci,w.cn,w.parts,cl,cd,_,_,_,S,S,av.of (t _ _ a1),S,?_;exists bk,dX,c,1,h,S,eq.ext t,es,by lia,λB kw cn co cr=>?_;have cs:B≠N:=by intro i;rw [i,M]at co;cases co
 exists B,S,⟨_,av.of cr⟩,?_;let fl:VLx:=λl R f=>X2 λa2 a3=>A4 (R=[Y (.ref as),Y (.int (e:Nat)),Y (.ref bk),Y (.ref a0),Y (.ref N),a2,a3]) (∃D,f N=Y (.lst (D.map V.ref))/\cE (da K f) D (jN v e g ((dJ 1 h).take l))/\D.length<=2*l) (Ext H f) (f B=Y (.lst ((dJ 1 h).map λG=>V.int (G:Nat))))
 refine fw (xs:=(dJ 1 h).map λG=>V.int (G:Nat)) fl ?_ ?_ ?_ ?_
 .exact⟨O,O,S,⟨[],cn _ _ M,.nil,cP _⟩,t.trans cn,cr⟩
 .rintro l R f _ ⟨_,_,_,_,_,ap⟩;exact av.of ap
 .rintro l G R f x ⟨a2,a3,rfl,⟨D,W,X,fm⟩,k,ct⟩;rw [bh]at x;cases y:(dJ 1 h)[l]? with
  |none=>rw [y]at x;cases x
  |some u=>
   rw [y]at x;obtain rfl:=aS x;let⟨fn,b,kP,c0,c1⟩:=ev u (cG y);have kV:l<1000:=by
    have:=(cF.mp y).1;have k0:(dJ 1 h).length<=h.length:=iU _ _
    lia
   have fr:mQ v u=b:=by unfold mQ;rw [c0];show fn.parts.headD 0=b;rw [c1];rfl
   have wT:jN v e g ((dJ 1 h).take (l+1))=jN v e g ((dJ 1 h).take l)++[((0,g),(1,u))]++[((0,b),(0,e))]:=by
    rw [dq,y];unfold jN;rw [k4];show _++([((0,g),(1,u)),((0,mQ v u),(0,e))]++[])=_
    rw [fr,ck];rfl
   let⟨fs,fT,f0⟩:=lR ca c0;let⟨f1,⟨f2,f4,f8,ga⟩,c2⟩:=f0.parts;rw [c1]at c2;exists _,S,as,q,bm,bn,_,S,k _ _ bs,w.c,w.nodes,bt,_,S,bl,_,_,_,S,S,av.of (k _ _ bv),e2 (by rw [bh,fT];rfl),fs,d,f2,f4,_,S,k _ _ f8,w.cn,w.parts,ga,f1,_,_,_,S,S,av.of (k _ _ c2),e2 (j:=0) S,?_;exists _,S,.inl ⟨S,_,av.of W⟩,_,S,a0,d,ce,ch,_,S,k _ _ ci,w.cn,w.parts,cl,cd,_,_,_,S,S,av.of (k _ _ a1),S,cD,λn ge=>⟨_,S,cD,λam c3=>⟨cD,λa a4=>?_⟩⟩;have c4:=Ext.one (o:=.tup [.int 0,.int (g:Nat)]) ge
   have c5:=c4.new (o:=.tup [.int 1,.int (u:Nat)]) c3;have ab:=c5.new (o:=.tup [.ref n,.ref am]) a4
   have gl:da K (upd (upd (upd f n (.tup [.int 0,.int (g:Nat)])) am (.tup [.int 1,.int (u:Nat)])) a (.tup [.ref n,.ref am])) a ((0,g),(1,u)):=⟨n,am,ax.of M,((Ext.one c3).new a4).aP (ax.of M),(Ext.one a4).aP (ax.of M)⟩
   have go:=Paired.b9 X λb G i=>da.ext ab i;have c6:=ab _ _ W
   have gt:=k.trans ab;have g1:=ab _ _ ct
   clear c4 c5;generalize upd (upd (upd f n (.tup [.int 0,.int (g:Nat)])) am (.tup [.int 1,.int (u:Nat)])) a (.tup [.ref n,.ref am])=bd at*;exists N,_,_,S,S,c6,by rw [z];lia,?_;have c7:cX (bd N)\/bd N=O:=.inl (by rw [c6];exact trivial)
   have g2:=fL (Paired.b9 go λb G i=>da.upd (o:=.lst ((D++[a]).map V.ref)) c7 i) (da.upd (o:=.lst ((D++[a]).map V.ref)) c7 gl);have g3:(D.map V.ref++[V.ref a])=(D++[a]).map V.ref:=by rw [aT];rfl
   rw [g3];have hd:Ext H (upd bd N (.lst ((D++[a]).map V.ref))):=gt.upd E
   have c8:upd bd N (.lst ((D++[a]).map V.ref)) N=Y (.lst ((D++[a]).map V.ref)):=M;have he:upd bd N (.lst ((D++[a]).map V.ref)) B=_:=(ah cs).trans g1
   generalize upd bd N (.lst ((D++[a]).map V.ref))=c9 at*;exists _,S,.inl ⟨S,_,av.of c8⟩,_,S,cD,λr hf=>⟨_,S,cD,λs db=>⟨cD,λad a5=>?_⟩⟩;have hi:=Ext.one (o:=.tup [.int 0,.int (b:Nat)]) hf
   have hm:=hi.new (o:=.tup [.int 0,.int (e:Nat)]) db;have al:=hm.new (o:=.tup [.ref r,.ref s]) a5
   have hz:da K (upd (upd (upd c9 r (.tup [.int 0,.int (b:Nat)])) s (.tup [.int 0,.int (e:Nat)])) ad (.tup [.ref r,.ref s])) ad ((0,b),(0,e)):=⟨r,s,ax.of M,((Ext.one db).new a5).aP (ax.of M),(Ext.one a5).aP (ax.of M)⟩
   have h0:=Paired.b9 g2 λb G i=>da.ext al i;have dd:=al _ _ c8
   have h1:=hd.trans al;have h2:=al _ _ he
   generalize upd (upd (upd c9 r (.tup [.int 0,.int (b:Nat)])) s (.tup [.int 0,.int (e:Nat)])) ad (.tup [.ref r,.ref s])=dl at*;exists N,_,_,S,S,dd,by rw [z,br];show D.length+1<aU;lia,_,_,S,⟨D++[a]++[ad],?_,?_,?_⟩,h1.upd E,(ah cs).trans h2
   .rw [M,aT (l₁:=D++[a])];rfl
   .rw [wT];have dp:cX (dl N)\/dl N=O:=.inl (by rw [dd];exact trivial)
    exact fL (Paired.b9 h0 λb G i=>da.upd dp i) (da.upd dp hz)
   .rw [br,br];show D.length+1+1<=_;lia
 .rintro R f ⟨a2,a3,rfl,⟨D,W,X,fm⟩,k,ct⟩;rw [z,dB]at X;exists _,S,ex N f k E ⟨D,W,X⟩
variable{TW:U->Prop}
def x8{K:af}{kk:Nat}(b:r Q=Y (.lst (wE.map λc=>V.int (c:Nat))))(v:r d=O)(an:ax K r q (b4 sc))(ap:t<s4.length) (bd:s4[wP]?=Y (Y (.ref q))) (as:t≠wP) (be:wE.length<=10000) (a0:∀N,Ext r N->jj K N d (wE.map λu=>((kk,u),sc))->TW N):∃w:Nat->Nat->U->Prop,(∃n,w 0 n (upd r d (.lst [])))/\∀j n H,w j n H->((hy K Q).stop j H/\TW H)\/((hy K Q).go j H/\∃x:U->Prop,(∀N,x N->∃P,P<n/\w (j+1) P N)/\∀c N,(hy K Q).hc j H c N->mv t c (wipe s4 [t]) N λB D=>wipe B [t]=wipe s4 [t]/\hk B D λA R=>if A=I then qw (jB (qw (jB (tC (.int (kk:Nat))) (jB (jy t) jA))) (jB (jy wP) jA)) B R λy X=>∃C,X d=Y (.lst C)/\C.length<aU/\x (upd X d (.lst (C++[y])))else x R):=by
 have sz:(20000:Nat)<aU:=by decide
 have bi:Q≠d:=by intro E;rw [E,v]at b;cases b
 let a1:VCx:=λf D=>(∃g,D d=Y (.lst (g.map V.ref))/\cE (da K D) g ((wE.take f).map λu=>((kk,u),sc))/\g.length<=f)/\Ext r D;refine hC (xs:=wE.map λc=>V.int (c:Nat)) a1 ?_ ?_ ?_ ?_
 .exact⟨⟨[],M,.nil,aR _⟩,Ext.one v⟩
 .rintro f D _ ⟨_,a2⟩;exact av.of (a2 _ _ b)
 .rintro f c D k ⟨⟨g,F,p,ab⟩,T⟩;rw [bh]at k;cases a:wE[f]? with
  |none=>rw [a]at k;cases k
  |some u=>
   rw [a]at k;obtain rfl:=aS k;have bk:=(cF.mp a).1
   have a3:(wE.take (f+1)).map (λu=>(((kk,u),sc):Wy))=(wE.take f).map (λu=>((kk,u),sc))++[((kk,u),sc)]:=by rw [dq,a,aT];rfl
   exists ?_,?_
   .show(((s4.set t O).set t _).set t O)=s4.set t O;rw [n8,n8]
   unfold hk;dsimp only [];rw [ai S];exists .int (u:Nat),?_,cD,λG a4=>⟨.ref q,?_,cD,λl ad=>?_⟩
   .show((s4.set t O).set t _)[t]?=_;rw [n8,uq ap]
   .show((s4.set t O).set t _)[wP]?=_;rwa [n8,ur as]
   have s:=(Ext.one (o:=.tup [.int (kk:Nat),.int (u:Nat)]) a4).new (o:=.tup [.ref G,.ref q]) ad;have a5:da K (upd (upd D G (.tup [.int (kk:Nat),.int (u:Nat)])) l (.tup [.ref G,.ref q])) l ((kk,u),sc):=⟨G,q,ax.of M,(Ext.one ad).aP (ax.of M),(T.trans s).aP an⟩
   have al:=s _ _ F;have am:cX ((upd (upd D G (.tup [.int (kk:Nat),.int (u:Nat)])) l (.tup [.ref G,.ref q])) d)\/(upd (upd D G (.tup [.int (kk:Nat),.int (u:Nat)])) l (.tup [.ref G,.ref q])) d=O:=.inl (al▸trivial)
   exists _,al,by rw [z];lia,⟨g++[l],?_,?_,br▸qj ab 1⟩,(T.trans s).upd v
   .rw [M,aT];rfl
   .rw [a3];exact fL (Paired.b9 p λA c E=>da.upd am (da.ext s E)) (da.upd am a5)
 .rintro D ⟨⟨g,F,p,ab⟩,T⟩;rw [z,dB]at p;exact a0 D T ⟨g,F,p⟩
def Oz{K:af}{q:Pr}{kk:Nat}(al:r pp=Y (.lst (wE.map λc=>V.int (c:Nat))))(E:r Q=O)(am:ax K r d (b4 q))(an:t<s4.length) (bd:s4[wP]?=Y (Y (.ref d))) (ap:t≠wP) (be:wE.length<=10000) (as:∀G,Ext r G->jj K G Q (wE.map λu=>(q,(kk,u)))->TW G):∃a:Nat->Nat->U->Prop,(∃m,a 0 m (upd r Q (.lst [])))/\∀h m H,a h m H->((hy K pp).stop h H/\TW H)\/((hy K pp).go h H/\∃v:U->Prop,(∀G,v G->∃F,F<m/\a (h+1) F G)/\∀c G,(hy K pp).hc h H c G->mv t c (wipe s4 [t]) G λw D=>wipe w [t]=wipe s4 [t]/\hk w D λL P=>if L=I then qw (jB (jy wP) (jB (qw (jB (tC (.int (kk:Nat))) (jB (jy t) jA))) jA)) w P λy A=>∃x,A Q=Y (.lst x)/\x.length<aU/\v (upd A Q (.lst (x++[y])))else v P):=by
 have sz:(20000:Nat)<aU:=by decide
 let a0:VCx:=λe D=>(∃f,D Q=Y (.lst (f.map V.ref))/\cE (da K D) f ((wE.take e).map λu=>(q,(kk,u)))/\f.length<=e)/\Ext r D;refine hC (xs:=wE.map λc=>V.int (c:Nat)) a0 ?_ ?_ ?_ ?_
 .exact⟨⟨[],M,.nil,aR _⟩,Ext.one E⟩
 .rintro e D _ ⟨_,a1⟩;exact av.of (a1 _ _ al)
 .rintro e c D i ⟨⟨f,B,n,R⟩,p⟩;rw [bh]at i;cases T:wE[e]? with
  |none=>rw [T]at i;cases i
  |some u=>
   rw [T]at i;obtain rfl:=aS i;have bi:=(cF.mp T).1
   have a2:(wE.take (e+1)).map (λu=>((q,(kk,u)):Wy))=(wE.take e).map (λu=>(q,(kk,u)))++[(q,(kk,u))]:=by rw [dq,T,aT];rfl
   exists ?_,?_
   .show(((s4.set t O).set t _).set t O)=s4.set t O;rw [n8,n8]
   unfold hk;dsimp only [];rw [ai S];exists .ref d,?_,.int (u:Nat),?_,cD,λN a3=>⟨cD,λj X=>?_⟩
   .show((s4.set t O).set t _)[wP]?=_;rwa [n8,ur ap]
   .show((s4.set t O).set t _)[t]?=_;rw [n8,uq an]
   have s:=(Ext.one (o:=.tup [.int (kk:Nat),.int (u:Nat)]) a3).new (o:=.tup [.ref d,.ref N]) X;have a4:da K (upd (upd D N (.tup [.int (kk:Nat),.int (u:Nat)])) j (.tup [.ref d,.ref N])) j (q,(kk,u)):=⟨d,N,ax.of M,(p.trans s).aP am,(Ext.one X).aP (ax.of M)⟩
   have ab:=s _ _ B;have ad:cX ((upd (upd D N (.tup [.int (kk:Nat),.int (u:Nat)])) j (.tup [.ref d,.ref N])) Q)\/(upd (upd D N (.tup [.int (kk:Nat),.int (u:Nat)])) j (.tup [.ref d,.ref N])) Q=O:=.inl (ab▸trivial)
   exists _,ab,by rw [z];lia,⟨f++[j],?_,?_,br▸qj R 1⟩,(p.trans s).upd E
   .rw [M,aT];rfl
   .rw [a2];exact fL (Paired.b9 n λL c a5=>da.upd ad (da.ext s a5)) (da.upd ad a4)
 .rintro D ⟨⟨f,B,n,R⟩,p⟩;rw [z,dB]at n;exact as D p ⟨f,B,n⟩
structure Gk(G:aa->Option J):Prop where
 fn:∃z,G "FUNCTION_KIND"=Y (.int 1 z)
 pair:∃z,G "PAIR_KIND"=Y (.int 2 z)
 ref:∃z,G "REFERENCE_KIND"=Y (.int 3 z)
abbrev x9:a8:=top 49
inductive DM (m:aw) (p:au) (K:af) (M N:Z) (S:List V) (H:U) (T:VK) (b:XK):Prop
 |mk(P g l t tab i:_)(_:S=[.ref P,.int (l:Nat),.ref t])(_:lQ K M N H P g)(_:g.nodes[l]?=Y i)(_:i.parts.length=arity i.aK)(_:TabAt m p K H t tab)(_:(∀c∈i.parts,∃ps,ba tab (0,c)=Y ps/\ps.length<=1000/\∀u∈dJ 1 ps,∃D a z,g.nodes[u]?=Y D/\D.parts=a::z))(_:∀z A,Ext H A->H z=O->jj K A z (iC g tab l i.aK i.parts)->T (.ref z) A)
def OA(c6:a9 K "ways_by_facts" "ways_by_facts" x9 pp pc)(z:rh K d Q)(ab:Gs L)(ca:Gk L)(bm:g_ 1 "labels_at" ["table","label","kind"] (xI m p K))(c7:g_ 2 "call_ways" ["program","label","table"] (DL m p K d Q)):f_ 3 pp pc ["program","label","table"] (DM m p K d Q):=by
 let⟨ex,co⟩:=ab.node;let⟨fa,c8⟩:=ab.first;let⟨fd,c9⟩:=ab.second;let⟨fl,cr⟩:=ab.inside;let⟨fm,db⟩:=ab.call;let⟨fn,fr⟩:=ca.fn;let⟨fs,cs⟩:=ca.pair;let⟨fT,ct⟩:=ca.ref;refine c6.go ["program","label","table","node","here","put","pair","made"] λdd dl f0 e H f1 f2 f4 c0 dp g _ _=>?_;let⟨c1,cd,r,ad,h,y,rfl,c2,c3,al,am,an,f⟩:=dp;have bn:dj 1 (dl.deeper (eI "ways_by_facts" (eg x9) e.heap.objs.size pp dd)):=c0.mono (by decide)
 exists _,ar (bj 3 g (cc dk (aF 0) (T 1) (λ_ _=>S))) (ar (bj 4 g (b6 (A (b7 co) (aJ 1)))) (ar (bK (bS cT (aF 3) (ei (v:=.str (cO .call)) S db ⟨_,S⟩) (bV _)) (ay (aQ (gI c7 c0 cx (A (T 0) (A (T 1) (aJ 2)))))) bQ) (ar (bK (bS cT (aF 3) dP (bV _)) (ay (aQ (fU (own:=[("pair",6)]) S g (dC (gI bm bn cx (A (T 2) (A (cc dk (aF 3) cL (λ_ _=>S)) (A (b7 cs) aC))))) (e3 S) (λe H d z i=>bX 6 g) (λe H d z i=>hB) (λe H d z i=>b6 (A (b6 (A (ei (v:=.int (2:Nat)) S c8 ⟨_,S⟩) (aJ 6))) (aJ 4)))))) bQ) (ar (bK (bS cT (aF 3) dP (bV _)) (ay (aQ (fU (own:=[("pair",6)]) S g (dC (gI bm bn cx (A (T 2) (A (cc dk (aF 3) cL (λ_ _=>S)) (A (b7 cs) aC))))) (e3 S) (λe H d z i=>bX 6 g) (λe H d z i=>hB) (λe H d z i=>b6 (A (b6 (A (ei (v:=.int (3:Nat)) S c9 ⟨_,S⟩) (aJ 6))) (aJ 4)))))) bQ) (ar (bK (bS cT (aF 3) dP (bV _)) (ay (aQ (fU (own:=[("made",7)]) S g (dC (gI bm bn cx (A (T 2) (A (cc dk (aF 3) cL (λ_ _=>S)) (A (b7 ct) aC))))) (e3 S) (λe H d z i=>bX 7 g) (λe H d z i=>hB) (λe H d z i=>b6 (A (b6 (A (ei (v:=.int (4:Nat)) S cr ⟨_,S⟩) (aJ 7))) (aJ 4)))))) bQ) (ar (bK (bS cT (aF 3) dP (bV _)) (ar (bj 5 g (b6 (A (b7 co) (A (cc dk (aF 3) cL (λ_ _=>S)) aC)))) (ay (aQ (fU (own:=[("made",7)]) S g (dC (gI bm bn cx (A (T 2) (A (cc dk (aF 3) cL (λ_ _=>S)) (A (b7 ct) aC))))) (e3 S) (λe H d z i=>bX 7 g) (λe H d z i=>hB) (λe H d z i=>b6 (A (T 5) (A (b6 (A (ei (v:=.int (4:Nat)) S cr ⟨_,S⟩) (aJ 7))) aC))))))) bQ) (ay (aQ (de aC))))))))),?_;let⟨ds,f8,⟨dx,dK,dL,dT⟩,dX,d0⟩:=c2.nodes;let⟨bv,d1,c4⟩:=lR d0 c3;let⟨ap,⟨as,a0,a1,a2⟩,s⟩:=c4.parts;let⟨a3,a4,a5,bd⟩:=c4.aK;exists _,S,c1,d,dx,dK,_,S,dL,z.c,z.nodes,dT,_,S,ds,_,_,_,S,S,av.of dX,e2 (by rw [bh,d1];rfl),?_;exists _,S,cD,λce em=>?_;have D:Ext H (upd H ce (.tup [.int 0,.int (r:Nat)])):=Ext.one em
 have ch:ax K (upd H ce (.tup [.int 0,.int (r:Nat)])) ce (b4 (0,r)):=ax.of M;have be:∀B:Fm,¬decide (V.str (cO y.aK)=V.str (cO B))=I->¬y.aK=B:=λB j eq=>j (by rw [eq];exact cq S)
 have bi:∀B:Fm,decide (V.str (cO y.aK)=V.str (cO B))=I->y.aK=B:=λB j=>by rw [rg]at j;exact eB j
 exists _,S,bv,Q,a3,a4,_,S,D _ _ a5,z.cn,z.aK,bd,S,_,S,eb (λj=>?_) (λj=>?_)
 .have j:=bi .call j;let⟨c,U,N⟩:=ri (al.trans (bD arity j));let⟨t,b,bk,bl⟩:=an c (by rw [N];exact bE);rw [j,N]at f;exists _,S,_,S,_,S,c1,cd,r,ad,h,y,c,U,t,S,c2.ext D,c3,N,am.ext D,b,bk,bl,λbs c5 C bt x=>?_;refine f bs c5 (D.trans C) (D.none bt) ?_;show jj K c5 bs (jN cd r U (dJ 1 ((ba h (0,c)).getD [])))
  rw [b];exact x
 .skip
  exists _,S,bv,Q,a3,a4,_,S,D _ _ a5,z.cn,z.aK,bd,S,_,S,eb (λw=>?_) (λw=>?_)
  .have w:=bi .fst w;let⟨c,N⟩:=list1 (al.trans (bD arity w));let⟨t,b,bk,bl⟩:=an c (by rw [N];exact bb.mpr S);rw [w,N]at f;rw [N]at s;exists _,S,_,S,bv,Q,as,a0,_,S,D _ _ a1,z.cn,z.parts,a2,ap,_,_,_,S,S,av.of (D _ _ s),S,?_;exists ad,h,c,2,t,S,am.ext D,b,by lia,λE ci a cl k=>⟨E,S,⟨_,av.of k⟩,λl G=>?_⟩;refine x8 (kk:=2) k G (a.aP ch) (by show 6<8;decide) S (by decide) (cu (iU _ _) (by lia)) λn F x=>?_;refine f l n ((D.trans a).trans F) ((D.trans a).none G) ?_;show jj K n l ((dJ 2 ((ba h (0,c)).getD [])).map λu=>((2,u),(0,r)))
   rw [b];exact x
  exists _,S,bv,Q,a3,a4,_,S,D _ _ a5,z.cn,z.aK,bd,S,_,S,eb (λR=>?_) (λR=>?_)
  .have R:=bi .snd R;let⟨c,N⟩:=list1 (al.trans (bD arity R));let⟨t,b,bk,bl⟩:=an c (by rw [N];exact bb.mpr S);rw [R,N]at f;rw [N]at s;exists _,S,_,S,bv,Q,as,a0,_,S,D _ _ a1,z.cn,z.parts,a2,ap,_,_,_,S,S,av.of (D _ _ s),S,?_;exists ad,h,c,2,t,S,am.ext D,b,by lia,λE ci a cl k=>⟨E,S,⟨_,av.of k⟩,λl G=>?_⟩;refine x8 (kk:=3) k G (a.aP ch) (by show 6<8;decide) S (by decide) (cu (iU _ _) (by lia)) λn F x=>?_;refine f l n ((D.trans a).trans F) ((D.trans a).none G) ?_;show jj K n l ((dJ 2 ((ba h (0,c)).getD [])).map λu=>((3,u),(0,r)))
   rw [b];exact x
  exists _,S,bv,Q,a3,a4,_,S,D _ _ a5,z.cn,z.aK,bd,S,_,S,eb (λW=>?_) (λW=>?_)
  .have W:=bi .get W;let⟨c,N⟩:=list1 (al.trans (bD arity W));let⟨t,b,bk,bl⟩:=an c (by rw [N];exact bb.mpr S);rw [W,N]at f;rw [N]at s;exists _,S,_,S,bv,Q,as,a0,_,S,D _ _ a1,z.cn,z.parts,a2,ap,_,_,_,S,S,av.of (D _ _ s),S,?_;exists ad,h,c,3,t,S,am.ext D,b,by lia,λE ci a cl k=>⟨E,S,⟨_,av.of k⟩,λl G=>?_⟩;refine x8 (kk:=4) k G (a.aP ch) (by show 7<8;decide) S (by decide) (cu (iU _ _) (by lia)) λn F x=>?_;refine f l n ((D.trans a).trans F) ((D.trans a).none G) ?_;show jj K n l ((dJ 3 ((ba h (0,c)).getD [])).map λu=>((4,u),(0,r)))
   rw [b];exact x
  exists _,S,bv,Q,a3,a4,_,S,D _ _ a5,z.cn,z.aK,bd,S,_,S,eb (λX=>?_) (λX=>?_)
  .have X:=bi .set X;let⟨c,U,N⟩:=ri (al.trans (bD arity X));let⟨t,b,bk,bl⟩:=an c (by rw [N];exact bE);rw [X,N]at f;rw [N]at s;exists _,S,bv,Q,as,a0,_,S,D _ _ a1,z.cn,z.parts,a2,ap,_,_,_,S,S,av.of (D _ _ s),S,cD,λga es=>?_;have C:=D.new (o:=.tup [.int 0,.int (U:Nat)]) es
   exists _,S,_,S,bv,Q,as,a0,_,S,C _ _ a1,z.cn,z.parts,a2,ap,_,_,_,S,S,av.of (C _ _ s),S,?_;exists ad,h,c,3,t,S,am.ext C,b,by lia,λE ci a cl k=>⟨E,S,⟨_,av.of k⟩,λl G=>?_⟩;refine Oz (kk:=4) (q:=(0,U)) k G (a.aP (ax.of M)) (by show 7<8;decide) S (by decide) (cu (iU _ _) (by lia)) λn F x=>?_;refine f l n ((C.trans a).trans F) ((C.trans a).none G) ?_;show jj K n l ((dJ 3 ((ba h (0,c)).getD [])).map λu=>((0,U),(4,u)))
   rw [b];exact x
  have ev:iC cd h r y.aK y.parts=[]:=by
   have ge:=be .call j;have gl:=be .fst w
   have go:=be .snd R;have gt:=be .get W
   have g1:=be .set X;unfold iC;split<;>first|rfl|(exfalso;simp_all)
  rw [ev]at f;exists cP _,λbs bt=>f bs _ (D.new bt) (D.none bt) ⟨[],M,.nil⟩
theorem ya(A:Nat)(z:List Pr):(dJ A z).length<=z.length:=iU _ _
theorem DN(z:Pg)(A D:Nat):∀G:List Nat,(jN z A D G).length=2*G.length
 |[]=>rfl
 |u::a=>by
  show([((0,D),(1,u)),((0,mQ z u),(0,A))]++jN z A D a).length=_;rw [br,DN z A D a,dn (a:=u)];show 2+_=_
  lia
def OB(z:Pg)(A:Nat)(D:Fm)(G:List Nat):(hG z A D G).length<=2:=by unfold hG;split<;>first|decide|(split<;>simp)|simp
set_option tactic.hygienic true
def OC{N:Pg}(b:xa N Wl)(d:N.nodes[t]?=Y Op):(iC N Wl t Op.aK Op.parts).length<=2000:=by
 have T:=b.tab t Op d;unfold iC;split
 .rename_i c e _ D;let⟨A,G,a,_⟩:=T c (D▸bE);rw [G,DN];have:=ya 1 A
  show 2*(dJ 1 A).length<=_
  lia
 all_goals first
  |(rename_i c _ D
    let⟨A,G,a,_⟩:=T c (D▸bE);rw [G,z];refine cu (ya _ A) (by lia))
  |(rename_i c e _ D
    let⟨A,G,a,_⟩:=T c (D▸bE);rw [G,z];refine cu (ya _ A) (by lia))
  |simp
set_option tactic.hygienic false
theorem yb{z:sK->AC->Prop}:∀{G M:List sK} {N S:List AC},cE z G N->cE z M S->cE z (G++M) (N++S)
 |_,_,_,_,.nil,a=>a
 |_,_,_,_,.cons b c,a=>.cons b (yb c a)
abbrev DO:a8:=top 47
inductive rk (m:aw) (p:au) (K:af) (D M:Z) (N:List V) (H:U) (S:VK) (T:XK):Prop
 |mk(P g t tab:_)(_:N=[.ref P,.ref t])(_:lQ K D M H P g)(_:TabAt m p K H t tab)(_:xa g tab)(_:∀z A,Ext H A->H z=O->jj K A z (fA g tab g.nodes.length)->S (.ref z) A)
def OD(a4:a9 K "ways_of" "ways_of" DO Q pc)(k:rh K d q)(a5:L "len"=O)(bd:L "range"=O)(be:g_ 1 "standing_ways" ["program","label"] (Dq K d q))(bi:g_ 3 "ways_by_facts" ["program","label","table"] (DM m p K d q)):f_ 4 Q pc ["program","table"] (rk m p K d q):=by
 refine a4.go ["program","table","ways","label"] λc3 c4 c5 c6 H c7 c8 c9 R bk W _ _=>?_;let⟨n,c,X,h,rfl,E,bl,f,bm⟩:=bk;have sz:(70000:Nat)<aU:=by decide
 exists _,ar (bj 2 W (de aC)) (ar (d3 dZ S (Aa S bd (A (cR ej (by rfl) a5 dE (A (aF 0) aC)) aC)) (bX 3 W) (ar (cM (fe fu ze HB vZ (T 2) (A (gI be (R.mono (by decide)) cx (A (T 0) (aJ 3))) aC))) (ay (cM (fe fu ze HB vZ (T 2) (A (gI bi R cx (A (T 0) (A (T 3) (aJ 1)))) aC)))))) (ay (aQ (T 2)))),?_;let⟨bn,db,⟨bs,bt,bv,ca⟩,cd,ce⟩:=E.nodes;have ch:=bO ce
 exists cP _,λN o=>?_;have r:Ext H (upd H N (.lst [])):=Ext.one o
 exists _,S,n,d,bs,bt,_,S,r _ _ bv,k.c,k.nodes,ca,bn,_,S,.inl (av.of (r _ _ cd)),(c.nodes.length:Int),?_,?_,?_,?_
 .rw [z,ch]
 .have:=f.bL;lia
 .have:=f.bL;lia
 rw [uD];let ci:VLx:=λD s i=>∃t,A3 (s=[Y (.ref n),Y (.ref X),Y (.ref N),t]) (∃a,i N=Y (.lst (a.map V.ref))/\cE (da K i) a (fA c h D)/\a.length<=2002*D) (Ext H i)
 refine IM ci ?_ ?_ ?_
 .exact⟨O,S,⟨[],M,.nil,cP _⟩,r⟩
 .rintro D s i cl ⟨t,rfl,⟨a,l,u,cn⟩,G⟩;have dd:=f.bL
  obtain⟨b,g⟩:∃b,c.nodes[D]?=Y b:=⟨_,gf cl⟩
  have co:fA c h (D+1)=fA c h D++hG c D b.aK b.parts++iC c h D b.aK b.parts:=by
   unfold fA;rw [qg,k4];show _++(q2 c h D++[])=_
   unfold q2;rw [g,b0,ck]
  have cr:(0:Int)+(D:Int)=(D:Int):=by lia
  rw [cr];exists _,S,.inl ⟨S,_,av.of l⟩,_,S,_,S,n,c,D,b,S,E.ext G,g,f.full D b g,f.bound D b g,λab j v ad ⟨w,cs,al⟩=>?_;have dl:w.length<=2:=by rw [bO al];exact OB _ _ _ _
  have am:=v _ _ l;have dp:ab≠N:=by intro e;rw [e,l]at ad;cases ad
  exists N,ab,_,_,S,S,am,cs,by rw [z,z];lia,?_;have ct:(a.map V.ref++w.map V.ref)=(a++w).map V.ref:=by rw [aT]
  rw [ct];have an:cX (j N)\/j N=O:=.inl (by rw [am];exact trivial)
  have c0:cE (da K (upd j N (.lst ((a++w).map V.ref)))) (a++w) (fA c h D++hG c D b.aK b.parts):=yb (Paired.b9 u λx y e=>da.upd an (da.ext v e)) (Paired.b9 al λx y e=>da.upd an e);have ap:upd j N (.lst ((a++w).map V.ref)) N=Y (.lst ((a++w).map V.ref)):=M
  have B:Ext H (upd j N (.lst ((a++w).map V.ref))):=(G.trans v).upd o;generalize upd j N (.lst ((a++w).map V.ref))=ds at*;exists _,S,.inl ⟨S,_,av.of ap⟩,_,S,_,S,_,S,n,c,D,X,h,b,S,E.ext B,g,f.full D b g,bl.ext B,f.tab D b g,λc1 as C dx ⟨a0,c2,a1⟩=>?_;have dK:a0.length<=2000:=by rw [bO a1];exact OC f g
  have a2:=C _ _ ap;exists N,c1,_,_,S,S,a2,c2,by rw [z,z,br];lia,?_;have a3:cX (as N)\/as N=O:=.inl (by rw [a2];exact trivial)
  exists _,S,⟨a++w++a0,?_,?_,?_⟩,(B.trans C).upd o
  .rw [M,aT (l₁:=a++w)]
  .rw [co];exact yb (Paired.b9 c0 λx y e=>da.upd a3 (da.ext C e)) (Paired.b9 a1 λx y e=>da.upd a3 e)
  .rw [br,br];lia
 .rintro s i ⟨t,rfl,⟨a,l,u,cn⟩,G⟩;exists _,S,bm N i G o ⟨a,l,u⟩
theorem rl(G:∀z re,z≠d->fK m p K H z re->fK m p K r z re):∀{A:bW} {D:List (Pr×List Pr)},fk m p K H A D->V.ref d∉A.map (·.2.2)->fk m p K r A D
 |_,_,.nil,_=>.nil
 |x::A,y::D,.cons b c,a=>by rw [aZ,bg,p3]at a;let⟨N,z,M,S⟩:=b;refine .cons ⟨N,z,M,G z _ (λT=>a.1 ?_) S⟩ (rl G c a.2);rw [M,T]
theorem DP(S:∀A re,A≠d->fK m p K H A re->fK m p K r A re)(T:fK m p K r d re):∀{z:bW} {D:List (Pr×List Pr)},fk m p K H z D->(z.map (·.2.2)).Nodup->(D.map (·.1)).Nodup->cm z (pk sc)=Y (.ref d)->fk m p K r z (dM D sc re)
 |_,_,.nil,_,_,a=>by cases a
 |x::z,y::D,.cons f b,n1,n2,a=>by
  let⟨G,A,U,g⟩:=f;rw [aZ,eh]at n1 n2;unfold cm at a;rw [gc]at a;show fk m p K r (x::z) ((if y.1=sc then(y.1,re)else y)::dM D sc re)
  by_cases c:y.1=sc
  .rw [cq (by rw [G,c])]at a;have e:=aS a
   rw [ai c,xl re (c▸n2.1)];exact .cons ⟨G,d,e,T⟩ (rl S b (e▸n1.1))
  .rw [bU (by rw [G];exactλM=>c (lP M))]at a;rw [N c];have j:V.ref d∈z.map (·.2.2):=by
    let⟨M,h,i⟩:=cv.mp a;rw [<-i];exact dY (fq h)
   refine .cons ⟨G,A,U,S A _ (λM=>n1.1 ?_) g⟩ (DP S T b n1.2 n2.2 a);rwa [U,M]
def yc{K:af}{xs:List V}{H:U}(D:Nat->L2.St->U->Prop)(n:D 0 s4 H)(o:∀z s4 H,z<=xs.length->D z s4 H->av K H d xs)(p:∀z b s4 H N,xs[z]?=Y b->D z s4 H->H N=O->FM (.ref N) s4 (upd H N (.tup [.int (z:Nat),b])) λc A=>Ix (Gc.lp (D (z+1))) c A) (q:∀s4 H,D xs.length s4 H->Gc.nx s4 H):∃e:Nat->Nat->L2.St->U->Prop,(∃G,e 0 G s4 H)/\∀z G s4 H,e z G s4 H->((lx K d).stop z H/\Gc.nx s4 H)\/((lx K d).go z H/\∃k:L2.St->U->Prop,(∀f M,k f M->∃l,l<G/\e (z+1) l f M)/\∀v M,(lx K d).hc z H v M->FM v s4 M λc A=>Ix (Gc.lp k) c A):=by
 exists λz G s4 H=>G=xs.length-z/\z<=xs.length/\D z s4 H,⟨xs.length,by simp,cP _,n⟩,?_;rintro z G s4 H ⟨rfl,r,g⟩;have h:=o z s4 H r g
 by_cases m:z<xs.length
 .refine .inr ⟨⟨xs,_,h,gf m⟩,D (z+1),λf M s=>⟨xs.length-(z+1),by lia,S,m,s⟩,λv M y=>?_⟩;let⟨N,b,rfl,t,rfl,u⟩:=y;exact p z b s4 H N (u xs h) g t
 .have w:z=xs.length:=by lia
  subst w;exact .inl ⟨⟨xs,h,aR _⟩,q s4 H g⟩
def OE{K:af}{xs:List V}{o:TT}(A:Nat->U->Prop)(u:A 0 (upd r d (.lst [])))(w:∀z H,z<=xs.length->A z H->av K H q xs)(x:∀z D H c,xs[z]?=Y D->A z H->H c=O->FM (.ref c) (wipe s4 wE) (upd H c (.tup [.int (z:Nat),D])) λG h=>wipe G wE=wipe s4 wE/\o G h λi a=>if i=I then sw G a λy e=>∃M,e d=Y (.lst M)/\M.length<aU/\A (z+1) (upd e d (.lst (M++[y])))else A (z+1) a) (B:∀H,A xs.length H->TW H):∃j:Nat->Nat->U->Prop,(∃N,j 0 N (upd r d (.lst [])))/\∀z N H,j z N H->((lx K q).stop z H/\TW H)\/((lx K q).go z H/\∃k:U->Prop,(∀T,k T->∃s,s<N/\j (z+1) s T)/\∀D T,(lx K q).hc z H D T->FM D (wipe s4 wE) T λG h=>wipe G wE=wipe s4 wE/\o G h λi a=>if i=I then sw G a λy e=>∃M,e d=Y (.lst M)/\M.length<aU/\k (upd e d (.lst (M++[y])))else k a):=by
 exists λz N H=>N=xs.length-z/\z<=xs.length/\A z H,⟨xs.length,by simp,cP _,u⟩,?_;rintro z N H ⟨rfl,C,l⟩;have m:=w z H C l
 by_cases t:z<xs.length
 .refine .inr ⟨⟨xs,_,m,gf t⟩,A (z+1),λT E=>⟨xs.length-(z+1),by lia,S,t,E⟩,λv T y=>?_⟩;let⟨c,D,rfl,F,rfl,L⟩:=y;exact x z D H c (L xs m) l F
 .have P:z=xs.length:=by lia
  subst P;exact .inl ⟨⟨xs,m,aR _⟩,B H l⟩
def DQ(K:af)(z:h.K=K:=by rfl):eD h (fD .In) (vT K ao):=by subst z;exact vU
variable{t0:List a7}
def OF(K:af){z:mu}{n:Nat}(D:h.calm=I)(G:qq h t0 z)(M:h.K=K:=by rfl)(N:(pR t0 h.env).length=n:=by rfl) (T:(pR t0 h.env).findIdx? (·.1)=O:=by rfl):PG h (.Tuple t0 t pv) (z8 K n z):=by subst M;exact lj D G N T
def DR(K:af)(z:h.A.units+64<cK)(A:h.K=K:=by rfl):eD h (fD .Eq) (v3 K):=by subst A;exact v5 z
theorem tL(z:Fm):∀M:List Fm,jE (.str (cO z)) (M.map λA=>V.str (cO A))=decide (z∈M)
 |[]=>rfl
 |A::a=>by
  show(jD (.str (cO A)) (.str (cO z))||jE (.str (cO z)) (a.map λA=>V.str (cO A)))=_;rw [tL z a];show((cO A==cO z)||_)=_
  by_cases c:A=z
  .subst c;simp
  .have N:(cO A==cO z)=ao:=iK.mpr λD=>c (Dm A z D);rw [N,zj,hb];exists λG=>bC _ G,λG=>(bg.mp G).resolve_left λD=>c D.symm
abbrev DS:a8:=top 39
def jR(A:Z)(H:U)(D:Z)(M:List Info):Prop:=∃z,H D=Y (.lst (z.map V.ref))/\cE (kK A H) z M
def jR.ext{H:U}(N:Ext H r)(S:jR d H q xz):jR d r q xz:=by let⟨T,a,b⟩:=S;exists T,N _ _ a,Paired.b9 b λ_ _ c=>c.ext N
def OG{c:Fm->Bool}(N:xz[t]?=Y Op):((eY (t+1)).filter λM=>((xz[M]?).map λOp=>c Op.aK).getD ao)=((eY t).filter λM=>((xz[M]?).map λOp=>c Op.aK).getD ao)++(if c Op.aK=I then [t]else []):=by rw [qg,nV];congr 1;rw [ig,N];rfl
inductive rm (K:af) (D:Z) (M:List V) (H:U) (N:VK) (b:XK):Prop
 |mk(ln ns a:_)(fs:List Fm)(_:M=[.ref ln,.ref a])(_:jR D H ln ns)(_:ns.length<=30)(_:ax K H a (fs.map λS=>V.str (cO S)))(_:∀z A,Ext H A->H z=O->A z=Y (.lst ((cz ns λT=>decide (T∈fs)).map λx=>V.int (x:Nat)))->N (.ref z) A)
theorem DT:∀z:List Fm,(z.map λA=>V.str (cO A)).all jC=I
 |[]=>rfl
 |_::a=>DT a
def OH(W:a9 K "labels_of" "labels_of" DS d pc)(X:fc K q)(ab:dF K q "form")(ad:L "enumerate"=O):f_ 1 d pc ["nodes","forms"] (rm K q):=by
 refine W.go ["nodes","forms","label","node"] λbi bk bl i H bm bn bs bt al j _ sz=>?_;let⟨am,t,an,b,rfl,⟨u,v,x⟩,bv,ap,as⟩:=al;exists _,ay (aQ (fU (own:=[("label",2),("node",3)]) S j (sC S ad (aJ 0)) (e3 S) (λi H y B C=>OF (n:=2) K S (gT (bX 2 j) (gT (bX 3 j) lh))) (λi H y B C=>kv (bS (DQ K) (xH K (T 3) S) (T 1) S)) (λi H y B C=>T 2))),?_;dsimp;exists _,S,am,_,S,av.of v,λk l=>?_;let E:VCx:=λA D=>D k=Y (.lst (((eY A).filter λs=>((t[s]?).map λA=>decide (A.aK∈b)).getD ao).map λF=>V.int (F:Nat)))/\Ext H D
 refine OE (xs:=u.map V.ref) E ?_ ?_ ?_ ?_
 .exact⟨M,Ext.one l⟩
 .rintro A D _ ⟨_,g⟩;exact av.of (g _ _ v)
 .rintro A F D f e ⟨a,g⟩ G;rw [bh]at e;cases w:u[A]? with
  |none=>rw [w]at e;cases e
  |some c=>
   rw [w]at e;obtain rfl:=aS e;let⟨a0,Q,a1⟩:=ey x w;have R:k≠f:=by intro a2;rw [a2]at a;rw [a]at G;cases G
   have h:=g.new (o:=.tup [.int (A:Nat),.ref c]) G;have ca:=(cF.mp Q).1
   let⟨a3,a4,a5,bd⟩:=(a1.ext h).aK;exists f,_,S,ax.of M,S,_,_,S,_,_,S,S,?_;exists S,_,S,c,q,a3,a4,_,S,a5,X,ab,bd,_,S,an,_,S,.inr (h.aP ap),S,DT b,_,S,?_;dsimp only [E];rw [OG (c:=λd=>decide (d∈b)) Q];have be:=tL a0.aK b
   rw [N d5,be];refine eb (λr=>?_) (λr=>?_)
   .rw [ai r];exists _,S,_,by rwa [ah R],?_,?_,h.upd l
    .rw [z];have:=iX (λs=>((t[s]?).map λA=>decide (A.aK∈b)).getD ao) (eY A)
     rw [qk]at this
     lia
    .rw [M,aT];rfl
   .rw [N r,b0];exists ah R▸a,h
 .rintro D ⟨a,g⟩;rw [z,bO x]at a;exact as k D g l a
abbrev DU:a8:=top 40
abbrev DV:a8:=top 41
abbrev DW:a8:=top 42
abbrev DX:a8:=top 43
structure tM(ns:List Info):Prop where
 up:∀(z:Nat) (i:Info),ns[z]?=Y i->∀o,i.parent=Y o->o<z/\∃A,ns[o]?=Y A/\A.parts≠[]
def fM(A:List Info)(z:Nat):Option Nat:=match A[z]? with
 |some i=>up A i.word (z+1) z i.parent
 |none=>O
theorem DY(T:tM xz)(M:aj):∀(A D z:Nat) (N:Option Nat),z<A->z<D->(∀o,N=Y o->o<z)->up xz M A z N=up xz M D z N
 |0,_,_,_,a,_,_=>absurd a (k8 _)
 |_+1,0,_,_,_,a,_=>absurd a (k8 _)
 |A+1,D+1,z,O,_,_,_=>rfl
 |A+1,D+1,z,Y o,e,f,b=>by
  have g:=b o S;simp only [up];cases c:xz[o]? with
  |none=>rfl
  |some i=>
   dsimp only;split
   .rfl
   .exact DY T M A D o i.parent (by lia) (by lia) λU d=>(T.up o i c U d).1
inductive DZ (z A:Z) (D:List V) (H:U) (M:VK) (N:XK):Prop
 |mk(ln ns l i:_)(_:D=[.ref ln,.int (l:Nat)])(_:jR z H ln ns)(_:tM ns)(_:ns[l]?=some i)(_:match fM ns l with|none=>N (.ref A) none H|some b=>M (.int (b:Nat)) H)
def OI{v:Z}(bl:a9 K "binder_of" "binder_of" DV q pc)(b:pj K d)(bm:L "NoProgram"=Y (.ref v))(bn:gP K v fV "Exception.__new__"=I):k_ 1 q pc ["nodes","label"] (DZ d v):=by
 refine bl.et ["nodes","label","inner","outer"] λdd dl dp ds H dx dK dL bs x l _ _=>?_;let⟨e,D,a,f,rfl,⟨al,h,am⟩,G,y,n⟩:=x;exists _,ar (bj 2 l (T 1)) (ar (bj 3 l (fQ (cc dk (T 0) (T 1) (λ_ _=>S)) S)) (ar (oh z0 (i0 (H3 (T 3))) (ar (bK (PW.pt (vv (bS cT (fQ (cc dk (T 0) (T 3) (λ_ _=>S)) S) (fQ (cc dk (T 0) (T 1) (λ_ _=>S)) S) (bV _)) (vt (bS cT (cc dk (fQ (cc dk (T 0) (T 3) (λ_ _=>S)) S) (vD vG cL) (λ_ _=>S)) (T 2) (bV _))))) (ay (aQ (T 3))) bQ) (ar (bj 2 l (T 3)) (ay (bj 3 l (fQ (cc dk (T 0) (T 3) (λ_ _=>S)) S)))))) (ay (jH j8 (by decide) bn S bm bs.hd)))),?_;let⟨B,an,ap⟩:=lR am y;let⟨bt,bv,ca,cd⟩:=ap.parent;let⟨ce,ch,ci,cl⟩:=ap.word;exists _,S,_,S,_,S,e,_,_,_,S,S,av.of h,e2 (by rw [bh,an];rfl),B,d,bt,bv,_,S,ca,b.cl,b.parent,cd,?_;let cn:VLx:=λw as ab=>ab=H/\∃A,as=[Y (.ref e),Y (.int (a:Nat)),Y (.int (w:Nat)),Y (ng A)]/\(∀o,A=Y o->o<w/\∃z,D[o]?=Y z/\z.parts≠[])/\up D f.word (w+1) w A=fM D a
 exists cn,⟨a,S,f.parent,S,λo co=>G.up a f y o co,?_⟩,?_
 .unfold fM;rw [y]
 rintro w as ab ⟨rfl,A,rfl,cr,C⟩;exists _,S,_,S,?_;cases A with
 |none=>
  refine b1 ?_;have E:fM D a=O:=by rw [<-C];rfl
  rw [E]at n;exact n
 |some o=>
  refine cf ?_;let⟨a0,z,ad,cs⟩:=cr o S;let⟨j,ct,g⟩:=lR am ad;let⟨c0,c1,c2,c3⟩:=g.word;let⟨c4,⟨c5,c6,c7,c8⟩,c9⟩:=g.parts;let⟨a1,a2,a3,a4⟩:=g.parent;obtain⟨a5,r,bd⟩:∃a5 r,z.parts=a5++[r]:=⟨_,_,(List.dropLast_concat_getLast cs).symm⟩
  have be:up D f.word (w+1) w (Y o)=if z.word=f.word/\z.parts.getLast?=Y w then Y o else up D f.word w o z.parent:=by simp only [up,ad]
  have s:(al.map V.ref)[o]?=Y (.ref j):=by rw [bh,ct];rfl
  have db:(al.map V.ref)[a]?=Y (.ref B):=by rw [bh,an];rfl
  have next:(∀Q R,(R=ab/\∃A,Q=[Y (.ref e),Y (.int (a:Nat)),Y (.int (o:Nat)),Y (ng A)]/\(∀M,A=Y M->M<o/\∃z,D[M]?=Y z/\z.parts≠[])/\up D f.word (o+1) o A=fM D a)->∃k,k<w/\R=ab/\∃A,Q=[Y (.ref e),Y (.int (a:Nat)),Y (.int (k:Nat)),Y (ng A)]/\(∀M,A=Y M->M<k/\∃z,D[M]?=Y z/\z.parts≠[])/\up D f.word (k+1) k A=fM D a):=λQ R x=>⟨o,a0,x⟩
  exists _,next,?_;exists _,S,_,S,e,_,_,_,S,S,av.of h,e2 s,j,d,c0,c1,_,S,c2,b.cl,b.word,c3,_,S,_,S,e,_,_,_,S,S,av.of h,e2 db,B,d,ce,ch,_,S,ci,b.cl,b.word,cl,S,_,S,?_;rw [xR];have bi:¬(z.word=f.word/\z.parts.getLast?=Y w)->∃A,[Y (V.ref e),Y (V.int (a:Nat)),Y (V.int (o:Nat)),Y (ng z.parent)]=[Y (V.ref e),Y (V.int (a:Nat)),Y (V.int (o:Nat)),Y (ng A)]/\(∀M,A=Y M->M<o/\∃z,D[M]?=Y z/\z.parts≠[])/\up D f.word (o+1) o A=fM D a:=λc=>by exists z.parent,S,λM X=>G.up o z ad M X,?_;rw [<-C,be,N c];exact DY G _ _ _ _ _ (by lia) a0 λM X=>(G.up o z ad M X).1
  by_cases t:z.word=f.word
  .rw [cq t];refine cf ⟨_,S,_,S,e,_,_,_,S,S,av.of h,e2 s,j,d,c5,c6,_,S,c7,b.cl,b.parts,c8,_,S,c4,_,_,_,S,S,av.of c9,by rw [bd,aT];exact vS _ _,_,S,S,_,S,?_⟩;have bk:z.parts.getLast?=Y r:=by rw [bd];simp
   by_cases u:r=w
   .rw [cq (by rw [u])];have E:fM D a=Y o:=by rw [<-C,be,ai ⟨t,by rw [bk,u]⟩]
    rw [E]at n;exact cf ⟨_,S,n⟩
   .rw [bU λi=>u (by injection i with i;lia)];refine b1 ⟨_,S,_,S,_,S,e,_,_,_,S,S,av.of h,e2 s,j,d,a1,a2,_,S,a3,b.cl,b.parent,a4,S,bi λi=>u ?_⟩;have:=i.2
    rw [bk]at this;exact aS this
  .rw [bU t];exact b1 (b1 ⟨_,S,_,S,_,S,e,_,_,_,S,S,av.of h,e2 s,j,d,a1,a2,_,S,a3,b.cl,b.parent,a4,S,bi λi=>t i.1⟩)
def OJ[DecidableEq sK]{A:List (sK×V)}{D:sK}{v:V}(G:cU A D=O):putK A D v=A++[(D,v)]:=by unfold putK;rw [ox,G];rfl
abbrev fN(z:List Info):List Nat:=cz z λA=>decide (A∈[Fm.used])
def bindL(A:List Info)(D:List Nat):List (Nat×Nat):=D.map λz=>(z,(fM A z).getD 0)
inductive D0 (D M:Z) (N:List V) (H:U) (S:VK) (T:XK):Prop
 |mk(ln ns:_)(_:N=[.ref ln])(_:jR D H ln ns)(_:ns.length<=30)(_:tM ns)(_:((∃A∈fN ns,fM ns A=O)->∀z,Ext H z->T (.ref M) O z))(_:((∀A∈fN ns,(fM ns A).isSome=I)->∀z d,Ext H z->H d=O->z d=Y (.dK ((bindL ns (fN ns)).map λx=>(.inl (x.1:Int),.int (x.2:Nat))))->S (.ref d) z))
theorem OK{c:Fm->Bool}(D:t∈cz xz c):t<xz.length:=lZ.mp (dz.mp D).1
theorem OL(z:List Info)(c:Fm->Bool):(cz z c).Nodup:=Hj Hk Hd
def nr(z:List Info)(c:Fm->Bool):(cz z c).length<=z.length:=by have:=iX (λA=>((z[A]?).map λD=>c D.aK).getD ao) (eY z.length);rwa [qk]at this
def OM(a5:a9 K "binders_of" "binders_of" DU d pc)(be:L "USED_NAME"=Y (.str "a name" wT))(bi:g_ 1 "labels_of" ["nodes","forms"] (rm K q)) (bk:q_ 1 "binder_of" ["nodes","label"] (DZ q Q)):k_ 2 d pc ["nodes"] (D0 q Q):=by
 refine a5.et ["nodes","binders","label"] λcl cn co cr H cs ct c0 W f X bl sz=>?_;let⟨s,D,rfl,ab,c,bm,bn,bs⟩:=f;exists _,ar (bj 1 X wk) (ar (d3 z0 S (dC (bI bi W (A (T 0) (A (b6 (A (hl be) aC)) aC)))) (bX 2 X) (ay (sA bl (T 1) (T 2) (gI bk W dw (A (T 0) (aJ 2))) S))) (ay (aQ (T 1)))),?_;intro j t;have bt:Ext H (upd H j (.dK [])):=Ext.one t
 exists _,S,eN,λad x=>?_;have al:=bt.new (o:=.tup [.str "a name"]) x
 have am:j≠ad:=by intro l;rw [<-l,M]at x;cases x
 exists s,D,ad,[.used],S,ab.ext al,c,ax.of M,λB c1 an ap as=>?_;have bv:=an _ _ (by rw [ah am,M])
 exists B,S,⟨_,av.of as⟩,?_;have ca:B≠j:=by intro l;rw [l,ah am,M]at ap;cases ap
 let cd:VLx:=λa G b=>∃C,A5 (G=[Y (.ref s),Y (.ref j),C]) (b j=Y (.dK ((bindL D ((fN D).take a)).map λN=>(.inl (N.1:Int),.int (N.2:Nat))))) (Ext H b) (b B=Y (.lst ((fN D).map λN=>V.int (N:Nat)))) (∀n∈(fN D).take a,(fM D n).isSome=I);refine fw (xs:=(fN D).map λN=>V.int (N:Nat)) cd ?_ ?_ ?_ ?_
 .exact⟨O,S,bv,al.trans an,as,λn f=>nomatch f⟩
 .rintro a G b _ ⟨_,_,_,_,f,_⟩;exact av.of f
 .rintro a N G b g ⟨C,rfl,r,h,a0,R⟩;rw [bh]at g;cases i:(fN D)[a]? with
  |none=>rw [i]at g;cases g
  |some u=>
   rw [i]at g;obtain rfl:=aS g;have a1:=cG i
   obtain⟨E,ce⟩:∃E,D[u]?=Y E:=⟨_,gf (OK a1)⟩
   exists _,S,_,S,s,D,u,E,S,ab.ext h,bm,ce,?_;cases F:fM D u with
   |none=>exact bn ⟨u,a1,F⟩ b h
   |some c2=>
    have w:(fN D).take (a+1)=(fN D).take a++[u]:=by rw [dq,i];rfl
    have c3:=(cF.mp i).1;have c4:(fN D).length<=D.length:=nr D _
    exists _,S,_,S,j,_,S,mz.k (k:=.inl (u:Int)) r (by rw [z];unfold bindL;rw [z,dU];lia),_,S,?_,h.upd t,ah ca▸a0,?_
    .rw [M];have ch:cU ((bindL D ((fN D).take a)).map λN=>((.inl (N.1:Int):Key),V.int (N.2:Nat))) (.inl (u:Int))=O:=by
      unfold cU;rw [Tq,nP];intro l ci;let⟨y,a2,rfl⟩:=bH.mp ci;unfold bindL at a2;let⟨v,a3,rfl⟩:=bH.mp a2;rw [n0];intro e;injection e with e;have e:v=u:=by have e:=e;lia
      rw [e]at a3;have a4:(fN D).Nodup:=OL D λd=>decide (d∈[Fm.used])
      rw [<-vk (a+1) (fN D),w]at a4;exact(gC.mp (gC.mp a4).1).2.2 u a3 u (bb.mpr S) S
     rw [OJ ch,w];unfold bindL;rw [aT,aT];show _=Y (HO.dK (_++[(nB (u:Int),V.int (((fM D u).getD 0:Nat):Int))]))
     rw [F];rfl
    .rw [w];intro n c;rcases bR.mp c with c|c
     .exact R n c
     .rw [bb.mp c,F];rfl
 .rintro G b ⟨C,rfl,r,h,a0,R⟩;rw [z,dB]at r R;exists _,S,bs R b j h t r
def lU:List (Key×V):=[(.inr "fun",.int 1),(.inr "pair",.int 2),(.inr "new",.int 3)]
def tN(z:Fm):cU lU (.inr (cO z))=(iE z).map λA=>V.int (A:Nat):=by cases z<;>decide+kernel
def pA(A:List Info)(D:Nat):List Pr:=(0,0)::(eY D).filterMap λz=>((A[z]?).bind λM=>iE M.aK).map λN=>(N,z)
def ON(M:xz[t]?=Y Op):pA xz (t+1)=pA xz t++((iE Op.aK).map λN=>(N,t)).toList:=by unfold pA;rw [qg,vh,dg];congr 2;simp only [kR,zU,M,gh];cases iE Op.aK<;>rfl
def OO(A:List Info)(z:Nat):(pA A z).length<=z+1:=by
 unfold pA;rw [dn];have:=iU (λD=>((A[D]?).bind λM=>iE M.aK).map λN=>((N,D):Pr)) (eY z)
 rw [qk]at this
 lia
inductive D1 (K:af) (D:Z) (M:List V) (H:U) (N:VK) (S:XK):Prop
 |mk(ln ns:_)(_:M=[.ref ln])(_:jR D H ln ns)(_:ns.length<=30)(_:∀z A,Ext H A->H z=O->LstAt K A z (xt ns)->N (.ref z) A)
def OP(bi:a9 K "sorts_of" "sorts_of" DW pp pc)(j:pj K Q)(bk:L "enumerate"=O)(bl:L "NUMBERS"=Y (.ref q))(bm:∀H,ax K H q (b4 (0,0)))(W:L "KIND_OF_MAKER"=Y (.ref d))(X:KD K m p d lU):f_ 1 pp pc ["nodes"] (D1 K Q):=by
 refine bi.go ["nodes","sorts","label","node"] λce ch ci cl H cn co cr cs r s _ sz=>?_;let⟨ab,ad,rfl,⟨al,am,an⟩,ct,bn⟩:=r;exists _,ar (bj 1 s (de (A (ei (v:=.ref q) S bl S) aC))) (ar (d3 dZ S (sC S bk (aJ 0)) (lj S (gT (bX 2 s) (gT (bX 3 s) lh))) (ay (bK (i0 (wB (aF 3) (ei (v:=.ref d) S W S)) S) (ay (cM (fe fu gb gF fR (T 1) (A (b6 (A (wA (ei (v:=.ref d) S W S) (aF 3) (λ_ _=>S)) (aJ 2))) aC)))) bQ))) (ay (aQ (T 1)))),?_;exists eN,λN t=>?_;have ap:Ext H (upd H N (.lst [.ref q])):=Ext.one t
 exists _,S,ab,_,S,av.of (ap _ _ am),?_;let as:VLx:=λD k a=>X2 λu x=>A3 (k=[Y (.ref ab),Y (.ref N),u,x]) (∃b,a N=Y (.lst (b.map V.ref))/\fJ K a b (pA ad D)) (Ext H a)
 refine yc (xs:=al.map V.ref) as ?_ ?_ ?_ ?_
 .exact⟨O,O,S,⟨[q],M,.cons (bm _) .nil⟩,ap⟩
 .rintro D k a _ ⟨_,_,_,_,r⟩;exact av.of (r _ _ am)
 .rintro D c0 k a l f ⟨u,x,rfl,⟨b,g,i⟩,y⟩ n;rw [bh]at f;cases B:al[D]? with
  |none=>rw [B]at f;cases f
  |some c=>
   rw [B]at f;obtain rfl:=aS f;let⟨C,a0,bs⟩:=ey an B;have c1:=(cF.mp a0).1
   have E:=y.new (o:=.tup [.int (D:Nat),.ref c]) n;let⟨a1,a2,a3,a4⟩:=(bs.ext E).aK;have bt:N≠l:=by intro h;rw [h]at g;rw [g]at n;cases n
   have G:upd a l (.tup [.int (D:Nat),.ref c]) N=Y (.lst (b.map V.ref)):=ah bt▸g;have a5:=fJ.ext (Ext.one (o:=.tup [.int (D:Nat),.ref c]) n) i
   exists l,_,S,ax.of M,S,_,_,S,_,_,S,S,?_;generalize upd a l (.tup [.int (D:Nat),.ref c])=bv at*;exists _,S,c,Q,a1,a2,_,S,a3,j.cl,j.aK,a4,d,_,S,⟨lU,.inr (cO C.aK),X,S,S⟩,_,S,?_;dsimp only [as];rw [tN,kU,ON a0];cases ca:iE C.aK with
   |none=>
    refine b1 ⟨_,_,S,⟨b,G,?_⟩,E⟩;rwa [Option.map_none,Option.toList_none,b0]
   |some cd=>
    have c2:b.length<=D+1:=bO a5▸OO ad D;refine cf ⟨_,S,.inl ⟨S,_,av.of G⟩,_,S,c,Q,a1,a2,_,S,a3,j.cl,j.aK,a4,d,_,S,⟨lU,.inr (cO C.aK),X,S,by rw [tN,ca];rfl⟩,_,S,cD,λe R=>?_⟩;have bd:N≠e:=by intro h;rw [<-h,G]at R;cases R
    exists N,_,_,S,S,by rwa [ah bd],by rw [z];lia,_,_,S,⟨b++[e],?_,?_⟩,(E.new R).upd t
    .rw [M,aT];rfl
    .have be:cX (upd bv e (.tup [.int (cd:Nat),.int (D:Nat)]) N):=by rw [ah bd,G];exact trivial
     exact fL (Paired.b9 a5 λc3 c4 h=>bF (.inl be) (bF (.inr R) h)) (bF (.inl be) (ax.of M))
 .rintro k a ⟨u,x,rfl,⟨b,g,i⟩,y⟩;rw [z,bO an]at i;exists _,S,bn N a y t ⟨b,av.of g,i⟩
def yd(G:aW 0 l=l)(M:rc∈aG l):∃N,(infos O l)[ag rc]?=Y (cZ N rc):=by
 have D:=sT G;rcases xb M with rfl|⟨y,a,b⟩
 .exact⟨O,D.top⟩
 .exact⟨_,D.o4 y a rc b⟩
def OQ:∀(M:Nat) (z:ae),gg z<=M->∀D,bJ z=cj D (size z)->∀G∈aG z,bJ G=cj (ag G) (size G):=by
 intro M;induction M with
 |zero=>intro z e;cases z<;>simp at e
 |succ M b=>
  intro z e D h G N;let⟨i,T⟩:=kB h;rw [gp]at N;rcases bg.mp N with rfl|N
  .rwa [i]
  .obtain⟨U,c,j⟩:=di.mp N;let⟨A,f,g⟩:=Hq c;rw [g,k4,b3,aT,vd,aZ,eC]at T;have k:(A.flatMap bJ).length=(A.map size).sum:=by
    clear g T c;induction A with
    |nil=>rfl
    |cons a m b=>rw [b3,br,gX,b];rfl
   have l:cj (D+1) ((A.map size).sum+(size U+(f.map size).sum))=cj (D+1) (A.map size).sum++(cj (D+1+(A.map size).sum) (size U)++cj (D+1+(A.map size).sum+size U) (f.map size).sum):=by rw [kc,kc]
   rw [l]at T;let⟨n,d⟩:=md T (by rw [k,qe]);let⟨d,o⟩:=md d (by rw [gX,qe]);exact b U (by have:=h3 c;lia) _ d G j
def D2(A:aW 0 l=l):bJ l=cj 0 (size l):=by have:=lF l 0;rw [A]at this;exact this
theorem mU(A:aW 0 l=l):e5 l:=⟨by rw [gX,zK];exact D2 A⟩
def OR{y:ae}(D:aW 0 l=l)(G:y∈aG l)(M:rc∈kids y):ag y<ag rc:=by
 let⟨_,N⟩:=kB (OQ _ l (aR _) 0 (D2 D) y G);have:ag rc∈(kids y).flatMap bJ:=di.mpr ⟨rc,M,by rw [dI];exact bE⟩
 rw [N,ve]at this
 lia
def D3(M:aW 0 l=l)(S:(infos O l)[t]?=Y Op):∃A∈aG l,ag A=t/\∃G,Op=cZ G A:=by
 have c:t<size l:=by have:=(cF.mp S).1;rwa [eU]at this
 obtain⟨A,T⟩:∃A,(aG l)[t]?=Y A:=⟨_,gf c⟩
 have U:=cG T;have a:=(mU M).at T
 let⟨G,b⟩:=yd M U;rw [a,S]at b;exists A,U,a,G,aS b
def OS(z:aW 0 l=l):tM (infos O l):=by
 exists λf g D o M=>?_;let⟨c,d,G,h,rfl⟩:=D3 z D;have N:=sT z
 rcases xb d with rfl|⟨y,b,a⟩
 .have:=N.top;rw [G,D]at this;have:=bD Info.parent (aS this)
  rw [M]at this;cases this
 .have:=N.o4 y b c a;rw [G,D]at this;have T:=bD Info.parent (aS this)
  rw [M]at T;obtain rfl:=aS T;let⟨i,e⟩:=yd z b;exists G▸OR z b a,_,e,?_;show(kids y).map ag≠[]
  intro U;rw [List.map_eq_nil_iff]at U;rw [U]at a;cases a
def ye(e:aW 0 l=l)(U:bo l=I)(G:hV t FB∈aG l)(f:FB≠du):fM (infos O l) t=g7 l t:=by
 let⟨T,g,h⟩:=Mx e U G;unfold fM;rw [g];have hw:(cZ T (.var t FB)).word=FB:=N f
 show up (infos O l) (cZ T (.var t FB)).word (t+1) t (cZ T (.var t FB)).parent=_;rw [hw];refine h (t+1) (pW t) λi=>?_;have j:bo (.var t FB)=I:=by
  have:∀(M:Nat) (l:ae),gg l<=M->bo l=I->∀FB∈aG l,bo FB=I:=by
   intro M;induction M with
   |zero=>intro l a;cases l<;>simp at a
   |succ M k=>
    intro l a b FB G;rw [gp]at G;rcases bg.mp G with rfl|G
    .exact b
    .obtain⟨c,d,z⟩:=di.mp G;exact k c (by have:=h3 d;lia) (((mI l).mp b).2 c d) FB z
  exact this _ l (aR _) U _ G
 subst i;exact absurd (show gD []=I from j) (by decide)
def D4(b:aW 0 l=l):t∈fN (infos O l)↔∃z,hV t z∈aG l/\z≠du:=by
 unfold fN cz;rw [dz,lZ];constructor
 .rintro⟨f,G⟩;obtain⟨c,d⟩:∃c,(infos O l)[t]?=Y c:=⟨_,gf f⟩
  rw [d]at G;let⟨z,T,U,e,rfl⟩:=D3 b d;have G:=G
  have a:aB z=.used:=bb.mp (eB G);cases z with
  |var i y=>
   have U:=U;subst U;exact⟨y,T,λg=>by rw [aB,ai g]at a;cases a⟩
  |_=>cases a
 .rintro⟨z,T,h⟩;let⟨e,M⟩:=yd b T;have M:(infos O l)[t]?=Y (cZ e (.var t z)):=M
  exists (cF.mp M).1,?_;rw [M];show decide (aB (.var t z)∈[Fm.used])=I
  rw [aB,N h];rfl
def OT(D:hH (bY [] (sB.map norm))=O):hT sB=O:=by
 cases a:hT sB with
 |none=>rfl
 |some b=>
  let⟨G,M⟩:=qR.mp a;have z:=q3 G
  have:=Cv.mpr ⟨b,z.told,M,z.bL,z.deep,z.mU,S,S⟩;rw [D]at this;cases this
def OU(M:bo l=I)(A:aW 0 l=l)(b:∃D∈fN (infos O l),fM (infos O l) D=O):hT (bq l)=O:=by
 cases c:hT (bq l)with
 |none=>rfl
 |some h=>
  let⟨d,e⟩:=qR.mp c;have G:=q3 d
  have N:=wO G.told M e;rw [G.mU,A]at N;subst N;let⟨D,f,T⟩:=b;let⟨g,U,a⟩:=(D4 A).mp f;rw [ye A M U a]at T;have:=(G.bound D g U).resolve_left a
  rw [T]at this;cases this
def OV(U:bo l=I)(M:aW 0 l=l)(f:size l<=30)(g:dH l<=8)(h:∀z∈fN (infos O l),(fM (infos O l) z).isSome=I):hT (bq l)=Y l/\bG l/\bindL (infos O l) (fN (infos O l))=mS l:=by
 have b:=Cd.mpr ⟨U,M,f,g,λz D T=>by
  by_cases G:D=du
  .exact .inl G
  .refine .inr ?_;rw [<-ye M U T G];exact h z ((D4 M).mpr ⟨D,T,G⟩)⟩
 have a:=q3 b;exists qR.mpr ⟨b,S⟩,a,?_;unfold bindL fN mS;rw [mY a];have i:∀z:List ae,(∀D∈z,D∈aG l)->((z.filter λD=>decide (aB D∈[Fm.used])).map ag).map (λz=>(z,(fM (infos O l) z).getD 0))=z.filterMap λD=>match D with
   |.var z y=>if y=du then O else(g7 l z).map λc=>(z,c)
   |_=>O:=by
  intro z;induction z with
  |nil=>intro _;rfl
  |cons D A j=>
   intro d;rw [ig,kR,<-j λy k=>d y (bC _ k)];cases D with
   |var z y=>
    by_cases G:y=du
    .have:decide (aB (.var z y)∈[Fm.used])=ao:=by rw [aB,ai G];rfl
     rw [this];dsimp only;rw [ai G];rfl
    .have:decide (aB (.var z y)∈[Fm.used])=I:=by rw [aB,N G];rfl
     rw [this];dsimp only;rw [N G];have T:=d _ bE
     let⟨c,e⟩:=rB.mp ((a.bound z y T).resolve_left G);rw [ai S,e,aZ,aZ];show(z,(fM (infos O l) z).getD 0)::_=_
     rw [ye M U T G,e];rfl
   |_=>rfl
 exact i _ λ_ M=>M
def eO(K:af)(H:U)(A:Z)(D:List Pr):Prop:=∃z,H A=Y (.lst (z.map V.ref))/\fJ K H z D
theorem eO.lst{K:af}{H:U}(D:eO K H d re):LstAt K H d re:=let⟨G,M,N⟩:=D;⟨G,av.of M,N⟩
theorem eO.ext{K:af}{H:U}(G:Ext H r)(M:eO K H d re):eO K r d re:=let⟨N,S,T⟩:=M;⟨N,G _ _ S,fJ.ext G T⟩
def eO.push{H:U}{k l:Nat}(b:H q=Y (.lst (wf.map V.ref)))(e:fJ K H wf re)(N:H d=O):upd H d (.tup [.int (k:Nat),.int (l:Nat)]) q=Y (.lst (wf.map V.ref))/\eO K (upd (upd H d (.tup [.int (k:Nat),.int (l:Nat)])) q (.lst (wf.map V.ref++[V.ref d]))) q (re++[(k,l)]):=by
 have f:q≠d:=by intro T;rw [<-T,b]at N;cases N
 have c:upd H d (.tup [.int (k:Nat),.int (l:Nat)]) q=Y (.lst (wf.map V.ref)):=ah f▸b;have z:cX (upd H d (.tup [.int (k:Nat),.int (l:Nat)]) q)\/upd H d (.tup [.int (k:Nat),.int (l:Nat)]) q=O:=.inl (c▸trivial)
 exists c,wf++[d],by rw [M,aT];rfl,?_;exact fL (Paired.b9 e λg h T=>bF z (bF (.inr N) T)) (bF z (ax.of M))
def OW:(λz:Fm=>decide (z∈[Fm.fn,.letE]))=jf:=by funext z;cases z<;>decide
def tO(A:Fm):(λz:Fm=>decide (z∈[A]))=λz=>decide (z=A):=by funext z;rw [hb];exact bb
inductive D5 (K:af) (D:Z) (M:List V) (H:U) (N:VK) (S:XK):Prop
 |mk(ln ns:_)(_:M=[.ref ln])(_:jR D H ln ns)(_:ns.length<=30)(_:∀z A,Ext H A->H z=O->LstAt K A z (tq ns)->N (.ref z) A)
def OX(c6:a9 K "places_of" "places_of" DX d pc)(al:Gs L)(c7:L "len"=O)(c8:L "range"=O)(c9:L "BINDERS"=Y (.ref q))(db:∀H,ax K H q [.str "fun",.str "let"])(a5:g_ 1 "labels_of" ["nodes","forms"] (rm K Q)):f_ 2 d pc ["nodes"] (D5 K Q):=by
 let⟨f1,dd⟩:=al.node;let⟨f2,dl⟩:=al.name;let⟨f4,dp⟩:=al.first;let⟨f8,ds⟩:=al.second;let⟨ga,dx⟩:=al.inside;refine c6.go ["nodes","places","label"] λge gl go bd H gt g1 g2 be E am _ sz=>?_;let⟨b,N,rfl,a2,bi,dK⟩:=E;exists _,ar (su (i:=1) (own:=[("label",2)]) S am S rfl (sv S rfl rfl rfl) (Aa S c8 (A (cR ej (by rfl) c7 dE (aJ 0)) aC)) (e3 S) (λbd H bt bv ca=>bX 2 am) (λbd H bt bv ca=>hB) (λbd H bt bv ca=>b6 (A (b7 dd) (aJ 2)))) (ar (d3 dZ S (dC (bI a5 be (A (T 0) (A (ei (v:=.ref q) S c9 S) aC)))) (bX 2 am) (ay (cM (fe fu gb gF fR (T 1) (A (b6 (A (b7 dl) (aJ 2))) aC))))) (ar (d3 dZ S (dC (bI a5 be (A (T 0) (A (b6 (A dP aC)) aC)))) (bX 2 am) (ar (cM (fe fu gb gF fR (T 1) (A (b6 (A (b7 dp) (aJ 2))) aC))) (ay (cM (fe fu gb gF fR (T 1) (A (b6 (A (b7 ds) (aJ 2))) aC)))))) (ar (d3 dZ S (dC (bI a5 be (A (T 0) (A (b6 (A dP aC)) aC)))) (bX 2 am) (ay (cM (fe fu gb gF fR (T 1) (A (b6 (A (b7 dx) (aJ 2))) aC))))) (ay (aQ (T 1)))))),?_;let⟨g3,dL,dT⟩:=id a2;have dX:=bO dT
 exists _,S,b,_,S,.inl (av.of dL),(N.length:Int),?_,by lia,by lia,λw G=>?_
 .rw [z,dX]
 rw [uD];let R:VCx:=λan a3=>eO K a3 w ((eY an).map λD=>(0,D))/\Ext H a3
 refine J4 R ?_ ?_ ?_
 .exact⟨⟨[],M,.nil⟩,Ext.one G⟩
 .rintro an a3 hd ⟨⟨y,t,n⟩,W⟩;exists S,?_;unfold hk;dsimp only [];rw [ai S];exists _,S,cD,λx e=>?_;have d0:(0:Int)+(an:Int)=(an:Int):=by lia
  rw [d0];let⟨X,ab⟩:=eO.push (K:=K) (k:=0) (l:=an) t n e;exists _,X,?_,?_,(W.new e).upd G
  .rw [z,bO n,z,qk];lia
  .rw [qg,aT];exact ab
 rintro a3 ⟨cd,ce⟩;exists _,S,b,N,q,[.fn,.letE],S,a2.ext ce,bi,db _,λg he ch B bn=>?_;have d1:=cd.ext ch
 have em:=ce.trans ch;have ad:g≠w:=by intro bs;let⟨y,ap,_⟩:=cd;rw [bs,ap]at B;cases B
 rw [OW]at bn;have hf:=nr N jf
 exists g,S,⟨_,av.of bn⟩,?_;let R:VLx:=λh j c=>∃r,A4 (j=[Y (.ref b),Y (.ref w),r]) (eO K c w ((eY N.length).map (λD=>(0,D))++((cz N jf).take h).map λD=>(1,D))) (Ext H c) (c g=Y (.lst ((cz N jf).map λa1=>V.int (a1:Nat))))
 refine fw (xs:=(cz N jf).map λa1=>V.int (a1:Nat)) R ?_ ?_ ?_ ?_
 .exact⟨_,S,by rw [mi,hP,b0];exact d1,em,bn⟩
 .rintro h j c _ ⟨_,_,_,_,E⟩;exact av.of E
 .rintro h a1 j c f ⟨r,rfl,⟨y,t,n⟩,W,C⟩;rw [bh]at f;cases s:(cz N jf)[h]? with
  |none=>rw [s]at f;cases f
  |some u=>
   rw [s]at f;obtain rfl:=aS f;exists _,S,.inl ⟨S,_,av.of t⟩,_,S,cD,λx e=>?_;let⟨X,ab⟩:=eO.push (K:=K) (k:=1) (l:=u) t n e;exists w,_,_,S,S,X,?_,_,S,?_,(W.new e).upd G,?_
   .rw [z,bO n,br,z,z,qk,dU];lia
   .rw [dq,s,aT,<-ck];exact ab
   .have as:g≠x:=by intro bs;rw [<-bs,C]at e;cases e
    rw [ah ad,ah as];exact C
 rintro j hi ⟨r,rfl,ci,eq,_⟩;rw [z,dB]at ci;exists _,S,eN,λbk a0=>?_;have cl:=eq.new (o:=.tup [.str "pair"]) a0
 have cn:=ci.ext (Ext.one (o:=.tup [.str "pair"]) a0);exists b,N,bk,[.pair],S,a2.ext cl,bi,ax.of M,λg hm co B bn=>?_;have es:=cn.ext co
 have ev:=cl.trans co;have ad:g≠w:=by intro bs;let⟨y,ap,_⟩:=cn;rw [bs,ap]at B;cases B
 rw [tO]at bn;have hz:=nr N λd=>decide (d=.pair)
 exists g,S,⟨_,av.of bn⟩,?_;have cr:∀a4:List Nat,(a4.flatMap λD=>([(2,D),(3,D)]:List Pr)).length=2*a4.length:=by
  intro a4;induction a4 with
  |nil=>rfl
  |cons a h0 ex=>rw [b3,br,ex,dn (a:=a)];show 2+_=_;lia
 let R:VLx:=λh j c=>∃r,A4 (j=[Y (.ref b),Y (.ref w),r]) (eO K c w ((eY N.length).map (λD=>(0,D))++(cz N jf).map (λD=>(1,D))++((cz N λd=>decide (d=.pair)).take h).flatMap λD=>[(2,D),(3,D)])) (Ext H c) (c g=Y (.lst ((cz N λd=>decide (d=.pair)).map λa1=>V.int (a1:Nat))));refine fw (xs:=(cz N λd=>decide (d=.pair)).map λa1=>V.int (a1:Nat)) R ?_ ?_ ?_ ?_
 .exact⟨_,S,by rw [mi,ep,b0];exact es,ev,bn⟩
 .rintro h j c _ ⟨_,_,_,_,E⟩;exact av.of E
 .rintro h a1 j c f ⟨r,rfl,⟨y,t,n⟩,W,C⟩;rw [bh]at f;cases s:(cz N λd=>decide (d=.pair))[h]? with
  |none=>rw [s]at f;cases f
  |some u=>
   rw [s]at f;obtain rfl:=aS f;exists _,S,.inl ⟨S,_,av.of t⟩,_,S,cD,λx e=>?_;let⟨X,ab⟩:=eO.push (K:=K) (k:=2) (l:=u) t n e;have fa:y.length<=120:=by rw [bO n,br,br,z,z,qk,cr,dU];lia
   exists w,_,_,S,S,X,by rw [z];lia,?_;have as:g≠x:=by intro bs;rw [<-bs,C]at e;cases e
   have bl:Ext H (upd (upd c x (.tup [.int ((2:Nat):Int),.int (u:Nat)])) w (.lst (y.map V.ref++[V.ref x]))):=(W.new e).upd G;have cs:upd (upd c x (.tup [.int ((2:Nat):Int),.int (u:Nat)])) w (.lst (y.map V.ref++[V.ref x])) g=_:=((ah ad).trans (ah as)).trans C
   let⟨fd,ct,c0⟩:=ab;have h1:fd.length<=121:=by rw [bO c0,br,<-bO n];exact qj fa 1
   exists _,S,.inl ⟨S,_,av.of ct⟩,_,S,cD,λh2 bm=>?_;let⟨fl,fm⟩:=eO.push (K:=K) (k:=3) (l:=u) ct c0 bm;exists w,_,_,S,S,fl,by rw [z];lia,_,S,?_,(bl.new bm).upd G,?_
   .rw [dq,s,k4,<-ck];have:(Option.toList (Y u)).flatMap (λD=>([(2,D),(3,D)]:List Pr))=[(2,u)]++[(3,u)]:=rfl
    rw [this,<-ck];exact fm
   .have fn:=cB cs bm;rw [ah ad,ah fn];exact cs
 rintro j ii ⟨r,rfl,c1,bl,_⟩;rw [z,dB]at c1;exists _,S,eN,λbk a0=>?_;have c2:=bl.new (o:=.tup [.str "new"]) a0
 have c3:=c1.ext (Ext.one (o:=.tup [.str "new"]) a0);exists b,N,bk,[.new],S,a2.ext c2,bi,ax.of M,λg im c4 B bn=>?_;have fr:=c3.ext c4
 have fs:=c2.trans c4;have ad:g≠w:=by intro bs;let⟨y,ap,_⟩:=c3;rw [bs,ap]at B;cases B
 rw [tO]at bn;have io:=nr N λd=>decide (d=.new)
 exists g,S,⟨_,av.of bn⟩,?_;let R:VLx:=λh j c=>∃r,A4 (j=[Y (.ref b),Y (.ref w),r]) (eO K c w ((eY N.length).map (λD=>(0,D))++(cz N jf).map (λD=>(1,D))++(cz N λd=>decide (d=.pair)).flatMap (λD=>[(2,D),(3,D)])++((cz N λd=>decide (d=.new)).take h).map λD=>(4,D))) (Ext H c) (c g=Y (.lst ((cz N λd=>decide (d=.new)).map λa1=>V.int (a1:Nat))))
 refine fw (xs:=(cz N λd=>decide (d=.new)).map λa1=>V.int (a1:Nat)) R ?_ ?_ ?_ ?_
 .exact⟨_,S,by rw [mi,hP,b0];exact fr,fs,bn⟩
 .rintro h j c _ ⟨_,_,_,_,E⟩;exact av.of E
 .rintro h a1 j c f ⟨r,rfl,⟨y,t,n⟩,W,C⟩;rw [bh]at f;cases s:(cz N λd=>decide (d=.new))[h]? with
  |none=>rw [s]at f;cases f
  |some u=>
   rw [s]at f;obtain rfl:=aS f;exists _,S,.inl ⟨S,_,av.of t⟩,_,S,cD,λx e=>?_;let⟨X,ab⟩:=eO.push (K:=K) (k:=4) (l:=u) t n e;exists w,_,_,S,S,X,?_,_,S,?_,(W.new e).upd G,?_
   .rw [z,bO n,br,br,br,z,z,z,qk,cr,dU];lia
   .rw [dq,s,aT,<-ck];exact ab
   .have as:g≠x:=by intro bs;rw [<-bs,C]at e;cases e
    rw [ah ad,ah as];exact C
 rintro j fT ⟨r,rfl,c5,f0,_⟩;rw [z,dB]at c5;exists _,S,dK w fT f0 G c5.lst
abbrev Ex:=ae
abbrev D6:a8:=inClass (top 38) 0
abbrev D7:a8:=inClass (top 38) 1
abbrev D8:a8:=inClass (top 38) 2
abbrev D9:a8:=inClass (top 38) 3
abbrev Ea:a8:=inClass (top 38) 4
def cJ(z:aj):List V:=z.map λA=>V.int (A.toNat:Int)
def Eb(z A D G M:Z):List (aa×V):=[("text",.ref z),("nodes",.ref A),("binders",.ref D),("sorts",.ref G),("places",.ref M)]
structure eE(K:af)(z A:Z):Prop where
 p:rh K z A
 n:pj K A
 text:dF K z "text"
structure cg(K:af)(S T:Z)(H:U)(p:Z)(z:Ex):Prop where
 ok:bG z
 ex:X6 λa G M lb N lp=>A6 (H p=Y (.ins S a (Eb G M lb N lp))) (H G=Y (.lst (cJ (bq z)))) (∃rs:List NR,H M=Y (.lst (rs.map λA=>V.ref A.a))/\(∀A∈rs,gL T (bq z).length H A)/\rs.map (·.i)=infos O z/\rs.map (·.sp)=df z 0) (H lb=Y (.dK ((mS z).map λx=>(.inl (x.1:Int),.int (x.2:Nat))))) (LstAt K H N ((bp z).map a6)) (LstAt K H lp ((aq z).map D))
def gL.ext{H:U}{G:NR}(M:Ext H r)(N:gL d t H G):gL d t r G:=by let⟨⟨S,T⟩,a⟩:=N;exists ⟨S,M _ _ T⟩,M _ _ a
def gL.node{H:U}{z:NR}(N:gL d t H z):kK d H z.a z.i:=by let⟨⟨A,D⟩,T⟩:=N;exists ⟨A,_,D,S⟩,⟨A,_,D,S⟩,⟨A,_,D,S⟩,z.lp,⟨A,_,D,S⟩,T
theorem yf{H:U}:∀{z:List NR},(∀A∈z,gL d t H A)->cE (kK d H) (z.map (·.a)) (z.map (·.i))
 |[],_=>.nil
 |A::z,a=>.cons (a A bE).node (yf λM N=>a M (bC _ N))
variable{pi:Ex}
def cg.ext{K:af}{H:U}(z:Ext H r)(S:cg K d q H Q pi):cg K d q r Q pi:=by let⟨T,a,b,c,A,e,f,g,h,⟨i,j,k,l,m⟩,n,o,p⟩:=S;exists T,a,b,c,A,e,f,z _ _ g,z _ _ h,⟨i,z _ _ j,λD G=>(k D G).ext z,l,m⟩,z _ _ n,o.ext z,p.ext z
def cg.prog{K:af}{H:U}(T:cg K q d H Q pi):lQ K q d H Q (cV pi):=by
 let⟨k,z,l,a,b,c,D,A,m,⟨e,n,f,g,o⟩,h,i,j⟩:=T;exists ⟨a,e.map (·.a),⟨z,_,A,S⟩,by rwa [d6],?_⟩,⟨b,⟨z,_,A,S⟩,h⟩,⟨c,⟨z,_,A,S⟩,i⟩,⟨D,⟨z,_,A,S⟩,j⟩;show cE (kK d H) _ (infos O pi)
 rw [<-g];exact yf f
def cg.nodes{K:af}{H:U}(N:cg K d q H Q pi):∃z,h7 d H Q "nodes" (.ref z)/\jR q H z (infos O pi):=by let⟨z,S,T,a,b⟩:=N.prog.nodes;exists z,T,S,a,b
def jm{H:U}{o:HO}(S:H d=Y (.ins Q pp Go))(T:H q=Y (.lst ul)):upd H d o q=Y (.lst ul):=by rwa [ah (gw S T).symm]
def LstAt.keep{K:af}{H:U}{o:HO}(A:H d=Y (.ins Q pp Go))(b:LstAt K H q re):LstAt K (upd H d o) q re:=by
 let⟨c,z,G⟩:=b;exists c,?_,Paired.b9 G λe f D=>bF (.inl (A▸trivial)) D;rcases z with(z|⟨u,z⟩)|z
 .exact .inl (.inl (jm A z))
 .exact .inl (.inr ⟨u,ah (cW z A (by intro D;cases D))▸z⟩)
 .exact .inr z
def gL.keep{H:U}{G:NR}{c:Z}{o:HO}(A:gL d t H G)(T:H q=Y (.ins Q c Go))(e:Go.length≠6):gL d t (upd H q o) G:=by
 let⟨⟨f,a⟩,g⟩:=A;have h:=cW a T (by intro z;injection z with _ _ z;exact e (by rw [<-z];rfl))
 exists ⟨f,ah h▸a⟩,jm T g
inductive tP (K:af) (A M N:Z) (S:List V) (H:U) (T:VK) (a:XK):Prop
 |mk(p b lt:_)(t:aj)(_:S=[.ref p,.ref lt])(_:H p=Y (.ins A b []))(_:H lt=Y (.lst (cJ t)))(_:t.length<=9000)(_:(hT t=O->∀z,bN p H z->a (.ref N) O z))(_:∀D,hT t=Y D->∀z,bN p H z->cg K A M z p D->T .bw z)
theorem bN.ext{H:U}(M:bN d H r)(N:Ext r s0):bN d H s0:=λc o S T=>N c o (M c o S T)
theorem bN.gZ{H:U}{o:HO}(M:bN d H r):bN d H (upd r d o):=λc u N D=>ah D▸M c u N D
def OY(co:a9 K "__init__" "Program.__init__" D6 pp pc)(e:eE K d q)(cr:L "list"=O)(cs:q_ 8 "read_expression" ["text"] (x7 q Q)) (ct:q_ 2 "binders_of" ["nodes"] (D0 q Q)) (c0:g_ 1 "sorts_of" ["nodes"] (D1 K q)) (c1:g_ 2 "places_of" ["nodes"] (D5 K q)):k_ 9 pp pc ["self","text"] (tP K d q Q):=by
 refine co.et ["self","text"] λfd fl fm fn H fr fs fT g c2 f0 _ sz=>?_;let⟨N,D,C,j,rfl,E,F,c3,a0,c4⟩:=c2;have c5:=g.mo 1
 have a1:=g.mo 2;exists _,ar (dQ (T 0) (sj JG (by rfl) cr (by decide+kernel) (aJ 1)) S) (ar (dQ (T 0) (gI cs g dw (aJ 1)) S) (ar (dQ (T 0) (gI ct a1 dw (A (aF 0) aC)) S) (ar (dQ (T 0) (bI c0 c5 (A (aF 0) aC)) S) (ay (dQ (T 0) (bI c1 a1 (A (aF 0) aC)) S))))),?_;have c6:C≠N:=(gw E F).symm
 exists _,S,C,_,S,.inl (av.of F),λa a2=>?_;have c7:N≠a:=cB E a2
 have a3:Ext H (upd H a (.lst (cJ j))):=Ext.one a2;exists _,S,N,d,D,_,S,a3 _ _ E,e.p.c,e.text,by decide,?_;have z:bN N H (upd (upd H a (.lst (cJ j))) N (.ins d D (aO "text" (.ref a) []))):=a3.but.gZ
 have c8:upd (upd H a (.lst (cJ j))) N (.ins d D (aO "text" (.ref a) [])) a=Y (.lst (cJ j)):=by rw [ah c7.symm,M]
 have c9:upd (upd H a (.lst (cJ j))) N (.ins d D (aO "text" (.ref a) [])) N=Y (.ins d D (aO "text" (.ref a) [])):=M;generalize upd (upd H a (.lst (cJ j))) N (.ins d D (aO "text" (.ref a) []))=f1 at*;exists _,S,C,j,S,z _ _ F c6,c3,?_;cases a4:hH (bY [] (j.map norm))with
 |none=>exactλf R=>a0 (OT a4) f (z.ext R)
 |some db=>
 let⟨f2,f4⟩:=db;let⟨h,a5,dd,bd,dl,W,rfl,rfl⟩:=Cv.mp a4;subst dd;intro x b l X f8 be dp bi ds;have ap:=X _ _ c9
 have dx:=X _ _ c8;have dK:=z.ext X
 have ga:b≠N:=(gw ap be).symm;exists _,S,N,d,D,_,S,ap,e.p.c,e.p.nodes,(by show 1<1000;decide),?_;have bk:bN N H (upd x N (.ins d D (aO "nodes" (.ref b) (aO "text" (.ref a) [])))):=dK.gZ
 have bl:upd x N (.ins d D (aO "nodes" (.ref b) (aO "text" (.ref a) []))) N=Y (.ins d D (aO "nodes" (.ref b) (aO "text" (.ref a) []))):=M;have dL:=jm (o:=.ins d D (aO "nodes" (.ref b) (aO "text" (.ref a) []))) ap dx
 have bm:=jm (o:=.ins d D (aO "nodes" (.ref b) (aO "text" (.ref a) []))) ap be;have bn:∀w∈l,gL q (bq h).length (upd x N (.ins d D (aO "nodes" (.ref b) (aO "text" (.ref a) [])))) w:=λw g=>(dp w g).keep ap (by show 1≠6;decide)
 generalize upd x N (.ins d D (aO "nodes" (.ref b) (aO "text" (.ref a) [])))=ge at*;have ab:∀{y:U},y b=Y (.lst (l.map λw=>V.ref w.a))->(∀w∈l,gL q (bq h).length y w)->jR q y b (infos O h):=λ{y} dT dX=>⟨l.map (·.a),by rw [d6];exact dT,by rw [<-bi];exact yf dX⟩
 have ad:(infos O h).length<=30:=by rw [eU];exact bd
 exists _,S,N,d,D,_,_,S,bl,e.p.c,e.p.nodes,S,b,infos O h,S,ab bm bn,ad,OS W,λal f R=>a0 (OU a5 W al) f (bk.ext R),λal r c s gl am=>?_;let⟨d0,an,d1⟩:=OV a5 W bd dl al;rw [d1]at am;have t:=s _ _ bl
 exists _,S,N,d,D,_,S,t,e.p.c,e.p.binders,(by show 2<1000;decide),?_;have em:bN N H (upd r N (.ins d D (aO "binders" (.ref c) (aO "nodes" (.ref b) (aO "text" (.ref a) []))))):=(bk.ext s).gZ
 have bs:upd r N (.ins d D (aO "binders" (.ref c) (aO "nodes" (.ref b) (aO "text" (.ref a) [])))) N=Y (.ins d D (aO "binders" (.ref c) (aO "nodes" (.ref b) (aO "text" (.ref a) [])))):=M;have eq:=jm (o:=.ins d D (aO "binders" (.ref c) (aO "nodes" (.ref b) (aO "text" (.ref a) [])))) t (s _ _ dL)
 have bt:=jm (o:=.ins d D (aO "binders" (.ref c) (aO "nodes" (.ref b) (aO "text" (.ref a) [])))) t (s _ _ bm);have bv:∀w∈l,gL q (bq h).length (upd r N (.ins d D (aO "binders" (.ref c) (aO "nodes" (.ref b) (aO "text" (.ref a) []))))) w:=λw g=>((bn w g).ext s).keep t (by show 2≠6;decide)
 have ca:upd r N (.ins d D (aO "binders" (.ref c) (aO "nodes" (.ref b) (aO "text" (.ref a) [])))) c=_:=(ah (cW am t (by intro u;cases u))).trans am;generalize upd r N (.ins d D (aO "binders" (.ref c) (aO "nodes" (.ref b) (aO "text" (.ref a) []))))=go at*;exists _,S,N,d,D,_,_,S,bs,e.p.c,e.p.nodes,S,b,infos O h,S,ab bt bv,ad,λi v G gt cd=>?_;rw [Nh an]at cd;have B:=G _ _ bs
 exists _,S,N,d,D,_,S,B,e.p.c,e.p.sorts,(by show 3<1000;decide),?_;have es:bN N H (upd v N (.ins d D (aO "sorts" (.ref i) (aO "binders" (.ref c) (aO "nodes" (.ref b) (aO "text" (.ref a) [])))))):=(em.ext G).gZ
 have ce:upd v N (.ins d D (aO "sorts" (.ref i) (aO "binders" (.ref c) (aO "nodes" (.ref b) (aO "text" (.ref a) []))))) N=Y (.ins d D (aO "sorts" (.ref i) (aO "binders" (.ref c) (aO "nodes" (.ref b) (aO "text" (.ref a) []))))):=M;have ev:=jm (o:=.ins d D (aO "sorts" (.ref i) (aO "binders" (.ref c) (aO "nodes" (.ref b) (aO "text" (.ref a) []))))) B (G _ _ eq)
 have ch:=jm (o:=.ins d D (aO "sorts" (.ref i) (aO "binders" (.ref c) (aO "nodes" (.ref b) (aO "text" (.ref a) []))))) B (G _ _ bt);have ci:∀w∈l,gL q (bq h).length (upd v N (.ins d D (aO "sorts" (.ref i) (aO "binders" (.ref c) (aO "nodes" (.ref b) (aO "text" (.ref a) [])))))) w:=λw g=>((bv w g).ext G).keep B (by show 3≠6;decide)
 have cl:upd v N (.ins d D (aO "sorts" (.ref i) (aO "binders" (.ref c) (aO "nodes" (.ref b) (aO "text" (.ref a) []))))) c=_:=(ah (cW (G _ _ ca) B (by intro u;cases u))).trans (G _ _ ca);have ex:=cd.keep (o:=.ins d D (aO "sorts" (.ref i) (aO "binders" (.ref c) (aO "nodes" (.ref b) (aO "text" (.ref a) []))))) B
 generalize upd v N (.ins d D (aO "sorts" (.ref i) (aO "binders" (.ref c) (aO "nodes" (.ref b) (aO "text" (.ref a) [])))))=g1 at*;exists _,S,N,d,D,_,_,S,ce,e.p.c,e.p.nodes,S,b,infos O h,S,ab ch ci,ad,λfa g2 k g3 cn=>?_;rw [CO an]at cn;have n:=k _ _ ce
 exists _,S,N,d,D,_,S,n,e.p.c,e.p.places,(by show 4<1000;decide),?_;refine c4 h d0 _ (es.ext k).gZ ⟨an,D,a,b,c,i,fa,M,jm n (k _ _ ev),⟨l,jm n (k _ _ ch),λw g=>((ci w g).ext k).keep n (by show 4≠6;decide),bi,ds⟩,(ah (cW (k _ _ cl) n (by intro u;cases u))).trans (k _ _ cl),(ex.ext k).keep n,cn.keep n⟩
def cg.node{c:Z}{H:U}(e:cg K d c H q pi){S:Ex}(g:S∈aG pi):∃(T:Z) (D:List (aa×V)) (M:Z) (z:List Z) (N:Z) (a:Option Nat),H q=Y (.ins d T D)/\D.lookup ("nodes":aa)=Y (.ref M)/\H M=Y (.lst (z.map V.ref))/\z.length=size pi/\z[ag S]?=Y N/\kK c H N (cZ a S):=by let⟨M,z,⟨T,D,h,i⟩,j,f⟩:=e.prog.nodes;let⟨a,k⟩:=e.ok.info g;let⟨N,l,m⟩:=lR f k;exists T,D,M,z,N,a,h,i,j,?_,l,m;rw [bO f];exact eU pi O
inductive Ec (K:af) (A D:Z) (M:List V) (H:U) (N:VK) (S:XK):Prop
 |mk(p e:_)(z:Int)(_:M=[.ref p,.int z])(_:cg K A D H p e)(_:N (.bl (decide (0<=z/\z<(size e:Int)))) H)
def OZ(g:a9 K "has_node" "Program.has_node" D7 q pc)(f:eE K d Q)(h:L "len"=O):f_ 1 q pc ["self","label"] (Ec K d Q):=by
 refine g.go ["self","label"] λr s t u H v x y B D _ _ _=>?_;let⟨i,N,M,rfl,j,U⟩:=D;exists _,ay (aQ (I1 vH sf cL (T 1) (cR ej (by rfl) h dE (A (aF 0) aC)))),?_;dsimp;let⟨k,l,a,C,E,F,n,o,b,e,_⟩:=j.node (gW N);exists _,S,_,_,S,S,_,S,?_;by_cases c:0<=M
 .rw [cq c];refine cf ⟨_,S,i,d,k,l,_,S,n,f.p.c,f.p.nodes,o,a,_,S,.inl (av.of b),_,_,S,S,?_⟩;rw [z,e];have:decide (0<=M/\M<(size N:Int))=decide (M<(size N:Int)):=by rw [hb];exists λD=>D.2,λD=>⟨c,D⟩
  rw [this]at U;exact U
 .rw [bU c];have:decide (0<=M/\M<(size N:Int))=ao:=bU λD=>c D.1
  rw [this]at U;exact b1 U
inductive Ed (K:af) (z A:Z) (D:List V) (H:U) (M:VK) (N:XK):Prop
 |mk(p e x:_)(_:D=[.ref p,.int (ag x:Nat)])(_:cg K z A H p e)(_:x∈aG e)(_:M (.bl (decide (aB x=.call))) H)
def O0(a:a9 K "is_call" "Program.is_call" D8 Q pc)(z:eE K d q)(c:L "CALL"=Y (.str "a call" wT)):f_ 1 Q pc ["self","label"] (Ed K d q):=by
 refine a.go ["self","label"] λv x y B H C E F A M _ _ _=>?_;let⟨e,D,f,rfl,g,h,U⟩:=M;exists _,ay (aQ (oj cT (fQ (cc dk (aF 0) (T 1) (λ_ _=>S)) S) (hl c) (bV _))),?_;dsimp;let⟨i,j,k,R,l,V,N,n,o,W,G,b⟩:=g.node h;let⟨r,s,t,u⟩:=b.aK;exists _,S,e,d,i,j,_,S,N,z.p.c,z.p.nodes,n,_,S,k,_,_,_,S,S,av.of o,e2 (by rw [bh,G];rfl),l,q,r,s,_,S,t,z.n.cl,z.n.aK,u,S,?_;have:=rg (aB f) .call
 rw [<-this]at U;exact U
inductive yg (K:af) (D M:Z) (N:List V) (H:U) (S:VK) (a:XK):Prop
 |mk(p e:_)(_:N=[.ref p])(_:cg K D M H p e)(_:∀z A,Ext H A->H z=O->A z=Y (.lst ((cz (infos O e) λT=>decide (T=.call)).map λx=>V.int (x:Nat)))->S (.ref z) A)
def O1(e:a9 K "calls_within" "Program.calls_within" D9 Q pc)(a:eE K d q)(g:L "CALL"=Y (.str "a call" wT))(h:g_ 1 "labels_of" ["nodes","forms"] (rm K q)):f_ 2 Q pc ["self"] (yg K d q):=by
 refine e.go ["self"] λB C E F H z D R i j _ _ _=>?_;let⟨k,l,rfl,b,T⟩:=j;exists _,ay (aQ (bI h i (A (aF 0) (A (b6 (A (hl g) aC)) aC)))),?_;dsimp;let⟨n,⟨o,U,w,r⟩,s⟩:=b.nodes;exists _,S,k,d,o,U,_,S,w,a.p.c,a.p.nodes,r,eN,λc t=>?_;have N:Ext H (upd H c (.tup [.str "a call"])):=Ext.one t
 exists n,infos O l,c,[.call],S,s.ext N,by rw [eU];exact b.ok.bL,ax.of M,λu v x y G=>?_;rw [tO]at G;exact T u v (N.trans x) (N.none y) G
inductive tQ (K:af) (D M:Z) (N:List V) (H:U) (S:VK) (T:XK):Prop
 |mk(p e x a r:_)(_:N=[.ref p,.int (ag x:Nat)])(_:cg K D M H p e)(_:x∈aG e)(_:kids x=a::r)(_:∀z A,Ext H A->H z=O->ax K A z (b4 (0,ag a))->S (.ref z) A)
def O2(e:a9 K "first_part_of" "Program.first_part_of" Ea Q pc)(z:eE K d q)(g:L "NODE_PLACE"=Y (.int 0 wT)):f_ 1 Q pc ["self","label"] (tQ K d q):=by
 refine e.go ["self","label"] λX ab ad al H am an ap as h _ _ _=>?_;let⟨i,a0,U,k,l,rfl,b,n,o,G⟩:=h;exists _,ay (aQ (b6 (A (b7 g) (A (cc dk (fQ (cc dk (aF 0) (T 1) (λ_ _=>S)) S) cL (λ_ _=>S)) aC)))),?_;dsimp;let⟨f,r,s,a1,t,a2,u,v,x,a3,y,B⟩:=b.node n;let⟨c,⟨C,E,F,D⟩,N⟩:=B.parts;have R:H c=Y (.lst ((ag k::l.map ag).map λU=>V.int (U:Nat))):=by
  rw [N];show Y (HO.lst (((kids U).map ag).map _))=_
  rw [o];rfl
 exists _,S,i,d,f,r,_,S,u,z.p.c,z.p.nodes,v,_,S,s,_,_,_,S,S,av.of x,e2 (by rw [bh,y];rfl),t,q,C,E,_,S,F,z.n.cl,z.n.parts,D,c,_,_,_,S,S,av.of R,e2 (j:=0) S,cD,λW a=>G W _ (Ext.one a) a (ax.of M)
abbrev Ee:a8:=top 45
abbrev Ef:a8:=top 46
structure b8(G:aw)(w:au)(K:af)(D H:U)(A:Z)(tab:Tb):Prop where
 ext:Ext D H
 ex:∃z,A6 (H A=Y (dX G w A z)) (cb K H z) (fk G w K H z tab) ((z.map (·.2.2)).Nodup) (V.ref A∉z.map (·.2.2)) (∀d,V.ref d∈z.map (·.2.2)->D d=O)
 new:D A=O
theorem b8.at(z:b8 m p K r H d o0):TabAt m p K H d o0:=let⟨A,D,M,N,S,T,_⟩:=z.ex;⟨A,D,M,N,S,T⟩
def b8.on(z:Ext H s0)(A:b8 m p K r H d o0):b8 m p K r s0 d o0:=by let⟨M,N,S,T,U,a,c⟩:=A.ex;exists A.ext.trans z,⟨M,z _ _ N,z.keys S,Paired.b9 T λg b D=>⟨D.1,let⟨P,e,f⟩:=D.2;⟨P,e,f.ext z⟩⟩,U,a,c⟩,A.new
def b8.from(z:Ext r H)(A:b8 m p K H s0 d o0):b8 m p K r s0 d o0:=by let⟨D,M,N,S,T,U,a⟩:=A.ex;exists z.trans A.ext,⟨D,M,N,S,T,U,λb c=>z.none (a b c)⟩,z.none A.new
theorem tR:∀{z:bW} {o0:Tb},fk m p K H z o0->z.map (·.1)=(o0.map (·.1)).map pk
 |_,_,.nil=>rfl
 |x::z,y::o0,.cons a b=>by rw [aZ,aZ,aZ,tR b,a.1]
def kM(D:fk m p K H pu o0)(M:sc∉o0.map (·.1)):cm pu (pk sc)=O:=by
 have:=kJ (tR D) sc;rw [bU M]at this;cases a:cm pu (pk sc)with
 |none=>rfl
 |some v=>rw [a]at this;cases this
def b8.add{w:au}{p:Pr}{ps:List Pr}(l:Ext r H)(A:H d=Y (dX m w d pu))(n:cb K H pu)(U:fk m w K H pu o0)(o:(pu.map (·.2.2)).Nodup)(e:V.ref d∉pu.map (·.2.2))(P:∀q,V.ref q∈pu.map (·.2.2)->r q=O)(f:r d=O)(N:fK m w K H q ps) (s:V.ref q∉pu.map (·.2.2)) (g:q≠d) (W:r q=O) (x:ax K H Q (b4 p)) (a:p∉o0.map (·.1)):b8 m w K r (upd H d (dX m w d (cy pu (pk p) Q (.ref q)))) d (o0++[(p,ps)]):=by
 have h:cX (H d)\/H d=O:=.inl (A▸trivial);have i:∀T b,T≠d->fK m w K H T b->fK m w K (upd H d (dX m w d (cy pu (pk p) Q (.ref q)))) T b:=λT b y B=>by let⟨C,E,F,L⟩:=B;exists C,ah y▸E,F.same λQ t=>bF h,L
 exists l.upd f,⟨cy pu (pk p) Q (.ref q),M,(ly n _ x).same λc t=>bF h,?_,?_,?_,?_⟩,f
 .have j:fk m w K (upd H d (dX m w d (cy pu (pk p) Q (.ref q)))) (pu++[(pk p,Q,.ref q)]) (o0++[(p,ps)]):=fL (rl i U e) ⟨S,q,S,i q ps g N⟩;rw [iw _ _ (kM U a)]at j⊢;exact j
 .rw [iw _ _ (kM U a),aT];refine gC.mpr ⟨o,by simp,λu k v R z=>?_⟩;have z:=z.trans (bb.mp R)
  rw [z]at k;exact s k
 .rw [iw _ _ (kM U a),aT];intro D;rcases bR.mp D with D|D
  .exact e D
  .have:=bb.mp D;injection this with this;exact g this.symm
 .rw [iw _ _ (kM U a),aT];intro T D;rcases bR.mp D with D|D
  .exact P T D
  .have:=bb.mp D;injection this with this;rwa [this]
def b8.put{f D:bW}{ps:List Pr}(g:Ext r H)(h:H q=Y (dX m p q pu))(i:cb K H pu)(j:fk m p K H pu o0)(T:(pu.map (·.2.2)).Nodup)(U:V.ref q∉pu.map (·.2.2))(a:∀d,V.ref d∈pu.map (·.2.2)->r d=O)(k:r q=O)(l:(o0.map (·.1)).Nodup)(c:cm pu (pk sc)=Y (.ref d)) (A:H d=Y (dX m p d f)) (n:cb K H D) (o:D.map (·.1)=ps.map pk):b8 m p K r (upd H d (dX m p d D)) q (dM o0 sc ps):=by
 have N:cX (H d)\/H d=O:=.inl (A▸trivial);have z:V.ref d∈pu.map (·.2.2):=by let⟨y,t,P⟩:=cv.mp c;rw [<-P];exact dY (fq t)
 have w:q≠d:=by intro s;exact U (s▸z)
 exists g.upd (a d z),⟨pu,ah w▸h,i.same λb e=>bF N,DP (λF L u v=>?_) ⟨D,M,n.same λb e=>bF N,o⟩ j T l c,T,U,a⟩,k;let⟨x,B,C,E⟩:=v;exists x,ah u▸B,C.same λb e=>bF N,E
def cg.places(b:cg K d Q H q pi):∃N z A M,H q=Y (.ins d N z)/\z.lookup ("places":aa)=Y (.ref A)/\av K H A (M.map V.ref)/\fJ K H M ((aq pi).map D):=by let⟨A,⟨N,z,c,S⟩,M,e,f⟩:=b.prog.places;exists N,z,A,M,c,S,e,f
theorem lV(A:bG pi):((aq pi).map D).Nodup:=iD (λ_ _=>d4) A.cY.places
def nt(M:bG pi):((aq pi).map D).length<=90:=by
 have N:=places_len pi;have S:=M.bL
 rw [z]
 lia
def gx(z:List Pr):Tb:=z.map λA=>(A,[])
inductive yh (m:aw) (p:au) (K:af) (z A:Z) (M:List V) (H:U) (N:VK) (S:XK):Prop
 |mk(t e:_)(_:M=[.ref t])(_:cg K z A H t e)(_:∀d r,b8 m p K H r d (gx ((aq e).map D))->N (.ref d) r)
def yi{z:List sK}{A:sK}(N:z.Nodup)(T:z[t]?=Y A):A∉z.take t:=by intro U;rw [<-vk (t+1) z,dq,T]at N;exact(gC.mp (gC.mp N).1).2.2 A U A (bb.mpr S) S
def O3(a1:a9 K "empty_table" "empty_table" Ee Q pc)(F:eE K q pp):f_ 1 Q pc ["program"] (yh m p K q pp):=by
 refine a1.go ["program","table","place"] λcl cn co w H cr cs ct c0 N t a2 sz=>?_;let⟨R,C,rfl,E,a3⟩:=N;exists _,ar (bj 1 t ky) (ar (d3 dZ S (dC (aF 0)) (bX 2 t) (ay (i4 a2 (T 1) (T 2) ky S))) (ay (aQ (T 1)))),?_;let⟨a4,a5,bd,W,be,bi,X,ab⟩:=E.places;have bk:=lV E.ok
 have ad:=nt E.ok;intro d al;have r:Ext H (upd H d (dX m p d [])):=Ext.one al
 exists _,S,R,q,a4,a5,_,S,r _ _ be,F.p.c,F.p.places,bi,bd,S,⟨_,r.ee X⟩,?_;generalize (aq C).map D=j at*;let bl:VLx:=λc k n=>∃s,k=[Y (.ref R),Y (.ref d),s]/\b8 m p K H n d (gx (j.take c))
 refine fw (xs:=W.map V.ref) bl ?_ ?_ ?_ ?_
 .exact⟨O,S,r,⟨[],M,(λ_ N=>nomatch N),.nil,gd,(λN=>nomatch N),λ_ N=>nomatch N⟩,al⟩
 .rintro c k n _ ⟨_,_,A⟩;exact A.ext.ee X
 .rintro c c1 k n h ⟨s,rfl,A⟩;rw [bh]at h;cases u:W[c]? with
  |none=>rw [u]at h;cases h
  |some am=>
   rw [u]at h;obtain rfl:=aS h;let⟨a,an,ap⟩:=ey ab u;let⟨e,v,as,x,bm,bn,bs⟩:=A.ex;intro l B;have b:=Ext.one (o:=dX m p l []) B
   have bt:=cB v B;have c2:e.length<=90:=by
    have:=bO x;unfold gx at this;rw [z,dU]at this
    lia
   have bv:V.ref l∉e.map (·.2.2):=λca=>by
    let⟨y,f,cd⟩:=bH.mp ca;have:∀{e:bW} {o0:Tb},fk m p K n e o0->∀y∈e,∃i ad,y.2.2=.ref i/\fK m p K n i ad:=by
     intro e o0 A;induction A with
     |nil=>intro y f;cases f
     |cons a _ ce=>
      intro y f;rcases bg.mp f with rfl|f
      .obtain⟨_,i,g,ch⟩:=a;exists i,_,g,ch
      .exact ce y f
    let⟨i,c3,g,c4,a0,_⟩:=this x y f;rw [cd]at g;injection g with g;rw [<-g,B]at a0;cases a0
   exists _,S,_,S,d,e,pk a,am,S,b _ _ v,b.keys as,S,b.aP (A.ext.aP ap),by lia,_,S,?_;have ci:gx (j.take (c+1))=gx (j.take c)++[(a,[])]:=by unfold gx;rw [dq,an,aT];rfl
   rw [ci];refine b8.add (A.ext.trans b) (b _ _ v) (b.keys as) (Paired.b9 x λc5 am a=>⟨a.1,let⟨l,C,w⟩:=a.2;⟨l,C,w.ext b⟩⟩) bm bn bs A.new ⟨[],M,(λ_ N=>nomatch N),S⟩ bv bt.symm (A.ext.none B) (b.aP (A.ext.aP ap)) ?_;unfold gx;rw [d6];show a∉(j.take c).map id
   rw [nW];exact yi bk an
 .rintro k n ⟨s,rfl,A⟩;rw [z,bO ab,dB]at A;exists _,S,a3 d n A
def yj(A:Fm)(z:Nat):Option Pr:=match A with
 |.fn=>Y (1,z)|.pair=>Y (2,z)|.new=>Y (3,z)|.num=>Y (0,0)|.given=>Y (0,0)|.add=>Y (0,0)|_=>O
def hM(A:List Info)(z:Nat):Option Pr:=(A[z]?).bind λD=>yj D.aK z
def gy(A:List Info)(D:List Pr)(G:Nat):Tb:=D.map λz=>(z,if z.1=0/\z.2<G then(hM A z.2).toList else [])
def O4(A:List Info)(z:List Pr):gy A z 0=gx z:=by unfold gy gx;refine gE λD _=>?_;rw [N (by lia)]
def O5(a:hM xz t=Y sc):dM (gy xz re t) (0,t) [sc]=gy xz re (t+1):=by
 unfold dM gy;rw [d6];refine gE λz _=>?_;show(if z=(0,t)then(z,[sc])else(z,if z.1=0/\z.2<t then(hM xz z.2).toList else []))=(z,if z.1=0/\z.2<t+1 then(hM xz z.2).toList else [])
 by_cases c:z=(0,t)
 .rw [ai c,c,ai ⟨S,pW t⟩,a];rfl
 .rw [N c];have:(z.1=0/\z.2<t+1)↔(z.1=0/\z.2<t):=⟨λD=>⟨D.1,by have:=D.2;have:z.2≠t:=λy=>c (kf D.1 y);lia⟩,λD=>⟨D.1,by lia⟩⟩
  by_cases M:z.1=0/\z.2<t
  .rw [ai M,ai (this.mpr M)]
  .rw [N M,N λD=>M (this.mp D)]
def O6(U:hM xz t=O):gy xz re (t+1)=gy xz re t:=by
 unfold gy;refine gE λA _=>?_;by_cases c:A=(0,t)
 .rw [c,ai ⟨S,pW t⟩,U,N (by simp)];rfl
 .have:(A.1=0/\A.2<t+1)↔(A.1=0/\A.2<t):=⟨λD=>⟨D.1,by have:=D.2;have:A.2≠t:=λy=>c (kf D.1 y);lia⟩,λD=>⟨D.1,by lia⟩⟩
  by_cases G:A.1=0/\A.2<t
  .rw [ai G,ai (this.mpr G)]
  .rw [N G,N λD=>G (this.mp D)]
def yk(A:List Info)(z:List Pr)(D:Nat):(gy A z D).map (·.1)=z:=by unfold gy;rw [d6];exact nW z
theorem Eg(N:re.Nodup)(M:sc∈re):ba (gy xz re t) sc=Y (if sc.1=0/\sc.2<t then(hM xz sc.2).toList else []):=
 hI (by rwa [yk]) (bH.mpr ⟨sc,M,S⟩)
def jn(z:Ex):Option cw:=match z with
 |.num _ _=>Y .num
 |.var _ y=>if y=du then Y .num else O
 |.fn a _ _=>Y (.fn a)
 |.pair a _ _=>Y (.pair a)
 |.new a _=>Y (.ref a)
 |.add _ _ _=>Y .num
 |_=>O
def O7(z:Ex):yj (aB z) (ag z)=(jn z).map a6:=by
 cases z with
 |var a y=>
  by_cases c:y=du
  .simp only [aB,jn,c,eQ];rfl
  .simp only [aB,jn,c,ie];rfl
 |_=>rfl
def Eh(S:bG pi):fG pi or ut↔∃z∈aG pi,or=.node (ag z)/\jn z=Y ut:=by
 unfold fG rK;rw [di];have T:∀z∈aG pi,((⟨or,ut⟩:hv)∈uT pi z↔or=.node (ag z)/\jn z=Y ut):=by
  intro z A;cases z with
  |var a y=>
   by_cases c:y=du
   .subst c;simp [uT,S.free a A,jn,ag,eq_comm]
   .obtain⟨b,U⟩:=rB.mp ((S.bound a y A).resolve_left c);simp [uT,U,jn,c]
  |_=>simp [uT,jn,ag,eq_comm]
 exists λ⟨z,A,N⟩=>⟨z,A,(T z A).mp N⟩,λ⟨z,A,N⟩=>⟨z,A,(T z A).mpr N⟩
def yl(M:bG pi):bM pi (gy (infos O pi) ((aq pi).map D) (size pi)) (fG pi):=by
 exists yk _ _ _,λa i=>?_;exists _,Eg (lV M) (dY i),?_;let⟨T,b,e,_⟩:=pe M i;let⟨n,k⟩:=M.info b;have l:hM (infos O pi) (D a).2=(jn T).map a6:=by unfold hM;rw [<-e,k];exact O7 T
 by_cases c:(D a).1=0
 .rw [ai ⟨c,by rw [<-e];exact M.lt b⟩,l];have j:a=.node (ag T):=d4 (e▸kf c S)
  have f:∀A,jn T=Y A↔fG pi a A:=λA=>by
   rw [Eh M];constructor
   .intro z;exists T,b,j,z
   .rintro⟨y,d,U,z⟩;rw [j]at U;injection U with U;rwa [M.cY.uniq b d U]
  cases g:jn T with
  |none=>
   exists gd,(λ_ z=>nomatch z),λA=>?_;rw [<-f A,g];simp
  |some h=>
   exists by simp,λy d=>⟨h,(lC ((f h).mp g)).2,by simpa using d⟩,λA=>?_;rw [<-f A,g];constructor
   .intro z;have z:a6 A=a6 h:=by simpa using z
    rw [lJ z]
   .intro z;rw [aS z];simp
 .rw [N λm=>c m.1];exists gd,(λ_ z=>nomatch z),λA=>⟨(λz=>nomatch z),λz=>?_⟩;let⟨y,d,U,_⟩:=(Eh M).mp z;rw [U]at c;exact absurd rfl c
abbrev ownOf(z:Ex):Tb:=gy (infos O z) ((aq z).map D) (size z)
inductive tS (m:aw) (p:au) (K:af) (D M:Z) (N:List V) (H:U) (S:VK) (T:XK):Prop
 |mk(P e:_)(_:N=[.ref P])(_:cg K D M H P e)(_:∀z A,b8 m p K H A z (ownOf e)->S (.ref z) A)
def O8(dl:a9 K "own_table" "own_table" Ef s3 pc)(j:eE K pp d)(dp:L "enumerate"=O)(ds:L "NUMBERS"=Y (.ref Q))(co:∀H,ax K H Q (b4 (0,0)))(cr:L "KIND_OF_MAKER"=Y (.ref q))(cs:KD K m p q lU) (ct:L "NODE_PLACE"=Y (.int 0 wT)) (dT:L "NUMBER"=Y (.str "a number" UV)) (d0:L "GIVEN"=Y (.str "in" Wm))(d1:g_ 1 "empty_table" ["program"] (yh m p K pp d)):f_ 2 s3 pc ["program"] (tS m p K pp d):=by
 refine dl.go ["program","table","label","node"] λgt g1 g2 c0 H g3 hd he em a3 a4 ap sz=>?_;let⟨a5,b,rfl,bd,c1⟩:=a3;exists _,ar (bj 1 a4 (bI d1 em (aJ 0))) (ar (d3 dZ S (sC S dp (A (aF 0) aC)) (lj S (gT (bX 2 a4) (gT (bX 3 a4) lh))) (ay (bK (i0 (wB (aF 3) (ei (v:=.ref q) S cr S)) S) (ay (i4 ap (ff ap (T 1) (b6 (A (b7 ct) (aJ 2))) (λ_ _=>S)) (b6 (A (wA (ei (v:=.ref q) S cr S) (aF 3) (λ_ _=>S)) (aJ 2))) hx S)) (ay (bK (bS vU (aF 3) (b6 (A (hl dT) (A (hl d0) (A dP aC)))) S) (ay (i4 ap (ff ap (T 1) (b6 (A (b7 ct) (aJ 2))) (λ_ _=>S)) (ei (v:=.ref Q) S ds S) hx S)) bQ))))) (ay (aQ (T 1)))),?_;exists _,S,a5,b,S,bd,λi hf c2=>?_;let⟨eq,⟨es,ev,ex,fa⟩,be,c3,c4⟩:=bd.nodes;have c5:=bd.ok
 exists _,S,a5,pp,es,ev,_,S,c2.ext _ _ ex,j.p.c,j.p.nodes,fa,eq,_,S,av.of (c2.ext _ _ c3),?_;have fd:=lV c5
 have fl:∀a,a<size b->((0,a):Pr)∈(aq b).map D:=λa bi=>by let⟨fm,k,w⟩:=c5.node bi;exact bH.mpr ⟨_,gm k,by rw [w];rfl⟩
 have fn:be.length=size b:=by rw [bO c4,eU]
 unfold ownOf at c1;generalize (aq b).map D=G at*;let fr:VLx:=λa as x=>X2 λbk bl=>as=[Y (.ref a5),Y (.ref i),bk,bl]/\b8 m p K H x i (gy (infos O b) G a)
 refine yc (xs:=be.map V.ref) fr ?_ ?_ ?_ ?_
 .exact⟨O,O,S,by rwa [O4]⟩
 .rintro a as x _ ⟨_,_,_,y⟩;exact av.of (y.ext _ _ c3)
 .rintro a fm as x c6 k ⟨bk,bl,rfl,y⟩ fs;rw [bh]at k;cases a0:be[a]? with
  |none=>rw [a0]at k;cases k
  |some c=>
   rw [a0]at k;obtain rfl:=aS k;let⟨e,fT,f0⟩:=ey c4 a0;have bi:a<size b:=by have:=(cF.mp a0).1;lia
   have R:=y.on (Ext.one (o:=.tup [.int (a:Nat),.ref c]) fs);exists c6,_,S,ax.of M,S,_,_,S,_,_,S,S,?_;generalize upd x c6 (.tup [.int (a:Nat),.ref c])=hi at*;let⟨bm,bn,w,bs⟩:=(f0.ext R.ext).aK;have W:hM (infos O b) a=yj e.aK a:=by unfold hM;rw [fT];rfl
   have f1:((gy (infos O b) G a).map (·.1)).Nodup:=by rwa [yk]
   have c7:ba (gy (infos O b) G a) (0,a)=Y []:=by rw [Eg fd (fl a bi),N (by simp)]
   have c8:∀{l a1:U} {B s:Z} {a2:Pr} {f g:bW},Ext H l->l i=Y (dX m p i f)->cb K l f->fk m p K l f (gy (infos O b) G a)->(f.map (·.2.2)).Nodup->V.ref i∉f.map (·.2.2)->(∀s,V.ref s∈f.map (·.2.2)->H s=O)->cm f (pk (0,a))=Y (.ref s)->l s=Y (dX m p s g)->g.map (·.1)=([]:List Pr).map pk->hM (infos O b) a=Y a2->Ext l a1->ax K a1 B (b4 a2)->
     g.length<aU/\b8 m p K H (upd a1 s (dX m p s (cy g (pk a2) B (.bl I)))) i (gy (infos O b) G (a+1)):=by
    intro l a1 B s a2 f g f2 t n F X ab ad an r al W am f4;have f8:g=[]:=by
     cases g with
     |nil=>rfl
     |cons u v=>cases al
    subst f8;exists by show 0<aU;lia,?_;rw [<-O5 W];refine b8.put (f2.trans am) (am _ _ t) (am.keys n) (Paired.b9 F λhm B e=>⟨e.1,let⟨s,b,c0⟩:=e.2;⟨s,b,c0.ext am⟩⟩) X ab ad R.new f1 an (am _ _ r) ?_ S;exact ly (aX:=[]) (λ_ a3=>nomatch a3) _ f4
   exists _,S,c,d,bm,bn,_,S,w,j.n.cl,j.n.aK,bs,q,_,S,⟨lU,.inr (cO e.aK),cs,S,S⟩,_,S,?_;rw [tN,kU];cases C:iE e.aK with
   |some c9=>
    refine cf ?_;have bt:hM (infos O b) a=Y (c9,a):=by rw [W];cases bv:e.aK<;>rw [bv]at C<;>first|(cases C;rfl)|cases C
    exists _,S,_,S,cD,λca E=>?_;let⟨f,t,n,F,X,ab,ad⟩:=(R.on (Ext.one (o:=.tup [.int 0,.int (a:Nat)]) E)).ex;let⟨s,an,g,r,cd,al⟩:=fZ F c7;exists i,.ref s,S,⟨f,pk (0,a),ca,t,n,S,ax.of M,an.symm⟩,?_;exists _,S,c,d,bm,bn,_,S,(Ext.one (o:=.tup [.int 0,.int (a:Nat)]) E) _ _ w,j.n.cl,j.n.aK,bs,q,_,S,⟨lU,.inr (cO e.aK),cs,S,by rw [tN,C];rfl⟩,_,S,cD,λdb ce=>?_;let⟨ch,ci⟩:=c8 (B:=db) (R.ext.trans (Ext.one E)) t n F X ab ad an r al bt (Ext.one ce) (ax.of M);exists s,g,pk (c9,a),db,S,(Ext.one ce) _ _ r,(Ext.one ce).keys cd,S,ax.of M,ch,_,_,S,ci
   |none=>
    refine b1 ?_;exists _,S,c,d,bm,bn,_,S,w,j.n.cl,j.n.aK,bs,(by decide),λga ge=>?_;exists ga,_,S,.inr (ax.of M),S,S,_,S,?_;have dd:=R.on (Ext.one (o:=.tup [.str "a number",.str "in",.str "add"]) ge)
    have gl:jE (.str (cO e.aK)) [.str "a number",.str "in",.str "add"]=decide (e.aK∈[Fm.num,.given,.add]):=tL e.aK [.num,.given,.add];rw [N d5,gl];by_cases h:e.aK∈[Fm.num,.given,.add]
    .rw [cq h];have bt:hM (infos O b) a=Y (0,0):=by
      rw [W];simp only [bg,gR,g8]at h;rcases h with h|h|h<;>rw [h]<;>rfl
     refine cf ⟨_,S,_,S,cD,λca E=>?_⟩;let⟨f,t,n,F,X,ab,ad⟩:=(dd.on (Ext.one (o:=.tup [.int 0,.int (a:Nat)]) E)).ex;let⟨s,an,g,r,cd,al⟩:=fZ F c7;exists i,.ref s,S,⟨f,pk (0,a),ca,t,n,S,ax.of M,an.symm⟩,?_;let⟨ch,ci⟩:=c8 (B:=Q) (dd.ext.trans (Ext.one E)) t n F X ab ad an r al bt (Ext.refl _) (co _);exists s,g,pk (0,0),Q,S,r,cd,S,co _,ch,_,_,S,ci
    .rw [bU h];have go:hM (infos O b) a=O:=by
      rw [W];cases bv:e.aK<;>rw [bv]at C h<;>first|rfl|(exact absurd (by decide) h)|cases C
     refine b1 ⟨_,_,S,?_⟩;rwa [O6 go]
 .rintro as x ⟨bk,bl,rfl,y⟩;rw [z,fn]at y;exists _,S,c1 i x y
def ym(z:Pr):Int:=reduceHash (VI [F6 (z.1:Int),F6 (z.2:Int)])
def yn:List Pr:=(eY 5).flatMap λz=>(eY 31).map λA=>(z,A)
def O9:(yn.map ym).Nodup:=by decide+kernel
theorem yo(A:sc.1<5)(D:sc.2<31):sc∈yn:=di.mpr ⟨sc.1,lZ.mpr A,bH.mpr ⟨sc.2,lZ.mpr D,S⟩⟩
theorem nodup_map_on{D:sK->AC}:∀{G:List sK},(G.map D).Nodup->∀z∈G,∀A∈G,D z=D A->z=A
 |[],_,_,a,_,_,_=>nomatch a
 |x::g,a,z,f,A,d,b=>by
  rw [aZ,eh]at a;rcases bg.mp f with S|e
  .rcases bg.mp d with M|c
   .rw [S,M]
   .exact absurd (bH.mpr ⟨A,c,by rw [<-S];exact b.symm⟩) a.1
  .rcases bg.mp d with M|c
   .exact absurd (bH.mpr ⟨z,e,by rw [<-M];exact b⟩) a.1
   .exact nodup_map_on a.2 z e A c b
def yp(c:pu.map (·.1)=re.map pk)(U:re.Nodup)(a:∀D∈re,D.1<5/\D.2<31):jJ m p pu:=by
 unfold jJ;have d:(pu.map λb=>(tk m p).hash b.1)=re.map ym:=by
  have:(pu.map λb=>(tk m p).hash b.1)=(pu.map (·.1)).map (tk m p).hash:=by rw [d6];rfl
  rw [this,c,d6];rfl
 rw [d];clear c d;induction re with
 |nil=>exact gd
 |cons D j g=>
  rw [eh]at U;rw [aZ,eh];exists λh=>?_,g U.2 λT G=>a T (bC _ G);let⟨T,G,i⟩:=bH.mp h;have e:=a D bE
  have f:=a T (bC _ G);have:=nodup_map_on O9 T (yo f.1 f.2) D (yo e.1 e.2) i
  rw [this]at G;exact U.1 G
abbrev Ei:a8:=top 70
def Ej(N:pu.map (·.1)=re.map pk)(z:Pr)(T:Z)(v:V):(cy pu (pk z) T v).map (·.1)=(dW re z).map pk:=by
 have A:=kJ N z;by_cases c:z∈re
 .rw [By c];rw [cq c]at A;unfold cy;rw [ai A,d6,<-N];refine gE λD _=>?_;show(if D.1=pk z then(D.1,D.2.1,v)else D).1=D.1
  split<;>rfl
 .rw [Bz c];rw [bU c]at A;have U:cm pu (pk z)=O:=by
   cases a:cm pu (pk z)with
   |none=>rfl
   |some v=>rw [a]at A;cases A
  rw [iw _ _ U,aT,aT,N];rfl
theorem rn:∀{D z:bW} {G A:List Pr},z.map (·.1)=A.map pk->D.map (·.1)=G.map pk->(hX z D).map (·.1)=(cS A G).map pk
 |[],z,[],A,b,_=>b
 |[],z,c::G,A,b,a=>by cases a
 |x::D,z,[],A,b,a=>by cases a
 |x::D,z,c::G,A,b,a=>by
  rw [aZ,aZ]at a;injection a with d e;show(hX (cy z x.1 x.2.1 x.2.2) D).map (·.1)=(cS (dW A c) G).map pk
  refine rn ?_ e;rw [d];exact Ej b c _ _
def yq(A:bG pi)(G:ut∈bp pi):(a6 ut).1<5/\(a6 ut).2<31:=by
 have M:=A.bL;rcases i5.mp G with rfl|⟨a,y,c,rfl,b⟩|⟨a,x,y,rfl,b⟩|⟨a,d,rfl,b⟩
 .exact⟨by decide,by decide⟩
 .have:=A.lt b;exact⟨by show 1<5;decide,by show a<31;have:a<size pi:=this;lia⟩
 .have:=A.lt b;exact⟨by show 2<5;decide,by show a<31;have:a<size pi:=this;lia⟩
 .have:=A.lt b;exact⟨by show 3<5;decide,by show a<31;have:a<size pi:=this;lia⟩
def Ek(T:(pu.map (·.2.2)).Nodup)(U:cm pu (pk sc)=Y (.ref d))(a:cm pu (pk Ch)=Y (.ref d)):sc=Ch:=by
 let⟨M,N,b⟩:=cv.mp U;let⟨y,S,c⟩:=cv.mp a;have:=nodup_map_on T M (fq N) y (fq S) (b.trans c.symm)
 have z:M.1=pk sc:=by simpa using mc N
 have e:y.1=pk Ch:=by simpa using mc S
 exact lP (by rw [<-z,<-e,this])
def ro(A:bG pi)(M:bM pi o0 wv)(T:ba o0 sc=Y re)(c:pu.map (·.1)=re.map pk):jJ m p pu:=by refine yp c (M.len A T).2 λd e=>?_;let⟨g,f,rfl⟩:=M.sub T d e;exact yq A f
inductive tT (m:aw) (p:au) (K:af) (D M:Z) (N:List V) (H:U) (S:VK) (T:XK):Prop
 |mk(P e:_)(_:N=[.ref P])(_:cg K D M H P e)(_:∀z A tab,b8 m p K H A z tab->bM e tab (gs e (gn e))->S (.ref z) A)
def Pa{G:aw}(f1:a9 K "least_table" "least_table" Ei Q pc)(kP:eE K d q)(dp:L "len"=O)(f2:bz G p K L P aE 2 "own_table" ["program"] (tS G p K d q)) (f4:bz G p K L P aE 4 "ways_of" ["program","table"] (rk G p K d q)):aV G p K L P aE 5 Q pc ["program"] (tT G p K d q):=by
 refine f1.go ["program","table","grown","ways","begin","end","before"] λkV k0 k1 g H k2 k3 k5 ds a t an sz=>?_;let⟨N,c,rfl,cr,f8⟩:=a;have cs:=ds.mo 2
 exists _,ar (bj 1 t (bI f2 cs (aJ 0))) (ar (bj 2 t hx) (ar (oh dZ (kn (T 2)) (ar (bj 2 t hx) (ar (bj 3 t (bI f4 ds (A (T 0) (aJ 1)))) (ay (d3 dZ S (dC (T 3)) (lj S (gT (bX 4 t) (gT (bX 5 t) lh))) (ar (bj 6 t (cR oE (by rfl) dp dE (A (ff an (T 1) (T 5) (λ_ _=>S)) aC))) (ar (cM (sJ an (ff an (T 1) (T 5) (λ_ _=>S)) (ff an (T 1) (T 4) (λ_ _=>S)) ⟨S,S,S,S⟩)) (ay (bK (bS vI (cR oE (by rfl) dp dE (A (ff an (T 1) (T 5) (λ_ _=>S)) aC)) (T 6) (bV _)) (ay (bj 2 t hx)) bQ))))))))) (ay (aQ (T 1))))),?_;have j:=cr.ok
 exists _,S,N,c,S,cr,λk bm ab=>?_;have bn:=yl j
 let ga:VLx:=λdx B bm=>X6 λdK C E F b f=>A7 (B=[Y (.ref N),Y (.ref k),Y (.bl f),dK,C,E,F]) (b8 G p K H bm k b) (bM c b (bT b)) (∀N M,fG c N M->bT b N M) (∀N M,bT b N M->gJ c N M) (f=ao->∀g l,ec c (bT b) g l->∀M,bT b g M->bT b l M) (dx=(2790-ew b)*2+(if f=I then 1 else 0));exists ga,⟨_,O,O,O,O,_,I,S,ab,bn.tt,λN M a=>?_,λN M a=>?_,(λa=>by cases a),S⟩,?_
 .exact(bn.mZ (lC a).1 M).mpr a
 .exact(qN c).iz N M ((bn.mZ (bn.lL a) M).mp a)
 rintro dx B bm ⟨dK,C,E,F,b,f,rfl,ab,ap,dL,ct,ge,rfl⟩;exists _,S,_,S,?_;cases f with
 |false=>exact b1 ⟨_,S,f8 k bm b ab (Ni ap dL ct (ge S))⟩
 |true=>
 refine cf ⟨_,(λla lb a=>a),?_⟩;exists _,S,_,S,N,cV c,k,b,S,(cr.ext ab.ext).prog,ab.at,ap.ok j,λas lc gl ld ⟨ad,dT,d0⟩=>?_;have cs:=ab.on gl
 exists _,S,as,S,⟨_,av.of dT⟩,?_;have go:∀{n:Nat} {w:Wy},(fA (cV c) b (cV c).nodes.length)[n]?=Y w->∃s bl,w=(D s,D bl)/\s∈aq c/\bl∈aq c/\ec c (bT b) s bl:=λ{n w} a=>by let⟨s,bl,bs,c0,bt,a0,gt⟩:=tr j ap (cG (show _=Y (w.1,w.2)from a));exists s,bl,kf bs c0,bt,a0,gt
 let g1:VLx:=λbv B o=>X5 λC E F e f=>A10 (B=[Y (.ref N),Y (.ref k),Y (.bl f),Y (.ref as),C,E,F]) (b8 G p K H o k e) (bM c e (bT e)) (∀N M,bT b N M->bT e N M) (∀N M,bT e N M->gJ c N M) (ew b<=ew e) (f=I->ew b<ew e) (f=ao->e=b/\∀n<bv,∀g l,(fA (cV c) b (cV c).nodes.length)[n]?=Y (D g,D l)->∀M,bT b g M->bT b l M) (o as=Y (.lst (ad.map V.ref))) (cE (da K o) ad (fA (cV c) b (cV c).nodes.length));refine fw (xs:=ad.map V.ref) g1 ?_ ?_ ?_ ?_
 .exact⟨_,_,_,b,ao,S,cs,ap,λ_ _ a=>a,ct,aR _,(λa=>by cases a),λ_=>⟨S,λn h=>absurd h (k8 _)⟩,dT,d0⟩
 .rintro bv B o _ ⟨_,_,_,_,_,_,_,_,_,_,_,_,_,a,_⟩;exact av.of a
 .rintro bv w B o a1 ⟨C,E,F,e,f,rfl,al,i,ca,a2,c1,cd,am,ce,ch⟩;rw [bh]at a1;cases c2:ad[bv]? with
  |none=>rw [c2]at a1;cases a1
  |some d1=>
   rw [c2]at a1;obtain rfl:=aS a1;let⟨y,c3,g2,a3,g3,hd,ci⟩:=ey ch c2;let⟨s,bl,rfl,he,em,hw⟩:=go c3;let⟨cl,a4,a5,c4,eq,hf,hi⟩:=al.ex;let⟨dd,cn,le,lf,hm⟩:=i.row bl em;let⟨dl,c5,li,hz,es⟩:=i.row s he;let⟨r,bd,v,bk,co,ev⟩:=fZ c4 cn;let⟨h0,bs,be,c0,bt,a0⟩:=fZ c4 c5;have lm:v.length=dd.length:=by have:=bD cN ev;rwa [z,z]at this
   have ln:be.length=dl.length:=by have:=bD cN a0;rwa [z,z]at this
   have lo:=(i.len j cn).1;have lp:=(i.len j c5).1
   exists d1,_,S,g3,S,_,_,S,_,_,S,S,?_;exists _,S,_,S,k,_,S,⟨cl,pk (D bl),a3,a4,a5,S,ci,bd.symm⟩,r,v,S,bk,co,?_;exists _,S,_,S,k,_,S,⟨cl,pk (D bl),a3,a4,a5,S,ci,bd.symm⟩,r,S,⟨v,bk⟩,_,S,_,S,k,_,S,⟨cl,pk (D s),g2,a4,a5,S,hd,bs.symm⟩,v,h0,be,S,bk,co,c0,bt,by lia,λ_=>ro j i c5 a0,λex=>?_,λex=>?_
   .
    exists _,S,_,S,k,_,S,⟨cl,pk (D bl),a3,a4,a5,S,ci,bd.symm⟩,r,v,S,bk,co,_,S,_,_,S,S,_,S,?_;rw [bU (by lia)];refine b1 ⟨_,_,_,e,f,S,al,i,ca,a2,c1,cd,λbi=>?_,ce,ch⟩;let⟨x,R⟩:=am bi;exists x,λn h g l W M X=>?_;rcases kg.mp h with h|rfl
    .exact R n h g l W M X
    .rw [c3]at W;injection (aS W)with c6 c7;obtain rfl:=d4 c6;obtain rfl:=d4 c7;have:=Ek eq bd (by rw [ex];exact bs)
     rw [d4 this];exact X
   .have h1:=cW ce bk (by intro c8;cases c8);have fa:cX (o r)\/o r=O:=.inl (by rw [bk];exact trivial)
    have c9:=b8.put (ps:=cS dd dl) al.ext a4 a5 c4 eq hf hi al.new (i.nodup j) bd bk (qK co bt) (rn ev a0);let⟨fd,fl,ls,h2⟩:=i.CS j em cn (qs:=dl) hz;have fm:upd o r (dX G p r (hX v be)) as=Y (.lst (ad.map V.ref)):=(ah h1).trans ce
    have fn:cE (da K (upd o r (dX G p r (hX v be)))) ad (fA (cV c) b (cV c).nodes.length):=Paired.b9 ch λd1 w c8=>da.upd fa c8;have id:ax K (upd o r (dX G p r (hX v be))) a3 (b4 (D bl)):=bF fa ci
    have ii:ba (dM e (D bl) (cS dd dl)) (D bl)=Y (cS dd dl):=by rw [pd _ (kE cn),ai S]
    have fr:∀N M,bT b N M->bT (dM e (D bl) (cS dd dl)) N M:=λN M a=>(fl N M).mpr (.inl (ca N M a));have fs:∀N M,bT (dM e (D bl) (cS dd dl)) N M->gJ c N M:=λN M a=>by
     rcases(fl N M).mp a with im|⟨io,is⟩
     .exact a2 N M im
     .rw [io];exact(qN c).way s bl M (hw.mono ct) (a2 _ _ ((es M).mp is))
    generalize dM e (D bl) (cS dd dl)=fT at*;let⟨it,x,R,ix,lt,lv,lw⟩:=c9.ex;let⟨jp,kk,f0,kp,ks,kt⟩:=fZ ix ii;have l0:f0.length=(cS dd dl).length:=by have:=bD cN kt;rwa [z,z]at this
    have mg:=mE (u:=dd) (m:=dl);exists _,S,_,S,k,_,S,⟨it,pk (D bl),a3,x,R,S,id,kk.symm⟩,jp,f0,S,kp,ks,_,S,_,_,S,S,_,S,?_;by_cases mk:dd.length<(cS dd dl).length
    .rw [cq (by lia)];refine cf ⟨_,_,_,fT,I,S,c9,fd,fr,fs,by lia,λ_=>by lia,(λa=>by cases a),fm,fn⟩
    .rw [bU (by lia)];let⟨db,kw⟩:=h2 (by lia);refine b1 ⟨_,_,_,fT,f,S,c9,fd,fr,fs,by rw [db];exact c1,λa=>by rw [db];exact cd a,λbi=>?_,fm,fn⟩;let⟨x,R⟩:=am bi;exists by rw [db];exact x,λn h g l W M X=>?_;rcases kg.mp h with h|rfl
     .exact R n h g l W M X
     .rw [c3]at W;injection (aS W)with c6 c7;obtain rfl:=d4 c6;obtain rfl:=d4 c7;subst x;exact(hm M).mp (kw _ ((es M).mpr X))
 .rintro B o ⟨C,E,F,e,f,rfl,al,i,ca,a2,c1,cd,am,ce,ch⟩;rw [z,bO d0]at am;have mo:=i.CH j
  have mp:=ap.CH j;exists _,?_,Y (.ref as),C,E,F,e,f,S,al,i,λN M a=>ca N M (dL N M a),a2,λbi=>?_,S
  .cases f with
   |true=>have:=cd S;simp only [eQ];lia
   |false=>have:=(am S).1;subst this;simp only [eQ,nL,ie];lia
  .obtain⟨x,R⟩:=am bi;subst x;intro g l hw M X;let⟨n,h⟩:=hR.mp (tu j i hw);exact R n (cF.mp h).1 g l h M X
abbrev El:a8:=top 73
abbrev Em:a8:=top 74
abbrev En:a8:=top 75
variable{B:ak}{pr:List (Z×aL)}
def Eo(G:Inv h pr s4 H B)(M:Rd H d (dX h.prog h.w d pu))(N:cb h.K H pu):pu.length<=aU/\(d==eo)=ao/\∃z,eR pu z/\B.heap.DictOfH (iL (eK h.prog h.w)) d z:=by
 let⟨S,T,U,z,D,o,c,X,e,f,g,a⟩:=sG (M.ok G.bf);exists S,T,z,D,o,c,X,e,f,g,a,λi j=>?_,D.keys▸U;let⟨l,m,n,p⟩:=D.mem i j;have:=lz G (N l m)
 rw [n,p]at this;exact this
variable{BT:List Key}{s5 IR:J->ak->Prop}{ss:bZ}{v:V}
def Pb(N:ss.units+1<cK)(D:Inv h pr s4 H B)(S:Rd H d (dX h.prog h.w d pu))(T:cb h.K H pu)(U:ax h.K H q (BT.map kV))(c:cm pu BT=Y v)(X:∀z M,Inv h pr s4 H M->RelV v z->s5 z M):aI (aM h.prog h.w) ss (nJ (.ref d) (.ref q)) s5 IR B:=by let⟨l,m,e,f,g⟩:=Eo D S T;let⟨z,hw,k⟩:=fv.some_of (v:=v) (o:=(fO e BT).map (·.2)) (c▸f.val BT);let⟨n,i,j⟩:=cv.mp hw;refine GI (nN N) (lz D U) g i ?_;rw [j];exact X z _ (D.tok _) k
inductive Pc (G:aw) (w:au) (K:af) (M:VK) (x:V) (y:V) (z:U):Prop
 |mk(a v:_)(_:x=.ref a)(_:(∃A k D,Rd z a (dX G w a A)/\cb K z A/\y=.ref D/\ax K z D (k.map kV)/\Y v=cm A k))(_:M v z)
def Pd(A:aw)(D:au)(K:af)(G M:TE):TE:=λz H N=>G z H λS T=>M z T λy U=>Pc A D K N S y U
def Ep(z:aw)(A:au)(K:af)(U:h.A.units+1<cK)(a:PE h o sw)(b:PE h op zn)(c:oA op)(d:h.prog=z:=by rfl)(hw:h.w=A:=by rfl)(e:h.K=K:=by rfl):PE h (.Subscript o op pv) (Pd z A K sw zn):=by subst d hw e;intro D f G H R g X;refine sy zk.lookup c (aN (a D f G H _ g X) λu j ⟨V,k,l,m,n⟩=>aN (b D j G k _ l n) λp ab ⟨y,q,M,r,s,v,t,⟨ad,al,w,N,T,x,B,C⟩,E⟩=>?_);subst t x;obtain rfl:u=cp s:=m;cases (show p=cp w from r);let⟨_,_,am,an,L⟩:=Eo M N T;exists L.typeIs,Pb U M N T B C.symm λap as P Q=>⟨v,q,P,Q,E⟩
def Er(D:aw)(G:au)(K:af)(M:h.prog=D:=by rfl)(hw:h.w=G:=by rfl)(N:h.K=K:=by rfl):hA h (.builtin "len") (λT H U=>∃z A,T=[.ref z]/\H z=Y (dX D G z A)/\cb K H A/\U (.int A.length) H):=by subst M hw N;exact oE
theorem yr:∀z:List Nat,((z.map λA:Nat=>(A:Int)).sum)=((z.sum:Nat):Int)
 |[]=>rfl
 |a::b=>by rw [aZ,eC,eC,yr b];lia
inductive yt (m:aw) (p:au) (K:af) (A:List V) (H:U) (D:VK) (M:XK):Prop
 |mk(t tab:_)(_:A=[.ref t])(_:TabAt m p K H t tab)(_:(tab.map (·.1)).Nodup)(_:tab.length<=1000)(_:∀z,Ext H z->D (.int (ew tab:Nat)) z)
def Pe(a0:a9 K "how_many_facts" "how_many_facts" El d pc)(a1:L "len"=O)(a2:L "sum"=O):f_ 1 d pc ["table"] (yt m p K):=by
 refine a0.go ["table","place"] λce ch ci t H cl cn co cr w R a3 sz=>?_;let⟨a,u,rfl,⟨b,v,W,G,cs,a4⟩,X,ct,a5⟩:=w;exists _,ay (aQ (cR (AH S) (by rfl) a2 (by decide+kernel) (A (AV (fU (own:=[("place",1)]) S R (lB (T 0)) (e3 S) (λt H ab ad al=>bX 1 R) (λt H ab ad al=>hB) (λt H ab ad al=>cR (Er m p K) (by rfl) a1 dE (A (Ep m p K a3 (T 0) (T 1) (λ_ _=>S)) aC)))) aC))),?_;dsimp;exists a,_,v,trivial,λx=>?_;exists _,S,a,x,b,S,M,λn h=>?_;have Q:a≠n:=by intro f;rw [<-f,M]at h;cases h
 have am:H n=O:=by rw [ah Q.symm]at h;exact h
 have bd:=bO G;let be:VCx:=λB e=>A4 (e n=Y (.lst ((u.take B).map λy=>V.int (y.2.length:Nat)))) (e a=Y (.bP x (dX m p a b))) (∀D i,ax K H D i->ax K e D i) (∀D o,D≠a->H D=Y o->e D=Y o)
 refine rf (aX:=b) be ?_ ?_ ?_ ?_
 .refine⟨M,by rw [ah Q,M],λD i w=>bF (.inr h) (bF (.inl (v▸trivial)) w),λD o c g=>?_⟩;rwa [ah (cB g am),ah c]
 .rintro B e _ ⟨_,w,_⟩;exact w
 .rintro B N e an ⟨j,C,k,q⟩;let⟨y,E,c0,l,ap,as,bi,bk,bl⟩:=ey G an;have c1:=(cF.mp E).1
  have r:=cG an;have bm:l≠a:=by intro f;apply a4;rw [<-f,<-ap];exact dY r
  have bn:Y (V.ref l)=cm b N.1:=by
   let⟨c2,c3,c4⟩:=fZ G (hI X (show(y.1,y.2)∈u from cG E));have bs:cm b N.1=Y N.2.2:=by
    unfold cm;cases s:b.find? λF=>decide (F.1=N.1)with
    |none=>
     rw [nP]at s;exact absurd (cq S) (s N r)
    |some f=>
     have bt:f.1=N.1:=by simpa using mc s
     have bv:(b.map (·.1)).Nodup:=by rw [tR G];exact iD (λ_ _=>lP) X
     rw [nodup_map_on bv f (fq s) N r bt];rfl
   rw [bs,ap]
  exists S,?_;unfold hk;dsimp only [];rw [ai S];exists _,S,_,S,a,.ref l,S,⟨b,N.1,N.2.1,.inr ⟨x,C⟩,λF ca=>k _ _ (W F ca),S,k _ _ (W N r),bn⟩,l,as,S,q l _ bm bi,bk.same k,_,j,by rw [z,dU];lia,?_,?_,?_,?_
  .rw [M,dq,E,aT];have:as.length=y.2.length:=by have:=bD cN bl;rwa [z,z]at this
   rw [this];rfl
  .rwa [ah Q]
  .exactλD i w=>bF (.inl (j▸trivial)) (k D i w)
  .intro D o c g;rw [ah (cB g am)];exact q D o c g
 .rintro e ⟨j,C,k,q⟩;rw [bd,dB]at j;exists C,n,(u.map λy=>y.2.length).map λcd:Nat=>(cd:Int),S,av.of (by rw [ah Q.symm,j,d6,d6];rfl),?_;rw [yr];refine a5 _ λD o g=>?_;by_cases c:D=a
  .rwa [c,M,<-v,<-c]
  .rw [ah c];exact q D o c g
def hr(z:Ex)(A:List Pr):List Pr:=((bp z).map a6).filter λD=>decide (D∈A)
def Es(D:bG pi)(M:List Pr):(hr pi M).length<=31:=by
 unfold hr;refine cu (iX _ _) ?_;rw [z];have:=lK pi
 have:=D.bL
 lia
inductive yu (m:aw) (p:au) (K:af) (D M:Z) (N:List V) (H:U) (S:VK) (T:XK):Prop
 |mk(P e t tab b a ps:_)(_:N=[.ref P,.ref t,.ref b])(_:cg K D M H P e)(_:TabAt m p K H t tab)(_:ax K H b (b4 a))(_:ba tab a=Y ps)(_:∀z A,Ext H A->H z=O->A z=Y (.lst ((eV (hr e ps)).map λx=>V.int (x:Nat)))->S (.ref z) A)
set_option tactic.hygienic true
def Pf{u:Z}{v:bc}(X:a9 K "functions_at" "functions_at" Em q v)(bt:eE K d u)(ad:L "FUNCTION_KIND"=Y (.int 1 wT))(al:g_ 1 "sorts_at" ["program","table","place"] (tI m p K d)):f_ 2 q v ["program","table","place"] (yu m p K d u):=by
 refine X.go ["program","table","place","sort"] λbv ca cd l H ce ch ci am G x _ sz=>?_;let⟨an,a,ap,as,a0,a1,b,rfl,n,a2,a3,a4,a5⟩:=G;exists _,ay (aQ (fU (own:=[("sort",3)]) S x (dC (bI al am (A (T 0) (A (T 1) (aJ 2))))) (e3 S) (λl H d y B=>bX 3 x) (λl H d y B=>kv (bS cT (cc (ph K) (T 3) cL (λ_ _=>S)) (b7 ad) (bV _))) (λl H d y B=>cc (ph K) (T 3) cL (λ_ _=>S)))),?_;dsimp;let⟨bd,be,bi⟩:=n.prog.sorts;have bk:((bp a).map a6).length<=10000:=by rw [z];have:=lK a;have:=n.ok.bL;lia
 exists _,S,_,S,_,S,an,ap,a0,bd,_,as,a1,b,S,be,bi,bk,a2,a3,a4,λbl C E cl ⟨o,bm,j⟩ _=>?_;have F:=bm
 have cn:=Es n.ok b;exists bl,S,⟨_,F⟩,λe t=>?_;have j:fJ K C o (hr a b):=j
 let Q:VCx:=λD f=>f e=Y (.lst ((eV ((hr a b).take D)).map λR=>V.int (R:Nat)))/\Ext C f;refine hC (xs:=o.map V.ref) Q ?_ ?_ ?_ ?_
 .exact⟨M,Ext.one t⟩
 .rintro D f _ ⟨_,w⟩;exact w.ee F
 .rintro D R f g ⟨h,w⟩;rw [bh]at g;cases ab:o[D]? with
  |none=>rw [ab]at g;cases g
  |some c=>
   rw [ab]at g;obtain rfl:=aS g;let⟨i,W,k⟩:=ey j ab;have k:=w.aP k
   have co:=(cF.mp W).1;have bn:eV ((hr a b).take (D+1))=eV ((hr a b).take D)++(if i.1=1 then [i.2]else []):=by
    rw [dq,W];unfold eV;rw [vh];congr 1;show TJ _ [i]=_
    rw [kR,zU];split<;>rename_i G<;>split at G<;>simp_all
   exists S,_,S,_,_,_,_,S,S,k,S,S,_,S,?_;dsimp only [Q];rw [bn];refine eb (λr=>?_) (λr=>?_)
   .have s:i.1=1:=by
     have:=eB r;injection this with this
     lia
    rw [ai s];exists _,S,_,_,_,_,S,S,k,S,_,h,?_,?_,w.upd t
    .rw [z];have:(eV ((hr a b).take D)).length<=D:=cu (iU _ _) (by rw [dU];lia)
     lia
    .rw [M,aT];rfl
   .have s:¬i.1=1:=λbs=>r (cq (by rw [bs];rfl));rw [N s,b0];exists h,w
 .rintro f ⟨h,w⟩;rw [z,bO j,dB]at h;exact a5 e f (E.trans w) (E.none t) h
set_option tactic.hygienic false
inductive yv (m:aw) (p:au) (K:af) (D M:Z) (N:List V) (H:U) (S:VK) (T:XK):Prop
 |mk(P e t tab:_)(_:N=[.ref P,.ref t])(_:cg K D M H P e)(_:TabAt m p K H t tab)(_:(∀c,c<size e->∃ps,ba tab (0,c)=Y ps))(_:∀z A,Ext H A->H z=O->LstAt K A z (hJ (infos O e) λc=>eV (hr e ((ba tab (0,c)).getD [])))->S (.ref z) A)
def Ph{o v:Z}(c5:a9 K "arrows_of" "arrows_of" En d pc)(ev:eE K o v)(c6:h_ 2 o "calls_within" ["self"] (yg K o v))(c7:h_ 1 o "first_part_of" ["self","label"] (tQ K o v))(c8:g_ 2 "functions_at" ["program","table","place"] (yu m p K o v)):f_ 3 d pc ["program","table"] (yv m p K o v):=by
 refine c5.go ["program","table","arrows","call","fun"] λex fa fd fl H x fm fn an B ap _ sz=>?_;let⟨cd,D,as,a0,rfl,C,c9,db,b⟩:=B;have t:=C.ok
 exists _,ar (bj 2 ap (de aC)) (ar (d3 dZ S (dC (dR (E:=E0) (T 0) c6 an cx)) (bX 3 ap) (ay (d3 dZ S (dC (bI c8 an (A (T 0) (A (T 1) (A (eL (E:=E0) (T 0) c7 (an.mo 1) cx (aJ 3)) aC))))) (bX 4 ap) (ay (cM (fe fu gb gF fR (T 2) (A (b6 (A (T 3) (aJ 4))) aC))))))) (ay (aQ (T 2)))),?_;exists cP _,λi a1=>?_;have a2:Ext H (upd H i (.lst [])):=Ext.one a1
 let⟨ce,fr,fs,fT,f0,f1,ch,_⟩:=C.ex;exists _,S,cd,ce,_,S,a2 _ _ ch,S,cd,D,S,C.ext a2,λR f2 ci cl cn=>?_;have dd:R≠i:=by intro a3;rw [a3,M]at cl;cases cl
 exists R,S,⟨_,av.of cn⟩,?_;let h:=cz (infos O D) λd=>decide (d=.call)
 let e:Nat->List Nat:=λc=>eV (hr D ((ba a0 (0,c)).getD []));have f4:h.length<=30:=by have:=nr (infos O D) λd=>decide (d=.call);rw [eU]at this;exact cu this t.bL
 have co:∀c,(e c).length<=31:=λc=>cu (iU _ _) (Es t _);have dl:∀x:List Nat,(x.flatMap λN=>(e (dG (infos O D) N)).map λb=>((N,b):Pr)).length<=31*x.length:=by
  intro x;induction x with
  |nil=>simp
  |cons a f8 ga=>
   rw [b3,br,z,dn];have:=co (dG (infos O D) a)
   lia
 let a4:VLx:=λG j q=>X2 λa5 r=>A4 (j=[Y (.ref cd),Y (.ref as),Y (.ref i),a5,r]) (eO K q i ((h.take G).flatMap λN=>(e (dG (infos O D) N)).map λb=>((N,b):Pr))) (Ext H q) (q R=Y (.lst (h.map λf=>V.int (f:Nat))));refine fw (xs:=h.map λf=>V.int (f:Nat)) a4 ?_ ?_ ?_ ?_
 .exact⟨O,O,S,⟨[],ci _ _ M,.nil⟩,a2.trans ci,cn⟩
 .rintro G j q _ ⟨_,_,_,_,_,B⟩;exact av.of B
 .rintro G f j q g ⟨a5,r,rfl,cr,Q,cs⟩;rw [bh]at g;cases W:h[G]? with
  |none=>rw [W]at g;cases g
  |some u=>
   rw [W]at g;obtain rfl:=aS g;let⟨bd,be,ct,X⟩:=(tw t _).mp (cG W);obtain⟨w,bi,bk⟩:∃w bi,kids bd=w::bi:=by
    cases bd with
    |app N a dp=>exists a,[dp],S
    |var N y=>simp only [aB]at X;split at X<;>cases X
    |_=>cases X
   have ds:dG (infos O D) u=ag w:=ct▸t.part be bk;have dx:=i6 be (bk▸bE)
   let⟨c0,c1⟩:=db (ag w) (t.lt dx);have dK:(h.take (G+1)).flatMap (λN=>(e (dG (infos O D) N)).map λb=>((N,b):Pr))=(h.take G).flatMap (λN=>(e (dG (infos O D) N)).map λb=>((N,b):Pr))++(e (ag w)).map λb=>((u,b):Pr):=by
    rw [dq,W,k4];congr 1;show(e (dG (infos O D) u)).map _++[]=_
    rw [ds,b0]
   have dL:e (ag w)=eV (hr D c0):=by show eV (hr D ((ba a0 (0,ag w)).getD []))=_;rw [c1];rfl
   exists _,S,_,S,_,S,cd,ce,_,S,Q _ _ ch,S,_,S,cd,D,bd,w,bi,by rw [ct];rfl,C.ext Q,be,bk,λdT ge ab gl dX=>?_;have bl:=Q.trans ab
   exists cd,D,as,a0,dT,(0,ag w),c0,S,C.ext bl,c9.ext bl,dX,c1,λbm go bn c2 bs=>?_;have d0:bm≠i:=by intro a3;let⟨c3,d1,_⟩:=cr;rw [a3,ab _ _ d1]at c2;cases c2
   exists bm,S,⟨_,av.of bs⟩,?_;rw [<-dL]at bs;have em:=dl (h.take G)
   rw [dU]at em;let a4:VLx:=λad j s=>∃r,A5 (j=[Y (.ref cd),Y (.ref as),Y (.ref i),Y (.int (u:Nat)),r]) (eO K s i ((h.take G).flatMap (λN=>(e (dG (infos O D) N)).map λb=>((N,b):Pr))++((e (ag w)).take ad).map λb=>((u,b):Pr))) (Ext H s) (s R=Y (.lst (h.map λf=>V.int (f:Nat)))) (s bm=Y (.lst ((e (ag w)).map λf=>V.int (f:Nat))))
   refine fw (xs:=(e (ag w)).map λf=>V.int (f:Nat)) a4 ?_ ?_ ?_ ?_
   .exact⟨_,S,by rw [mi,hP,b0];exact cr.ext (ab.trans bn),bl.trans bn,bn _ _ (ab _ _ cs),bs⟩
   .rintro ad j s _ ⟨_,_,_,_,_,B⟩;exact av.of B
   .rintro ad f j s g ⟨r,rfl,⟨c3,n,c4⟩,bt,al,bv⟩;rw [bh]at g;cases ca:(e (ag w))[ad]? with
    |none=>rw [ca]at g;cases g
    |some eq=>
     rw [ca]at g;obtain rfl:=aS g;exists _,S,.inl ⟨S,_,av.of n⟩,_,S,_,S,cD,λgt am=>?_;let⟨es,g1⟩:=eO.push (K:=K) (k:=u) (l:=eq) n c4 am;have g2:c3.length<=2000:=by
      rw [bO c4,br,z,dU];have:=co (ag w)
      lia
     exists i,_,_,S,S,es,by rw [z];lia,_,S,?_,(bt.new am).upd a1,?_,?_
     .rwa [dq,ca,aT,<-ck]
     .exact(ah dd).trans ((ah (cB al am)).trans al)
     .exact(ah d0).trans ((ah (cB bv am)).trans bv)
   .rintro j s ⟨r,rfl,n,bt,al,bv⟩;rw [z,dB]at n;exists _,_,S,dK▸n,bt,al
 .rintro j q ⟨a5,r,rfl,n,Q,cs⟩;rw [z,dB]at n;exists _,S,b i q Q a1 n.lst
abbrev Et:a8:=top 68
abbrev Eu:a8:=top 69
def tabOf(A:Ex)(G:aA->List Pr):Tb:=(aq A).map λz=>(D z,G z)
def yw(z:Ex)(A:aA->List Pr):(tabOf z A).map (·.1)=(aq z).map D:=by unfold tabOf;rw [d6];rfl
def yx(T:bG pi){D:aA->List Pr}(U:∀z∈aq pi,(D z).Nodup/\(∀a∈D z,∃G∈bp pi,a=a6 G)/\∀G,a6 G∈D z↔wv z G):bM pi (tabOf pi D) wv:=by exists yw pi D,λz N=>?_;let⟨b,c,d⟩:=U z N;exists D z,hI (by rw [yw];exact lV T) (bH.mpr ⟨z,N,S⟩),b,c,d
theorem tU{H:U}(M:H d=O):∀{D:bW} {N:Tb},fk m p K H D N->V.ref d∉D.map (·.2.2)
 |_,_,.nil=>λT=>nomatch T
 |x::D,y::N,.cons a b=>λz=>by
  let⟨_,A,c,e,S,_⟩:=a;rcases bg.mp z with z|z
  .have z:V.ref d=x.2.2:=z;rw [c]at z;injection z with z;rw [<-z,M]at S;cases S
  .exact tU M b z
variable{GE:U}
def b8.next{c:Z}{ps:List Pr}(a:b8 m p K GE s0 d o0)(D:Ext s0 r)(j:fK m p K r q ps)(z:s0 q=O)(k:ax K r c (b4 sc))(l:sc∉o0.map (·.1))(w:o0.length<=1000):∃M,r d=Y (dX m p d M)/\cb K r M/\M.length<aU/\b8 m p K GE (upd r d (dX m p d (cy M (pk sc) c (.ref q)))) d (o0++[(sc,ps)]):=by
 have sz:(20000:Nat)<aU:=by decide
 let⟨M,e,h,f,A,n,o⟩:=a.ex;have s:=bO f
 exists M,D _ _ e,D.keys h,by lia,?_;exact b8.add (a.ext.trans D) (D _ _ e) (D.keys h) (Paired.b9 f λt c i=>⟨i.1,let⟨q,N,P⟩:=i.2;⟨q,N,P.ext D⟩⟩) A n o a.new j (tU z f) (cB e z).symm (a.ext.none z) k l
theorem tV{H:U}(D:H d=O):b8 m p K H (upd H d (dX m p d [])) d []:=⟨Ext.one D,⟨[],M,(λ_ z=>nomatch z),.nil,gd,(λz=>nomatch z),λ_ z=>nomatch z⟩,D⟩
def yy(a:bG pi){R:aA->List Pr}(b:((aq pi).map D)[t]?=Y sc):∃T∈aq pi,sc=D T/\(tabOf pi R).take (t+1)=(tabOf pi R).take t++[(sc,R T)]/\sc∉((tabOf pi R).take t).map (·.1)/\((tabOf pi R).take t).length<=1000:=by
 rw [bh]at b;let⟨T,U,rfl⟩:=cv.mp b;exists T,cG U,S,?_,?_,?_
 .unfold tabOf;rw [dq,bh,U];rfl
 .rw [TQ,yw];exact yi (lV a) (by rw [bh,U];rfl)
 .have:=nt a;rw [z]at this;rw [dU];unfold tabOf;rw [z]
  lia
inductive Ew (m:aw) (p:au) (K:af) (D M:Z) (N:List V) (H:U) (S:VK) (T:XK):Prop
 |mk(P e:_)(_:N=[.ref P])(_:cg K D M H P e)(_:∀z A tab,b8 m p K H A z tab->bM e tab (gs e (gr e 0))->S (.ref z) A)
theorem tW(A:bG pi):((bp pi).map a6).Nodup:=iD (λ_ _=>lJ) (tm A)
def yz(D:bG pi):((bp pi).map a6).length<=31:=by
 rw [z];have:=lK pi
 have:=D.bL
 lia
def Pj{o:Z}(C:a9 K "everything_table" "everything_table" Et o pc)(g:eE K d q)(E:g_ 1 "as_keys" ["sorts"] (xG m p K)):f_ 2 o pc ["program"] (Ew m p K d q):=by
 refine C.go ["program","table","place"] λca cd ce ch H ci cl cn F b r w _=>?_;let⟨h,N,rfl,i,Q⟩:=b;exists _,ar (bj 1 r ky) (ar (d3 dZ S (dC (aF 0)) (bX 2 r) (ay (i4 w (T 1) (T 2) (bI E F (A (aF 0) aC)) S))) (ay (aQ (T 1)))),?_;let⟨W,X,ab,l,ad,al,s,t⟩:=i.places;let⟨am,⟨an,ap,as,a0⟩,a1⟩:=i.prog.sorts;have c:=i.ok
 intro a u;have v:Ext H (upd H a (dX m p a [])):=Ext.one u
 exists _,S,h,d,W,X,_,S,v _ _ ad,g.p.c,g.p.places,al,ab,S,⟨_,v.ee s⟩,?_;refine fw (xs:=l.map V.ref) (λj k f=>∃G,k=[Y (.ref h),Y (.ref a),G]/\b8 m p K H f a ((tabOf N λ_=>(bp N).map a6).take j)) ?_ ?_ ?_ ?_
 .exact⟨O,S,tV u⟩
 .rintro j k f _ ⟨_,_,M⟩;exact M.ext.ee s
 .rintro j a2 k f U ⟨G,rfl,M⟩;rw [bh]at U;cases e:l[j]? with
  |none=>rw [e]at U;cases U
  |some x=>
   rw [e]at U;obtain rfl:=aS U;let⟨co,a3,y⟩:=ey t e;let⟨a4,cr,rfl,a5,bd,lk⟩:=yy (R:=λ_=>(bp N).map a6) c a3;exists _,S,h,d,an,ap,_,S,M.ext _ _ as,g.p.c,g.p.sorts,a0,am,(bp N).map a6,S,a1.ext M.ext,tW c,by have:=yz c;lia,λcs ct n be bi=>?_;let⟨bk,bl,bm,bn,bs⟩:=M.next n bi be (n.aP (M.ext.aP y)) bd lk;rw [a5];exists _,S,_,S,a,bk,pk (D a4),x,S,bl,bm,S,n.aP (M.ext.aP y),bn,_,S,bs
 .rintro k f ⟨G,rfl,M⟩;have:((tabOf N λ_=>(bp N).map a6).take (l.map V.ref).length)=tabOf N λ_=>(bp N).map a6:=by
   rw [j4];rw [z,bO t,z];unfold tabOf;rw [z];exact aR _
  rw [this]at M;exists _,S,Q a f _ M (yx c λh i=>⟨tW c,λa2 U=>?_,λB=>?_⟩)
  .obtain⟨B,bt,rfl⟩:=bH.mp U;exists B,bt,S
  .constructor
   .intro b;let⟨x,e,bv⟩:=bH.mp b;rw [<-lJ bv];exists e,S
   .intro b;exact dY b.1
theorem Ey(z:Nat):∀M:List Nat,jE (.int (z:Nat)) (M.map λA=>V.int (A:Nat))=decide (z∈M)
 |[]=>rfl
 |A::a=>by
  show(jD (.int (A:Nat)) (.int (z:Nat))||jE (.int (z:Nat)) (a.map λA=>V.int (A:Nat)))=_;rw [Ey z a];show(((A:Int)==(z:Int))||_)=_
  by_cases c:A=z
  .subst c;simp
  .have T:((A:Int)==(z:Int))=ao:=iK.mpr λN=>c (by lia);rw [T,zj,hb];exists λD=>bC _ D,λD=>(bg.mp D).resolve_left λN=>c N.symm
theorem Ez:∀z:List Nat,(z.map λA=>V.int (A:Nat)).all jC=I
 |[]=>rfl
 |_::a=>Ez a
inductive EA (m:aw) (p:au) (K:af) (D M:Z) (N:List V) (H:U) (S:VK) (T:XK):Prop
 |mk(P e:_)(_:N=[.ref P])(_:cg K D M H P e)(_:∀z A tab,b8 m p K H A z tab->bM e tab (gs e (gr e 1))->S (.ref z) A)
def Pk(es:a9 K "kinds_table" "kinds_table" Eu Q pc)(a1:eE K d q)(ev:g_ 1 "as_keys" ["sorts"] (xG m p K))(ex:g_ 5 "least_table" ["program"] (tT m p K d q)):f_ 6 Q pc ["program"] (EA m p K d q):=by
 refine es.go ["program","least","table","place","kinds","sort"] λks kt kw B H kP kV k0 c4 j c3 c5 sz=>?_;let⟨w,a,rfl,a2,fa⟩:=j;have fd:=c4.mo 1
 exists _,ar (bj 1 c3 (bI ex c4 (aJ 0))) (ar (bj 2 c3 ky) (ar (d3 dZ S (dC (aF 0)) (bX 3 c3) (ar (mB (bj 4 c3 (fU (own:=[("sort",5)]) S c3 (lB (ff c5 (T 1) (T 3) (λ_ _=>S))) (e3 S) (λB H d i W=>bX 5 c3) (λB H d i W=>hB) (λB H d i W=>cc (ph K) (T 5) cL (λ_ _=>S))))) (ay (i4 c5 (T 2) (T 3) (bI ev fd (A (fU (own:=[("sort",5)]) S c3 (dC (aF 0)) (e3 S) (λB H d i W=>bX 5 c3) (λB H d i W=>kv (bS (DQ K) (cc (ph K) (T 5) cL (λ_ _=>S)) (T 4) S)) (λB H d i W=>T 5)) aC)) S)))) (ay (aQ (T 2))))),?_;have r:=a2.ok
 exists _,S,w,a,S,a2,λbl bm c6 X a3=>?_;let⟨fl,fm,fn,bn,fr,fs,c7,c8⟩:=a2.places;let⟨c9,⟨fT,f0,f1,f2⟩,bs⟩:=a2.prog.sorts;have bs:LstAt K H c9 ((bp a).map a6):=bs
 intro C db;let E:aA->List Pr:=λl=>((bp a).map a6).filter λG=>decide (G.1∈((ba c6 (D l)).getD []).map (·.1))
 have f4:Ext bm (upd bm C (dX m p C [])):=Ext.one db;have dd:=X.ext.trans f4
 exists _,S,w,d,fl,fm,_,S,dd _ _ fr,a1.p.c,a1.p.places,fs,fn,S,⟨_,dd.ee c7⟩,?_;refine fw (xs:=bn.map V.ref) (λe a4 h=>∃bt bv ca,a4=[Y (.ref w),Y (.ref bl),Y (.ref C),bt,bv,ca]/\b8 m p K bm h C ((tabOf a E).take e)) ?_ ?_ ?_ ?_
 .exact⟨O,O,O,S,tV db⟩
 .rintro e a4 h _ ⟨_,_,_,_,s⟩;exact(X.ext.trans s.ext).ee c7
 .rintro e G a4 h f ⟨bt,bv,ca,rfl,s⟩;rw [bh]at f;cases g:bn[e]? with
  |none=>rw [g]at f;cases f
  |some U=>
   rw [g]at f;obtain rfl:=aS f;let⟨k1,f8,ab⟩:=ey c8 g;let⟨l,a5,rfl,ga,ge,lk⟩:=yy (R:=E) r f8;have bd:=X.ext.trans s.ext
   let⟨v,F,k2,k3,k5⟩:=a3.row l a5;have cd:E l=((bp a).map a6).filter λG=>decide (G.1∈v.map (·.1)):=by show TR (λG:Pr=>decide (G.1∈((ba c6 (D l)).getD []).map (·.1))) _=_;rw [F];rfl
   have la:=(a3.len r F).1;let⟨gl,go,gt,g1,lb,g2,lc⟩:=(X.on s.ext).ex;let⟨b,dl,c2,ce,g3,dp⟩:=fZ g1 F;have hd:c2.length=v.length:=by have:=bD cN dp;rwa [z,z]at this
   have he:bl≠b:=by intro ad;apply g2;let⟨y,x,hf⟩:=cv.mp dl;rw [ad,<-hf];exact dY (fq x)
   have hi:cX (h b)\/h b=O:=.inl (by rw [ce];exact trivial);exists b,_,ce,trivial,λch=>?_;have ci:∀U bk,ax K h U bk->ax K (upd h b (.bP ch (dX m p b c2))) U bk:=λU bk=>bF hi
   exists _,S,_,S,bl,.ref b,S,⟨gl,pk (D l),U,(ah he).trans go,gt.same ci,S,ci _ _ (bd.aP ab),dl.symm⟩,b,ch,c2,S,M,λal am=>?_;have be:b≠al:=by intro ad;rw [<-ad,M]at am;cases am
   have ds:h al=O:=by rw [ah be.symm]at am;exact am
   refine rf (aX:=c2) (λe k=>k al=Y (.lst (((v.take e).map (·.1)).map λG=>V.int (G:Nat)))/\k b=Y (.bP ch (dX m p b c2))/\(∀U bk,ax K h U bk->ax K k U bk)/\∀U o,U≠b->h U=Y o->k U=Y o) ?_ ?_ ?_ ?_
   .refine⟨M,by rw [ah be,M],λU bk j=>bF (.inr am) (ci U bk j),λU o g a=>?_⟩;rw [ah (cB a ds),ah g];exact a
   .rintro e k _ ⟨_,j,_⟩;exact j
   .rintro e G k f ⟨an,cl,cn,co⟩;have dx:(c2.map (·.1))[e]?=Y G.1:=by rw [bh,f];rfl
    rw [dp,bh]at dx;let⟨y,x,hm⟩:=cv.mp dx;have ab:ax K k G.2.1 (b4 y):=by have:=cn _ _ (g3 G (cG f));rw [<-hm]at this;exact this
    have hz:=(cF.mp x).1;exists S,?_;unfold hk;dsimp only [];rw [ai S];exists _,S,_,_,_,_,S,S,ab,S,_,an,by rw [z,z,dU];lia,?_,?_,?_,?_
    .rw [M,dq,x,aT,aT];rfl
    .rw [ah be];exact cl
    .exactλU bk j=>bF (.inl (by rw [an];exact trivial)) (cn U bk j)
    .intro U o g a;rw [ah (cB a ds)];exact co U o g a
   rintro k ⟨an,cl,cn,co⟩;rw [hd,dB]at an;exists cl,?_;have cr:Ext h (upd k b (dX m p b c2)):=λU o a=>by
    by_cases g:U=b
    .rw [g,M,<-ce,<-g];exact a
    .rw [ah g];exact co U o g a
   have h0:upd k b (dX m p b c2) al=Y (.lst ((v.map (·.1)).map λG=>V.int (G:Nat))):=(ah be.symm).trans an;have dK:=bd.trans cr
   let⟨dL,dT,d0⟩:=bs.ext dK;exists _,S,w,d,fT,f0,_,S,dK _ _ f1,a1.p.c,a1.p.sorts,f2,c9,S,⟨_,dT⟩,λbi d1=>?_;refine hC (xs:=dL.map V.ref) (λe t=>(∃u,t bi=Y (.lst (u.map V.ref))/\fJ K t u ((((bp a).map a6).take e).filter λG=>decide (G.1∈v.map (·.1)))/\u.length<=e)/\Ext (upd k b (dX m p b c2)) t) ?_ ?_ ?_ ?_
   .exact⟨⟨[],M,.nil,aR _⟩,Ext.one d1⟩
   .rintro e t _ ⟨_,n⟩;exact n.ee dT
   .rintro e G t f ⟨⟨u,ap,as,cs⟩,n⟩;rw [bh]at f;cases ct:dL[e]? with
    |none=>rw [ct]at f;cases f
    |some c=>
     rw [ct]at f;obtain rfl:=aS f;let⟨y,x,em⟩:=ey d0 ct;have hz:e<((bp a).map a6).length:=(cF.mp x).1
     have:=yz r;have h1:((bp a).map a6).take (e+1)=((bp a).map a6).take e++[y]:=by rw [dq,x];rfl
     exists S,_,S,_,_,_,_,S,S,n.aP em,S,_,S,al,_,S,.inl (av.of (n _ _ h0)),S,Ez _,_,S,?_;rw [N d5,Ey,h1,nV,ig,vg];refine eb (λc0=>?_) (λc0=>?_)
     .rw [ai c0];have eq:cX (t bi)\/t bi=O:=.inl (by rw [ap];exact trivial)
      exists _,S,_,ap,by rw [z];lia,⟨u++[c],by rw [M,aT];rfl,fL (Paired.b9 as λU w ad=>bF eq ad) (bF eq (n.aP em)),by rw [br];exact qj cs 1⟩,n.upd d1
     .rw [N c0,b0];exists ⟨u,ap,as,HA cs⟩,n
   rintro t ⟨⟨u,ap,as,cs⟩,n⟩;rw [z,bO d0,dB,<-cd]at as;exists bi,E l,S,⟨u,av.of ap,as⟩,?_,?_,λld le h2 id ii=>?_
   .rw [cd];exact(tW r).filter _
   .rw [cd];refine cu (iX _ _) ?_;have:=yz r;lia
   have c1:=(cr.trans n).trans h2;let⟨im,io,is,it,ix⟩:=s.next c1 ii ((cr.trans n).none id) (c1.aP (bd.aP ab)) ge lk;rw [ga];exists _,S,_,S,C,im,pk (D l),U,S,io,is,S,c1.aP (bd.aP ab),it,_,_,_,S,ix
 .rintro a4 h ⟨bt,bv,ca,rfl,s⟩;have:((tabOf a E).take (bn.map V.ref).length)=tabOf a E:=by
   rw [j4];rw [z,bO c8,z];unfold tabOf;rw [z];exact aR _
  rw [this]at s;exists _,S,fa C h _ (s.from X.ext) (yx r λl a5=>⟨(tW r).filter _,λG f=>?_,λa0=>?_⟩)
  .obtain⟨a0,jp,rfl⟩:=bH.mp (dz.mp f).1;exists a0,jp,S
  .obtain⟨v,F,_⟩:=a3.row l a5;have kk:=Nv r a3 a5 F a0
   rw [dz,F,n0];show a6 a0∈_/\(a6 a0).1∈v.map (·.1)↔_
   rw [kk];unfold gs;refine and_congr_left λ_=>⟨λj=>?_,λj=>dY j⟩
   let⟨U,g,kp⟩:=bH.mp j;rw [<-lJ kp];exact g
abbrev yA:a8:=top 58
abbrev yB:a8:=top 60
abbrev yC:a8:=top 61
def jS(z:Pr):l8:=.tuple [.int (z.1:Int),.int (z.2:Int)]
def tX(z:Pr):rF (jS z)=I:=by unfold rF jS;simp [PyData.canLay0,PyData.canLayAll0,PyData.depth,PyData.depthAll]
def EB(z A:Pr):zf (jS z) (jS A)=decide (z=A):=by
 unfold jS;simp only [zf,PyData.eqvAll];by_cases c:z=A
 .subst c;simp
 .rw [bU c];have:¬(z.1=A.1/\z.2=A.2):=λD=>c (kf D.1 D.2)
  by_cases G:z.1=A.1
  .have M:((z.2:Int)==(A.2:Int))=ao:=iK.mpr λD=>this ⟨G,by lia⟩;rw [M];simp
  .have N:((z.1:Int)==(A.1:Int))=ao:=iK.mpr λD=>G (by lia);rw [N];rfl
theorem tY(z:ax K H d (b4 sc)):Dp K H (.ref d) (jS sc):=.tup z (.cons (.int _) (.cons (.int _) .nil))
theorem tZ(z:ax K H d (b4 sc))(A:ax K H q (b4 Ch))(D:KB (.bl (decide (sc=Ch))) H):v3 K (.ref d) (.ref q) H KB:=⟨jS sc,jS Ch,tY z,tY A,tX sc,tX Ch,by rwa [EB]⟩
theorem Pm(z:ax K H d (b4 sc))(A:ax K H q (b4 Ch))(D:KB (.bl (!decide (sc=Ch))) H):AI K (.ref d) (.ref q) H KB:=⟨jS sc,jS Ch,tY z,tY A,tX sc,tX Ch,by rwa [EB]⟩
def f3(D:aw)(G:au)(K:af)(H:U)(c:Z)(M N:List Pr):Prop:=∃z,H c=Y (dX D G c z)/\cb K H z/\z.map (·.1)=M.map pk/\cE (λ(S:List Key×Z×V) v=>∃A,S.2.2=.ref A/\ax K H A (b4 v)) z N
section
variable {P:aw} {w:au} {K:af} {G:aa->Option J} {base:aD} {H H':U} {c:Z} {L eX:List Pr}
def f3.ext(z:Ext H H')(A:f3 P w K H c L eX):f3 P w K H' c L eX:=by let⟨D,M,N,S,T⟩:=A;exact⟨D,z _ _ M,z.keys N,S,Paired.b9 T λe v U=>let⟨a,b,d⟩:=U;⟨a,b,z.aP d⟩⟩
end
theorem yD:∀{D:bW} {M:Nat} {A:List Key×Z×V},(D.map (·.1)).Nodup->D[M]?=Y A->cm D A.1=Y A.2.2
 |[],_,_,_,z=>by cases z
 |y::b,0,A,_,z=>by cases z;unfold cm;rw [gc,cq S];rfl
 |y::b,M+1,A,a,z=>by
  rw [aZ,eh]at a;have z:b[M]?=Y A:=z
  have N:¬y.1=A.1:=λT=>a.1 (T▸dY (cG z));have:=yD a.2 z
  unfold cm at this⊢;rwa [gc,bU N]
theorem EC:∀{D:bW} {M:Nat} {z:List Key×Z×V} {v:V},(D.map (·.1)).Nodup->D[M]?=Y z->D.map (λT=>if T.1=z.1 then(T.1,T.2.1,v)else T)=D.set M (z.1,z.2.1,v)
 |[],_,_,_,_,A=>by cases A
 |y::b,0,z,v,a,A=>by cases A;rw [aZ,eh]at a;rw [aZ,ai S,List.set_cons_zero];congr 1;refine(gE λU d=>?_).trans (nW b);rw [N λe=>a.1 (by rw [<-e];exact dY d)];rfl
 |y::b,M+1,z,v,a,A=>by
  rw [aZ,eh]at a;have A:b[M]?=Y z:=A
  have f:¬y.1=z.1:=λU=>a.1 (U▸dY (cG A));rw [aZ,N f,List.set_cons_succ,EC a.2 A]
theorem ED{D:sK->AC->Prop}:∀{N:List sK} {S:List AC} {M:Nat} {T:sK} {U:AC},cE D N S->D T U->cE D (N.set M T) (S.set M U)
 |_,_,_,_,_,.nil,_=>.nil
 |_,_,0,_,_,.cons d a,b=>.cons b a
 |_,_,M+1,_,_,.cons d a,b=>.cons d (ED a b)
def f3.get(U:re.Nodup)(M:pu.map (·.1)=re.map pk)(a:cE (λ(x:List Key×Z×V) v=>∃z,x.2.2=.ref z/\ax K H z (b4 v)) pu KK){i:Nat}{p:Pr}(b:re[i]?=Y p):∃x v z,pu[i]?=Y x/\x.1=pk p/\KK[i]?=Y v/\cm pu (pk p)=Y (.ref z)/\ax K H z (b4 v):=by
 have N:(pu.map (·.1))[i]?=Y (pk p):=by rw [M,bh,b];rfl
 rw [bh]at N;let⟨x,D,T⟩:=cv.mp N;let⟨v,d,z,e,f⟩:=ey a D;have g:(pu.map (·.1)).Nodup:=by rw [M];exact iD (λ_ _=>lP) U
 exists x,v,z,D,T,d,?_,f;rw [<-T,yD g D,e]
set_option tactic.hygienic true
section
variable {P:aw} {w:au} {K:af} {G:aa->Option J} {base:aD} {H H':U} {c:Z} {L eX:List Pr}
def f3.put{A:bW}{U:Nat}{D v:Pr}{N b:Z}(g:L.Nodup)(j:H c=Y (dX P w c A))(k:cb K H A)(a:A.map (·.1)=L.map pk)(h:cE (λ(T:List Key×Z×V) v=>∃b,T.2.2=.ref b/\ax K H b (b4 v)) A eX)(l:L[U]?=Y D)(m:ax K H N (b4 D))(n:ax K H b (b4 v)):f3 P w K (upd H c (dX P w c (cy A (pk D) N (.ref b)))) c L (eX.set U v):=by
 have d:cX (H c)\/H c=O:=.inl (j▸trivial);let⟨T,u,x,e,o,y,p,_⟩:=f3.get g a h l;have q:(A.map (·.1)).Nodup:=by rw [a];exact iD (λ_ _=>lP) g
 have i:cy A (pk D) N (.ref b)=A.set U (T.1,T.2.1,.ref b):=by unfold cy;rw [p,ai (by rfl),<-o,EC q e]
 exists cy A (pk D) N (.ref b),M,(ly k _ m).same λB C=>bF d,?_,?_
 .rw [i,List.map_set];rw [<-a];apply TU;intro E;rw [TV];split
  .rename_i f;subst f;rw [bh,e];split
   .rfl
   .rename_i r;exfalso;apply r;rw [z];exact(cF.mp e).1
  .rfl
 .rw [i];refine ED (Paired.b9 h λF v s=>let⟨b,f,t⟩:=s;⟨b,f,bF d t⟩) ⟨b,S,bF d n⟩
end
set_option tactic.hygienic false
def jT(z A v:Pr):Pr:=if v=A then z else v
section
variable {P:aw} {w:au} {K:af} {G:aa->Option J} {base:aD} {H H':U} {c:Z} {L eX:List Pr}
inductive EE (P:aw) (w:au) (K:af) (D:List V) (H:U) (M:VK) (N:XK):Prop
 |mk(c bk bl L eX k l:_)(_:D=[.ref c,.ref bk,.ref bl])(_:L.Nodup)(_:L.length<=90)(_:f3 P w K H c L eX)(_:ax K H bk (b4 k))(_:ax K H bl (b4 l))(_:∀H',bN c H H'->(∀z A,ax K H z A->ax K H' z A)->f3 P w K H' c L (eX.map (jT k l))->M .bw H')
end
set_option tactic.hygienic true
section
variable {P:aw} {w:au} {K:af} {G:aa->Option J} {base:aD} {H H':U} {c:Z} {L eX:List Pr}
def Pn{t:Z}{al:bc}(bi:a9 K "put_together" "put_together" yA t al)(bk:G "list"=O):aV P w K G base aE 1 t al ["classes","kept","lost"] (EE P w K):=by
 refine bi.go ["classes","kept","lost","place"] λbl bm c5 bn H c6 c7 c8 bs h bt am sz=>?_;let⟨c,bv,ca,L,eX,b,d,rfl,an,c9,⟨e,u,ap,x,as⟩,cd,ce,ch⟩:=h;have ci:(bm.deeper (eI "put_together" (eg yA) bn.heap.objs.size t bl)).units+64<cK:=by have:=bs.un;lia
 exists _,ay (d3 dZ S (dC (sj (LI S) (by rfl) bk (by decide+kernel) (aJ 0))) (bX 3 bt) (ay (bK (bS (v5 ci) (ff am (T 0) (T 3) (λ_ _=>S)) (T 2) (bV _)) (ay (i4 am (T 0) (T 3) (T 1) S)) bQ))),?_;dsimp;exists _,S,c,e,S,u,λB a0=>?_;have C:Ext H (upd H B (.lst (e.map λD=>V.ref D.2.1))):=Ext.one a0
 have cl:=(cB u a0).symm;exists B,S,⟨_,av.of M⟩,?_;have a1:e.length=L.length:=by have:=bD cN x;rwa [z,z]at this
 have cn:eX.length=L.length:=by rw [<-bO as,a1]
 let a2:VLx:=λA l a=>∃E,A5 (l=[Y (.ref c),Y (.ref bv),Y (.ref ca),E]) (f3 P w K a c L ((eX.take A).map (jT b d)++eX.drop A)) (bN c H a) (∀f i,ax K H f i->ax K a f i) (a B=Y (.lst (e.map λD=>V.ref D.2.1)));refine fw (xs:=e.map λD=>V.ref D.2.1) a2 ?_ ?_ ?_ ?_
 .exact⟨O,S,f3.ext C ⟨e,u,ap,x,as⟩,C.but,λf i=>C.aP,M⟩
 .rintro A l a _ ⟨_,_,_,_,_,h⟩;exact av.of h
 .rintro A db l a a3 ⟨E,rfl,⟨m,j,n,p,F⟩,q,g,Q⟩;rw [bh]at a3;let⟨y,R,rfl⟩:=cv.mp a3;have co:A<L.length:=by have:=(cF.mp R).1;lia
  obtain⟨D,W⟩:∃D,L[A]?=Y D:=⟨_,gf co⟩
  have cr:y.1=pk D:=by
   have:(e.map (·.1))[A]?=Y y.1:=by rw [bh,R];rfl
   rw [x,bh,W]at this;exact(aS this).symm
  have X:ax K a y.2.1 (b4 D):=by have:=g _ _ (ap y (cG R));rw [cr]at this;exact this
  obtain⟨v,r⟩:∃v,eX[A]?=Y v:=⟨_,gf (by lia)⟩
  let⟨dd,cs,dl,dp,ds,k,ct,a4⟩:=f3.get an p F W;have a5:cs=v:=by rw [hu (by rw [z,dU];lia),z,dU,ik (by lia),kd,HC,j9,r]at k;exact(aS k).symm
  rw [a5]at a4;have c0:((eX.take (A+1)).map (jT b d)++eX.drop (A+1))=((eX.take A).map (jT b d)++eX.drop A).set A (jT b d v):=by
   rw [dq,r,aT,ck,List.set_append_right _ _ (by rw [z,dU];lia),z,dU,ik (by lia),kd];congr 1;have c1:eX.drop A=v::eX.drop (A+1):=by rw [TM (by lia)];rw [gf (by lia)]at r;rw [aS r]
   rw [c1];rfl
  exists _,S,_,S,c,_,S,⟨m,pk D,y.2.1,j,n,S,X,ct.symm⟩,_,S,tZ a4 (g _ _ ce) ⟨_,S,?_⟩;dsimp only [a2];rw [c0];by_cases s:v=d
  .rw [cq s];have dx:m.length=L.length:=by have:=bD cN p;rwa [z,z]at this
   have ab:jT b d v=b:=ai s;rw [ab];have c2:cX (a c)\/a c=O:=.inl (j▸trivial)
   exact cf ⟨_,S,_,S,_,S,c,m,pk D,y.2.1,S,j,n,S,X,by lia,_,S,f3.put an j n p F W X (g _ _ cd),λf o ad bd=>ah bd▸q f o ad bd,λf i h=>bF c2 (g f i h),ah cl▸Q⟩
  .rw [bU s];have ab:jT b d v=v:=N s
   have c3:((eX.take A).map (jT b d)++eX.drop A).set A v=(eX.take A).map (jT b d)++eX.drop A:=by
    rw [a5]at k;apply TU;intro dK;rw [TV];split
    .rename_i ad;subst ad;rw [k];split
     .rfl
     .rename_i c4;exact absurd (cF.mp k).1 c4
    .rfl
   rw [ab,c3];exact b1 ⟨_,S,⟨m,j,n,p,F⟩,q,g,Q⟩
 .rintro l a ⟨E,rfl,be,q,g,Q⟩;rw [z,a1,<-cn,dB,List.drop_length,b0]at be;exact ch a q g be
end
set_option tactic.hygienic false
abbrev hs(A:aw)(G:au)(K:af)(H:U)(c:Z)(z:Ex)(M:aA->aA):Prop:=f3 A G K H c ((aq z).map D) ((aq z).map λN=>D (M N))
section
variable {P:aw} {w:au} {K:af} {G:aa->Option J} {base:aD} {H:U} {c:Z} {e:Ex} {R:aA->aA}
def hs.get(a:bG e)(b:hs P w K H c e R){A:aA}(d:A∈aq e):∃z M,H c=Y (dX P w c z)/\cb K H z/\cm z (pk (D A))=Y (.ref M)/\ax K H M (b4 (D (R A))):=by
 let⟨z,f,g,h,j⟩:=b;let⟨i,T⟩:=hR.mp d;let⟨x,v,M,l,m,N,k,U⟩:=f3.get (lV a) h j (i:=i) (p:=D A) (by rw [bh,T];rfl);rw [bh,T]at N;have N:=aS N
 rw [<-N]at U;exists z,M,f,g,k,U
end
def yE(z A:aA):decide (D z=D A)=decide (z=A):=by rw [hb];exact⟨d4,λM=>by rw [M]⟩
def EF{z:aA->Bool}(N:(aq pi)[t]?=Y or):(((aq pi).take (t+1)).filter z).map D=(((aq pi).take t).filter z).map D++(if z or=I then [D or]else []):=by rw [dq,N,nV,aT];congr 1;rw [Hs,ig,vg];split<;>rfl
section
variable {P:aw} {w:au} {K:af} {G:aa->Option J} {base:aD} {H:U} {c:Z} {e:Ex} {R:aA->aA}
inductive yF (P:aw) (w:au) (K:af) (M N:Z) (S:List V) (H:U) (T:VK) (f:XK):Prop
 |mk(p e c R b a:_)(_:S=[.ref p,.ref c,.ref b])(_:cg K M N H p e)(_:hs P w K H c e R)(_:a∈aq e)(_:ax K H b (b4 (D a)))(_:∀z A,Ext H A->H z=O->eO K A z (((aq e).filter λd=>decide (R d=R a)).map D)->T (.ref z) A)
def Po{j b s:Z}{t:bc}(a1:a9 K "members" "members" yB j t)(u:eE K b s):aV P w K G base aE 1 j t ["program","classes","place"] (yF P w K b s):=by
 refine a1.go ["program","classes","place","other"] λa2 a3 c0 f H c1 c2 c3 a4 a5 v x sz=>?_;let⟨y,e,c,R,B,C,rfl,E,F,bd,be,bi⟩:=a5;have k:=E.ok
 have bk:(a3.deeper (eI "members" (eg yB) f.heap.objs.size j a2)).units+64<cK:=by have:=a4.un;lia
 exists _,ay (aQ (fU (own:=[("other",3)]) S v (dC (aF 0)) (e3 S) (λf H b l L=>bX 3 v) (λf H b l L=>kv (bS (DR K bk) (pf P w K x (T 1) (T 3) (λ_ _=>S)) (pf P w K x (T 1) (T 2) (λ_ _=>S)) (bV _))) (λf H b l L=>T 3))),?_;dsimp;let⟨bl,bm,bn,Q,bs,bt,W,X⟩:=E.places;exists _,S,y,b,bl,bm,_,S,bs,u.p.c,u.p.places,bt,bn,S,⟨_,W⟩,λg m=>?_;let ab:VCx:=λh A=>eO K A g ((((aq e).take h).filter λad=>decide (R ad=R C)).map D)/\Ext H A
 refine hC (xs:=Q.map V.ref) ab ?_ ?_ ?_ ?_
 .exact⟨⟨[],M,.nil⟩,Ext.one m⟩
 .rintro h A _ ⟨_,al⟩;exact al.ee W
 .rintro h al A d ⟨⟨n,o,p⟩,a⟩;rw [bh]at d;cases q:Q[h]? with
  |none=>rw [q]at d;cases d
  |some am=>
   rw [q]at d;obtain rfl:=aS d;let⟨ad,an,i⟩:=ey X q;rw [bh]at an;let⟨bv,ap,rfl⟩:=cv.mp an;have i:=a.aP i
   let⟨ca,c4,cd,ce,ch,ci⟩:=hs.get k (F.ext a) (cG ap);let⟨cl,c5,cn,co,cr,cs⟩:=hs.get k (F.ext a) bd;exists S,_,S,_,S,c,_,S,⟨ca,pk (D bv),am,cd,ce,S,i,ch.symm⟩,_,S,_,S,c,_,S,⟨cl,pk (D C),B,cn,co,S,a.aP be,cr.symm⟩,tZ ci cs ⟨_,S,?_⟩;dsimp only [ab];rw [yE,EF ap];have l:n.length<=90:=by
    rw [bO p,z];refine cu (iX _ _) ?_;rw [dU];have:=nt k
    rw [z]at this
    lia
   refine eb (λr=>?_) (λr=>?_)
   .rw [ai r];have as:cX (A g)\/A g=O:=.inl (o▸trivial)
    exists _,S,_,o,by rw [z];lia,⟨n++[am],by rw [M,aT];rfl,fL (Paired.b9 p λB y ct=>bF as ct) (bF as i)⟩,a.upd m
   .rw [N r,b0];exists ⟨n,o,p⟩,a
 .rintro A ⟨a0,a⟩;rw [z,bO X,z,dB]at a0;exact bi g A a m a0
end
def Pp(K:af)(A:h.K=K:=by rfl):hA h (.builtin "len") (AE K):=by subst A;exact ej
section
variable {P:aw} {w:au} {K:af} {G:aa->Option J} {base:aD} {H:U} {c:Z} {e:Ex} {R:aA->aA}
inductive EG (P:aw) (w:au) (K:af) (D M:Z) (N:List V) (H:U) (S:VK) (a:XK):Prop
 |mk(p e c R:_)(_:N=[.ref p,.ref c])(_:cg K D M H p e)(_:hs P w K H c e R)(_:∀z A,Ext H A->H z=O->A z=Y (.lst ((((aq e).filter λp=>decide (R p=p)).map λp=>((aq e).filter λT=>decide (R T=R p)).length).map λx=>V.int (x:Nat)))->S (.ref z) A)
def Pq{L b Q:Z}{al:bc}(bl:a9 K "class_sizes" "class_sizes" yC L al)(am:eE K b Q)(bm:G "len"=O)(bn:bz P w K G base aE 1 "members" ["program","classes","place"] (yF P w K b Q)):aV P w K G base aE 2 L al ["program","classes"] (EG P w K b Q):=by
 refine bl.go ["program","classes","firsts","place","first"] λbs bt c6 k H c7 c8 c9 an bv y ca sz=>?_;let⟨g,e,c,R,rfl,W,ap,cd⟩:=bv;have as:=W.ok
 have ce:(bt.deeper (eI "class_sizes" (eg yC) k.heap.objs.size L bs)).units+64<cK:=by have:=an.un;lia
 exists _,ar (su (i:=2) (own:=[("place",3)]) S y S rfl (sv S rfl rfl rfl) (dC (aF 0)) (e3 S) (λk H b o t=>bX 3 y) (λk H b o t=>kv (bS (DR K ce) (pf P w K ca (T 1) (T 3) (λ_ _=>S)) (T 3) (bV _))) (λk H b o t=>T 3)) (ay (aQ (fU (own:=[("first",4)]) S y (dC (T 2)) (e3 S) (λk H b o t=>bX 4 y) (λk H b o t=>hB) (λk H b o t=>cR (Pp K) (by rfl) bm dE (A (bI bn an (A (T 0) (A (T 1) (aJ 4)))) aC))))),?_;let⟨ch,ci,cl,a0,cn,co,a1,a2⟩:=W.places;have a3:=nt as
 rw [z]at a3;exists _,S,g,b,ch,ci,_,S,cn,am.p.c,am.p.places,co,cl,S,⟨_,a1⟩,λB a4=>?_;let C:VCx:=λd h=>eO K h B ((((aq e).take d).filter λf=>decide (R f=f)).map D)/\Ext H h
 refine hC (xs:=a0.map V.ref) C ?_ ?_ ?_ ?_
 .exact⟨⟨[],M,.nil⟩,Ext.one a4⟩
 .rintro d h _ ⟨_,u⟩;exact u.ee a1
 .rintro d u h a ⟨⟨p,q,r⟩,j⟩;rw [bh]at a;cases l:a0[d]? with
  |none=>rw [l]at a;cases a
  |some E=>
   rw [l]at a;obtain rfl:=aS a;let⟨f,v,m⟩:=ey a2 l;rw [bh]at v;let⟨X,x,rfl⟩:=cv.mp v;have m:=j.aP m
   let⟨cr,db,cs,ct,c0,c1⟩:=hs.get as (ap.ext j) (cG x);exists S,_,S,_,S,c,_,S,⟨cr,pk (D X),E,cs,ct,S,m,c0.symm⟩,_,S,tZ c1 m ⟨_,S,?_⟩;dsimp only [C];rw [yE,EF x];have o:p.length<=90:=by
    rw [bO r,z];refine cu (iX _ _) ?_;rw [dU]
    lia
   refine eb (λab=>?_) (λab=>?_)
   .rw [ai ab];have a5:cX (h B)\/h B=O:=.inl (q▸trivial)
    exists _,S,_,q,by rw [z];lia,⟨p++[E],by rw [M,aT];rfl,fL (Paired.b9 r λdd g c2=>bF a5 c2) (bF a5 m)⟩,j.upd a4
   .rw [N ab,b0];exists ⟨p,q,r⟩,j
 rintro h ⟨bd,j⟩;rw [z,bO a2,z,dB]at bd;let⟨p,q,r⟩:=bd;exists _,S,B,S,⟨_,av.of q⟩,λbe ad=>?_;have dl:((aq e).filter λf=>decide (R f=f)).length<=90:=cu (iX _ _) a3
 let C:VCx:=λd s=>s be=Y (.lst (((((aq e).filter λg=>decide (R g=g)).take d).map λg=>((aq e).filter λf=>decide (R f=R g)).length).map λu=>V.int (u:Nat)))/\Ext h s;refine hC (xs:=p.map V.ref) C ?_ ?_ ?_ ?_
 .exact⟨M,Ext.one ad⟩
 .rintro d s _ ⟨_,n⟩;exact av.of (n _ _ q)
 .rintro d u s a ⟨F,n⟩;rw [bh]at a;cases l:p[d]? with
  |none=>rw [l]at a;cases a
  |some E=>
   rw [l]at a;obtain rfl:=aS a;let⟨f,v,m⟩:=ey r l;rw [bh]at v;let⟨X,x,rfl⟩:=cv.mp v;have bi:=j.trans n
   exists S,?_;unfold hk;dsimp only [];rw [ai S];exists _,S,_,S,_,S,g,e,c,R,E,X,S,W.ext bi,ap.ext bi,(dz.mp (cG x)).1,n.aP m,λc3 dp bk ds ⟨dx,c4,c5⟩=>?_;exists c3,_,S,.inl (av.of c4),_,bk _ _ F,?_,?_,(n.trans bk).upd ad
   .rw [z,z,dU];lia
   .rw [M,dq,x,aT,aT,z,bO c5,z];rfl
 .rintro s ⟨F,n⟩;rw [z,bO r,z,dB]at F;exact cd be s (j.trans n) (j.none ad) F
end
abbrev yG:a8:=top 59
structure pB(z:Ex)(M:aA->aA)(G:Nat)(tab:Tb):Prop where
 nd:(tab.map (·.1)).Nodup
 len:tab.length<=G
 row:∀N row,ba tab N=Y row->row.Nodup/\(∀x∈row,∃a∈bp z,x=a6 a)/\∀a,a6 a∈row↔∃A∈(aq z).take G,D (M A)=N/\fG z A a
 has:∀A∈(aq z).take G,∃row,ba tab (D (M A))=Y row
def Pt{u:Tb}:ba (o0++u) sc=match ba o0 sc with
  |some x=>Y x
  |none=>ba u sc:=by
 unfold ba;rw [TX];cases o0.find? λy=>decide (y.1=sc)<;>rfl
def Pu(D:sc∉o0.map (·.1)):ba o0 sc=O:=by
 cases a:ba o0 sc with
 |none=>rfl
 |some x=>exact absurd (kE a) D
def pB.add(o:pB pi t3 t o0)(w:(aq pi)[t]?=Y or){ps:List Pr}(m:IN=o0/\ba o0 (D (t3 or))=Y re\/(IN=o0++[(D (t3 or),[])]/\D (t3 or)∉o0.map (·.1)/\re=[]))(x:∀i∈ps,∃G∈bp pi,i=a6 G) (y:∀G,a6 G∈ps↔fG pi or G):pB pi t3 (t+1) (dM IN (D (t3 or)) (cS re ps)):=by
 have n:(aq pi).take (t+1)=(aq pi).take t++[or]:=by rw [dq,w];rfl
 have L:(IN.map (·.1)).Nodup:=by
  rcases m with⟨rfl,_⟩|⟨rfl,A,_⟩
  .exact o.nd
  .rw [aT];refine gC.mpr ⟨o.nd,by simp,λu q v B C=>?_⟩;have:v=D (t3 or):=bb.mp B
   rw [C,this]at q;exact A q
 have r:D (t3 or)∈IN.map (·.1):=by
  rcases m with⟨rfl,A⟩|⟨rfl,A,_⟩
  .exact kE A
  .rw [aT];exact eH _ (bb.mpr S)
 have s:∀f,f≠D (t3 or)->ba IN f=ba o0 f:=λf e=>by
  rcases m with⟨rfl,_⟩|⟨rfl,A,_⟩
  .rfl
  .rw [Pt];cases P:ba o0 f with
   |some i=>rfl
   |none=>
    exact Pu (by simp [e])
 have p:re.Nodup/\(∀i∈re,∃G∈bp pi,i=a6 G)/\∀G,a6 G∈re↔∃M∈(aq pi).take t,D (t3 M)=D (t3 or)/\fG pi M G:=by
  rcases m with⟨_,A⟩|⟨_,A,rfl⟩
  .exact o.row _ _ A
  .refine⟨gd,(λ_ A=>nomatch A),λG=>⟨(λA=>nomatch A),λ⟨M,a,b,_⟩=>?_⟩⟩;let⟨T,e⟩:=o.has M a;rw [b]at e;exact absurd (kE e) A
 exists by rwa [CC],?_,λf T e=>?_,λM a=>?_
 .unfold dM;rw [z];rcases m with⟨rfl,_⟩|⟨rfl,_⟩
  .have:=o.len;lia
  .rw [br];have:=o.len;simp;exact this
 .rw [pd _ r]at e;by_cases c:f=D (t3 or)
  .rw [ai c]at e;obtain rfl:=aS e;exists mD p.1,λi E=>?_,λG=>?_
   .rcases hn.mp E with A|A
    .exact p.2.1 i A
    .exact x i A
   .rw [hn,p.2.2 G,y G,n];constructor
    .rintro(⟨M,a,b,g⟩|A)
     .exact⟨M,gN _ a,b.trans c.symm,g⟩
     .exact⟨or,eH _ (bb.mpr S),c.symm,A⟩
    .rintro⟨M,a,b,g⟩;rcases bR.mp a with A|A
     .exact .inl ⟨M,A,b.trans c,g⟩
     .rw [bb.mp A]at g;exact .inr g
  .rw [N c,s f c]at e;let⟨F,H,K⟩:=o.row f T e;exists F,H,λG=>(K G).trans ?_;rw [n];constructor
   .rintro⟨M,a,b,g⟩;exists M,gN _ a,b,g
   .rintro⟨M,a,b,g⟩;rcases bR.mp a with A|A
    .exact⟨M,A,b,g⟩
    .rw [bb.mp A]at b;exact absurd b.symm c
 .rw [pd _ r];by_cases c:D (t3 M)=D (t3 or)
  .rw [ai c];exists _,S
  .rw [N c,s _ c];rw [n]at a;rcases bR.mp a with A|A
   .exact o.has M A
   .rw [bb.mp A]at c;exact absurd rfl c
def Pw{w:au}{p:Pr}{ps:List Pr}(F:Ext r H)(i:H q=Y (dX m w q pu))(j:cb K H pu)(N:fk m w K H pu o0)(k:(pu.map (·.2.2)).Nodup)(b:V.ref q∉pu.map (·.2.2))(l:∀d,V.ref d∈pu.map (·.2.2)->r d=O)(L:r q=O)(t:fK m w K H d ps) (n:V.ref d∉pu.map (·.2.2)) (A:d≠q) (z:r d=O) (o:ax K H Q (b4 p)) (T:p∉o0.map (·.1)):cb K (upd H q (dX m w q (cy pu (pk p) Q (.ref d)))) (cy pu (pk p) Q (.ref d))/\fk m w K (upd H q (dX m w q (cy pu (pk p) Q (.ref d)))) (cy pu (pk p) Q (.ref d)) (o0++[(p,ps)])/\((cy pu (pk p) Q (.ref d)).map (·.2.2)).Nodup/\V.ref q∉(cy pu (pk p) Q (.ref d)).map (·.2.2)/\∀M,V.ref M∈(cy pu (pk p) Q (.ref d)).map (·.2.2)->r M=O:=by
 have e:cX (H q)\/H q=O:=.inl (i▸trivial);have f:∀M U,M≠q->fK m w K H M U->fK m w K (upd H q (dX m w q (cy pu (pk p) Q (.ref d)))) M U:=λM U D P=>by let⟨s,x,y,B⟩:=P;exists s,ah D▸x,y.same λQ C=>bF e,B
 exists (ly j _ o).same λc C=>bF e,?_,?_,?_,?_
 .have g:fk m w K (upd H q (dX m w q (cy pu (pk p) Q (.ref d)))) (pu++[(pk p,Q,.ref d)]) (o0++[(p,ps)]):=fL (rl f N b) ⟨S,d,S,f d ps A t⟩;rw [iw _ _ (kM N T)]at g⊢;exact g
 .rw [iw _ _ (kM N T),aT];refine gC.mpr ⟨k,by simp,λu h v E a=>?_⟩;have a:=a.trans (bb.mp E)
  rw [a]at h;exact n h
 .rw [iw _ _ (kM N T),aT];intro G;rcases bR.mp G with G|G
  .exact b G
  .have:=bb.mp G;injection this with this;exact A this.symm
 .rw [iw _ _ (kM N T),aT];intro M G;rcases bR.mp G with G|G
  .exact l M G
  .have:=bb.mp G;injection this with this;rwa [this]
def Px{v:V}(D:cm pu BT=O):cm (cy pu BT d v) BT=Y v:=by
 rw [iw _ _ D];unfold cm at D⊢;rw [TX];have:pu.find? (λG=>decide (G.1=BT))=O:=by
  cases a:pu.find? (λG=>decide (G.1=BT))with
  |none=>rfl
  |some y=>rw [a]at D;cases D
 rw [this];simp
inductive yH (m:aw) (p:au) (K:af) (D M:Z) (N:List V) (H:U) (S:VK) (T:XK):Prop
 |mk(P e c R:_)(_:N=[.ref P,.ref c])(_:cg K D M H P e)(_:hs m p K H c e R)(_:∀z A tab,b8 m p K H A z tab->bM e tab (jh e R)->S (.ref z) A)
def Py(lb:a9 K "table_of_classes" "table_of_classes" yG Q pc)(c6:eE K d pp)(lc:L "dict"=O)(ld:bz m w K L P aE 2 "own_table" ["program"] (tS m w K d pp)):aV m w K L P aE 3 Q pc ["program","classes"] (yH m w K d pp):=by
 refine lb.go ["program","classes","own","of_class","place","table"] λle lf m2 fd H m3 m4 m5 hm r cd x sz=>?_;let⟨ce,j,c,a,rfl,fl,hz,li⟩:=r;have s:=fl.ok
 have lm:(lf.deeper (eI "table_of_classes" (eg yG) fd.heap.objs.size Q le)).units+2<cK:=by have:=hm.un;lia
 exists _,ar (bj 2 cd (bI ld hm (aJ 0))) (ar (bj 3 cd ky) (ar (d3 dZ S (dC (aF 0)) (bX 4 cd) (ay (cM (sJ x (LF x (T 3) (ff x (T 1) (T 4) (λ_ _=>S)) ky ⟨S,S,S,S⟩) (ff x (T 2) (T 4) (λ_ _=>S)) ⟨S,S,S,S⟩)))) (ar (bj 5 cd ky) (ar (d3 dZ S (dC (aF 0)) (bX 4 cd) (ay (i4 x (T 5) (T 4) (sj (Bu lm) (by rfl) lc (by decide+kernel) (A (ff x (T 3) (ff x (T 1) (T 4) (λ_ _=>S)) (λ_ _=>S)) aC)) S))) (ay (aQ (T 5))))))),?_;exists _,S,ce,j,S,fl,λc7 ab ad=>?_;have c8:=yl s
 let⟨h0,h1,h2,ln,m6,m7,m8⟩:=ad.ex;let⟨id,ii,im,ch,io,is,c9,db⟩:=fl.places;have lo:=nt s
 rw [z]at lo;intro ex it;have lp:Ext ab (upd ab ex (dX m w ex [])):=Ext.one it
 have ix:=ad.ext.trans lp;exists _,S,ce,d,id,ii,_,S,ix _ _ io,c6.p.c,c6.p.places,is,im,S,⟨_,ix.ee c9⟩,?_;let dd:VLx:=λbe E k=>X3 λal fm l=>A3 (E=[Y (.ref ce),Y (.ref c),Y (.ref c7),Y (.ref ex),al,fm]) (b8 m w K ab k ex l) (pB j a be l)
 refine fw (xs:=ch.map V.ref) dd ?_ ?_ ?_ ?_
 .exact⟨O,O,[],S,tV it,gd,aR _,(λb fa r=>by cases r),(λN F=>nomatch F)⟩
 .rintro be E k _ ⟨_,_,_,_,b,_⟩;exact(ad.ext.trans b.ext).ee c9
 .rintro be ci E k n ⟨al,fm,l,rfl,b,o⟩;rw [bh]at n;cases am:ch[be]? with
  |none=>rw [am]at n;cases n
  |some bi=>
   rw [am]at n;obtain rfl:=aS n;let⟨ls,dl,an⟩:=ey db am;rw [bh]at dl;let⟨N,F,rfl⟩:=cv.mp dl;have cl:=cG F
   have m9:be<90:=by have:=(cF.mp F).1;lia
   have ap:=ad.ext.trans b.ext;let⟨fn,cn,fr,fs,fT,f0⟩:=hs.get s (hz.ext ap) cl;let⟨jp,dp,na,lt,lv⟩:=c8.row N cl;let⟨e,G,bk,bl,ds,dx,dK⟩:=b.ex;have nb:=bO bl
   have ne:=o.len;exists _,S,ex,S,⟨e,G⟩,_,S,_,S,c,_,S,⟨fn,pk (D N),bi,fr,fs,S,ap.aP an,fT.symm⟩,λf as=>?_;have i:Ext k (upd k f (dX m w f [])):=Ext.one as
   have lw:=b.on i;have h:=b.ext.trans i
   let⟨co,bm,cr,a0,f1,dL⟩:=fZ ln dp;have nl:cr.length=jp.length:=by have:=bD cN dL;rwa [z,z]at this
   have nm:=(c8.len s dp).1;have kk:∀{W:U} {bn:Tb} {q:List Pr},b8 m w K ab W ex bn->(bn.map (·.1)).Nodup->q.length<=100->(bn=l/\ba l (D (a N))=Y q\/(bn=l++[(D (a N),[])]/\D (a N)∉l.map (·.1)/\q=[]))->∀{g:Z} {B e:bW},W ex=Y (dX m w ex e)->cb K W e->fk m w K W e bn->(e.map (·.2.2)).Nodup->V.ref ex∉e.map (·.2.2)->(∀g,V.ref g∈e.map (·.2.2)->ab g=O)->cm e (pk (D (a N)))=Y (.ref g)->W g=Y (dX m w g B)->cb K W B->B.map (·.1)=q.map pk->
     B.length+cr.length<=aU/\g≠co/\∃bs,b8 m w K ab (upd W g (dX m w g (hX B cr))) ex bs/\pB j a (be+1) bs:=by
    intro W bn q t f2 kp l0 g B e cs a1 ct f4 f8 dT ks mg mk kt;have nn:B.length=q.length:=by have:=bD cN kt;rwa [z,z]at this
    have mo:V.ref g∈e.map (·.2.2):=by let⟨y,c0,c1⟩:=cv.mp ks;rw [<-c1];exact dY (fq c0)
    have mp:=dT g mo;exists by lia,(cB a0 mp).symm,_,b8.put (ps:=cS q jp) t.ext cs a1 ct f4 f8 dT t.new f2 ks mg (qK mk (t.ext.keys f1)) (rn kt dL),o.add F l0 lt lv
   have bt:fk m w K (upd k f (dX m w f [])) e l:=Paired.b9 bl λX c2 N=>⟨N.1,let⟨g,j,fd⟩:=N.2;⟨g,j,fd.ext i⟩⟩
   have ga:=i.aP f0;exists e,pk (D (a N)),cn,S,i _ _ G,i.keys bk,ga,by lia,λkw a2=>?_,λa2=>?_
   .
    have ms:D (a N)∈l.map (·.1):=by refine GX λmt=>?_;rw [kM bt mt]at a2;cases a2
    obtain⟨q,ge⟩:∃q,ba l (D (a N))=Y q:=by let⟨y,c0,c1⟩:=bH.mp ms;exists y.2,hI o.nd (by rw [<-c1];exact c0)
    let⟨c3,a3,B,ca,c4,d0⟩:=fZ bt ge;rw [a3]at a2;obtain rfl:=aS a2;let⟨cs,a1,_⟩:=o.row _ _ ge;have kp:q.length<=100:=by have:=s6 cs a1;have:=s.bL;lia
    let⟨gl,go,bs,gt,g1⟩:=kk lw o.nd kp (.inl ⟨S,ge⟩) (i _ _ G) (i.keys bk) bt ds dx dK a3 ca c4 d0;exists c3,S,⟨B,ca⟩,_,S,_,S,c7,.ref co,S,⟨h0,pk (D N),bi,h _ _ h1,h.keys h2,S,(ad.ext.trans h).aP an,bm.symm⟩,B,co,cr,S,ca,c4,h _ _ a0,h.keys f1,gl,λ_=>ro s c8 dp dL,λg2=>absurd g2 go,λ_=>⟨_,_,bs,S,gt,g1⟩
   .
    have d1:D (a N)∉l.map (·.1):=λmA=>by let⟨y,c0,c1⟩:=bH.mp mA;let⟨c3,a3,_⟩:=fZ bt (hI o.nd (show(D (a N),y.2)∈l by rw [<-c1];exact c0));rw [a2]at a3;cases a3
    have kP:fK m w K (upd k f (dX m w f [])) f []:=⟨[],M,(λ_ r=>nomatch r),S⟩
    have t:=b8.add (p:=D (a N)) (ps:=[]) h (i _ _ G) (i.keys bk) bt ds dx dK b.new kP (tU as bl) (cB G as).symm (b.ext.none as) ga d1;have no:∀c2 em,ab c2=Y em->upd (upd k f (dX m w f [])) ex (dX m w ex (cy e (pk (D (a N))) cn (.ref f))) c2=Y em:=λc2 em r=>t.ext c2 em r
    have f2:((l++[(D (a N),([]:List Pr))]).map (·.1)).Nodup:=by
     rw [aT];refine gC.mpr ⟨o.nd,by simp,λu x v mC kw=>?_⟩;have:v=D (a N):=bb.mp mC
     rw [kw,this]at x;exact d1 x
    have kV:f≠ex:=(cB G as).symm;let⟨a1,ct,f4,f8,dT⟩:=Pw (p:=D (a N)) (ps:=[]) h (i _ _ G) (i.keys bk) bt ds dx dK b.new kP (tU as bl) kV (b.ext.none as) ga d1;have ca:upd (upd k f (dX m w f [])) ex (dX m w ex (cy e (pk (D (a N))) cn (.ref f))) f=Y (dX m w f []):=(ah kV).trans M
    let⟨gl,go,bs,gt,g1⟩:=kk (q:=[]) t f2 (cP _) (.inr ⟨S,d1,S⟩) M a1 ct f4 f8 dT (Px a2) ca (λ_ r=>nomatch r) S;exists f,S,⟨[],ca⟩,_,S,_,S,c7,.ref co,S,⟨h0,pk (D N),bi,t.ext _ _ h1,t.ext.keys h2,S,(ad.ext.trans t.ext).aP an,bm.symm⟩,[],co,cr,S,ca,(λ_ r=>nomatch r),t.ext _ _ a0,t.ext.keys f1,gl,λ_=>ro s c8 dp dL,λg2=>absurd g2 go,λ_=>⟨_,_,bs,S,gt,g1⟩
 rintro E k ⟨al,fm,c5,rfl,k0,o⟩;have k1:pB j a (aq j).length c5:=by rw [z,bO db,z]at o;exact o
 intro bv k2;have i:Ext k (upd k bv (dX m w bv [])):=Ext.one k2
 have ap:=ad.ext.trans k0.ext;have h:=ap.trans i
 let a4:aA->List Pr:=λC=>(ba c5 (D (a C))).getD [];exists _,S,ce,d,id,ii,_,S,h _ _ io,c6.p.c,c6.p.places,is,im,S,⟨_,h.ee c9⟩,?_;have k3:∀C∈aq j,∃fa,ba c5 (D (a C))=Y fa/\fa.Nodup/\(∀ci∈fa,∃X∈bp j,ci=a6 X)/\∀X,a6 X∈fa↔jh j a C X:=λC g3=>by let⟨fa,a5⟩:=k1.has C (by rw [dB];exact g3);let⟨cs,a1,ct⟩:=k1.row _ _ a5;exists fa,a5,cs,a1,λX=>(ct X).trans ?_;rw [dB];unfold jh;exists λ⟨N,F,bm,a0⟩=>⟨N,F,d4 bm,a0⟩,λ⟨N,F,bm,a0⟩=>⟨N,F,by rw [bm],a0⟩
 let dd:VLx:=λeq E bd=>∃al,E=[Y (.ref ce),Y (.ref c),Y (.ref c7),Y (.ref ex),al,Y (.ref bv)]/\b8 m w K k bd bv ((tabOf j a4).take eq);refine fw (xs:=ch.map V.ref) dd ?_ ?_ ?_ ?_
 .exact⟨_,S,tV k2⟩
 .rintro eq E bd _ ⟨_,_,b⟩;exact(ap.trans b.ext).ee c9
 .rintro eq ci E bd n ⟨al,rfl,b⟩;rw [bh]at n;cases am:ch[eq]? with
  |none=>rw [am]at n;cases n
  |some bi=>
   rw [am]at n;obtain rfl:=aS n;let⟨ls,dl,an⟩:=ey db am;let⟨N,cl,rfl,mF,mL,lk⟩:=yy (R:=a4) s dl;have h:=ap.trans b.ext
   let⟨fn,cn,fr,fs,fT,f0⟩:=hs.get s (hz.ext h) cl;let⟨fa,a5,hd,he,k5⟩:=k3 N cl;let⟨e,G,bk,bl,ds,dx,dK⟩:=(k0.on b.ext).ex;let⟨c3,a3,es,ca,c4,d0⟩:=fZ bl a5;have hf:a4 N=fa:=by show(ba c5 (D (a N))).getD []=fa;rw [a5];rfl
   have mM:jJ m w es:=yp d0 hd λci n=>by let⟨X,mN,rfl⟩:=he ci n;exact yq s mN
   exists _,S,_,S,_,S,c,_,S,⟨fn,pk (D N),bi,fr,fs,S,h.aP an,fT.symm⟩,ex,.ref c3,S,⟨e,pk (D (a N)),cn,G,bk,S,f0,a3.symm⟩,c3,es,S,ca,c4,mM,λg la=>?_;have ev:Ext bd (upd bd g (dX m w g es)):=Ext.one la
   let⟨mP,mR,mT,m0,m1⟩:=b.next (ps:=a4 N) ev ⟨es,M,ev.keys c4,by rw [hf];exact d0⟩ la (ev.aP (h.aP an)) mL lk;dsimp only [dd];rw [mF];exists _,S,_,S,bv,mP,pk (D N),bi,S,mR,mT,S,ev.aP (h.aP an),m0,_,S,m1
 .rintro E bd ⟨al,rfl,b⟩;have:((tabOf j a4).take (ch.map V.ref).length)=tabOf j a4:=by
   rw [j4];rw [z,bO db,z];unfold tabOf;rw [z];exact aR _
  rw [this]at b;exists _,S,li bv bd _ (b.from ap) (yx s λC g3=>?_);let⟨fa,a5,hd,he,k5⟩:=k3 C g3;have hf:a4 C=fa:=by show(ba c5 (D (a C))).getD []=fa;rw [a5];rfl
  rw [hf];exists hd,he,k5
abbrev yI:a8:=top 57
def f3.snoc{H:U}{c v:Z}(i:H c=Y (dX m p c pu))(j:cb K H pu)(f:pu.map (·.1)=re.map pk)(l:cE (λ(b:List Key×Z×V) v=>∃d,b.2.2=.ref d/\ax K H d (b4 v)) pu KK)(A:sc∉re)(n:ax K H d (b4 sc))(o:ax K H v (b4 Ch)):f3 m p K (upd H c (dX m p c (cy pu (pk sc) d (.ref v)))) c (re++[sc]) (KK++[Ch]):=by
 have z:cX (H c)\/H c=O:=.inl (i▸trivial);have D:cm pu (pk sc)=O:=by
  have:=kJ f sc;rw [bU A]at this;cases e:cm pu (pk sc)with
  |none=>rfl
  |some v=>rw [e]at this;cases this
 have g:=iw (k:=pk sc) d (.ref v) D;exists cy pu (pk sc) d (.ref v),M,(ly j _ n).same λs t=>bF z,?_,?_
 .rw [g,aT,aT,f];rfl
 .have Ch:cE (λ(b:List Key×Z×V) q=>∃h,b.2.2=.ref h/\ax K (upd H c (dX m p c (cy pu (pk sc) d (.ref v)))) h (b4 q)) (pu++[(pk sc,d,.ref v)]) (KK++[Ch]):=fL (Paired.b9 l λu v Ch=>let⟨d,e,r⟩:=Ch;⟨d,e,bF z r⟩) ⟨v,S,bF z o⟩;rw [g]at Ch⊢;exact Ch
def Pz:((aq pi).map λz=>D (t3 z)).map (jT (D v2) (D or))=(aq pi).map λz=>D (joinR t3 v2 or z):=by
 rw [d6];refine gE λz _=>?_;show(if D (t3 z)=D or then D v2 else D (t3 z))=D (if t3 z=or then v2 else t3 z)
 by_cases c:t3 z=or
 .rw [ai c,ai (by rw [c])]
 .rw [N c,N λU=>c (d4 U)]
inductive t2 (m:aw) (p:au) (K:af) (M N:Z) (S:List V) (H:U) (T:VK) (a:XK):Prop
 |mk(P e:_)(_:S=[.ref P])(_:cg K M N H P e)(_:∀c A z,Ext H A->H c=O->hs m p K A c e z->jg e z->(∀P∈aq e,∀D∈aq e,Eqv e P D->z P=z D)->T (.ref c) A)
def PB(fs:a9 K "last_classes" "last_classes" yI Q pc)(co:eE K d q)(fT:g_ 3 "table_of_classes" ["program","classes"] (yH m p K d q)) (f0:g_ 4 "ways_of" ["program","table"] (rk m p K d q)) (f1:g_ 1 "put_together" ["classes","kept","lost"] (EE m p K)):f_ 5 Q pc ["program"] (t2 m p K d q):=by
 refine fs.go ["program","classes","place","joined","ways","begin","end"] λf2 f4 k3 h H k5 la lb al a cn R sz=>?_;let⟨e,N,rfl,am,f8⟩:=a;have u:=am.ok
 have ga:(f4.deeper (eI "last_classes" (eg yI) h.heap.objs.size Q f2)).units+64<cK:=by have:=al.un;lia
 exists _,ar (bj 1 cn ky) (ar (d3 dZ S (dC (aF 0)) (bX 2 cn) (ay (i4 R (T 1) (T 2) (T 2) S))) (ar (bj 3 cn hx) (ar (oh dZ (kn (T 3)) (ar (bj 3 cn hx) (ar (bj 4 cn (bI f0 al (A (T 0) (A (bI fT (al.mo 3) (A (T 0) (aJ 1))) aC)))) (ay (d3 dZ S (dC (T 4)) (lj S (gT (bX 5 cn) (gT (bX 6 cn) lh))) (ay (bK (bS (JX ga) (ff R (T 1) (T 5) (λ_ _=>S)) (ff R (T 1) (T 6) (λ_ _=>S)) (bV _)) (ar (cM (bI f1 (al.mo 1) (A (T 1) (A (ff R (T 1) (T 5) (λ_ _=>S)) (A (ff R (T 1) (T 6) (λ_ _=>S)) aC))))) (ay (bj 3 cn hx))) bQ))))))) (ay (aQ (T 1)))))),?_;let⟨ge,gl,go,cr,gt,g1,cs,ct⟩:=am.places;have g2:=nt u
 have c0:=lV u;intro c an;have bl:Ext H (upd H c (dX m p c [])):=Ext.one an
 exists _,S,e,d,ge,gl,_,S,bl _ _ gt,co.p.c,co.p.places,g1,go,S,⟨_,bl.ee cs⟩,?_;let ap:VLx:=λG i r=>∃n,A3 (i=[Y (.ref e),Y (.ref c),n,O,O,O,O]) (f3 m p K r c (((aq N).map D).take G) (((aq N).map D).take G)) (Ext H r)
 refine fw (xs:=cr.map V.ref) ap ?_ ?_ ?_ ?_
 .exact⟨O,S,⟨[],M,(λ_ a=>nomatch a),S,.nil⟩,bl⟩
 .rintro G i r _ ⟨_,_,_,f⟩;exact f.ee cs
 .rintro G f i r j ⟨n,rfl,⟨bm,o,F,c1,g3⟩,f⟩;rw [bh]at j;cases v:cr[G]? with
  |none=>rw [v]at j;cases j
  |some hd=>
   rw [v]at j;obtain rfl:=aS j;let⟨c2,c3,bn⟩:=ey ct v;have lc:bm.length<=90:=by
    have:=bD cN c1;rw [z,z,dU]at this
    lia
   have he:((aq N).map D).take (G+1)=((aq N).map D).take G++[c2]:=by rw [dq,c3];rfl
   dsimp only [ap];rw [he];exists _,S,_,S,_,S,c,bm,pk c2,hd,S,o,F,S,f.aP bn,by lia,_,S,f3.snoc o F c1 g3 (yi c0 c3) (f.aP bn) (f.aP bn),f.upd an
 rintro i r ⟨n,rfl,c4,hf⟩;rw [z,bO ct,dB]at c4;let hi:VLx:=λc5 i r=>X6 λn c6 x B g b=>A6 (i=[Y (.ref e),Y (.ref c),n,Y (.bl g),c6,x,B]) (hs m p K r c N b) (Ext H r) (jg N b) (g=ao->∀h ad,h∈aq N->ad∈aq N->ec N (λe s=>e∈aq N/\jh N b e s) h ad->b h=b ad) (c5=lM N b*2+(if g=I then 1 else 0))
 exists hi,⟨_,n,O,O,O,I,id,S,c4,hf,Nj N,(λa=>by cases a),S⟩,?_;rintro c5 i hm ⟨n,c6,x,B,g,bk,rfl,as,a0,a1,hz,rfl⟩;exists _,S,_,S,?_;cases g with
 |false=>exact b1 ⟨_,S,f8 c hm bk a0 an as a1 (Nm a1 (hz S))⟩
 |true=>
 refine cf ⟨_,(λld le a=>a),?_⟩;exists _,S,_,S,_,S,e,N,c,bk,S,am.ext a0,as,λh0 lf W a2 C=>?_;exists e,cV N,h0,W,S,(am.ext (a0.trans a2.ext)).prog,a2.at,C.ok u,λX li h1 c7 ⟨a3,c8,c9⟩=>?_;have db:=a2.ext.trans h1
 have h2:∀e s,bT W e s->e∈aq N/\jh N bk e s:=λe s a=>⟨C.lL a,(C.mZ (C.lL a) s).mp a⟩
 have ii:∀{G:Nat} {f:Wy},(fA (cV N) W (cV N).nodes.length)[G]?=Y f->∃k l,f=(D k,D l)/\k∈aq N/\l∈aq N/\Eqv N k l:=λ{G f} a=>by let⟨k,l,im,io,is,it,ix⟩:=tr u C (cG (show _=Y (f.1,f.2)from a));exists k,l,kf im io,is,it,Nl a1 h2 ix
 have jp:X≠c:=by let⟨bm,o,_⟩:=as;intro ab;rw [ab,a2.ext _ _ o]at c7;cases c7
 exists _,S,X,S,⟨_,av.of c8⟩,?_;let ap:VLx:=λa4 i E=>X4 λx B g b=>A9 (i=[Y (.ref e),Y (.ref c),n,Y (.bl g),Y (.ref X),x,B]) (hs m p K E c N b) (Ext H E) (jg N b) (lM N b<=lM N bk) (g=I->lM N b<lM N bk) (g=ao->b=bk/\∀G<a4,∀h ad,(fA (cV N) W (cV N).nodes.length)[G]?=Y (D h,D ad)->bk h=bk ad) (E X=Y (.lst (a3.map V.ref))) (cE (da K E) a3 (fA (cV N) W (cV N).nodes.length))
 refine fw (xs:=a3.map V.ref) ap ?_ ?_ ?_ ?_
 .exact⟨_,_,ao,bk,S,as.ext db,a0.trans db,a1,aR _,(λa=>by cases a),λ_=>⟨S,λG t=>absurd t (k8 _)⟩,c8,c9⟩
 .rintro a4 i E _ ⟨_,_,_,_,_,_,_,_,_,_,_,a,_⟩;exact av.of a
 .rintro a4 f i E j ⟨x,B,g,b,rfl,w,a5,bd,dd,bs,be,bt,bi⟩;rw [bh]at j;cases v:a3[a4]? with
  |none=>rw [v]at j;cases j
  |some kk=>
   rw [v]at j;obtain rfl:=aS j;let⟨y,dl,dp,ds,kp,dx,dK⟩:=ey bi v;let⟨k,l,rfl,dL,dT,ks⟩:=ii dl;let⟨d0,kt,d1,em,eq,es⟩:=hs.get u w dL;let⟨ev,kw,ex,fa,fd,fl⟩:=hs.get u w dT;exists kk,_,S,kp,S,_,_,S,_,_,S,S,?_;exists _,S,_,S,c,_,S,⟨d0,pk (D k),dp,d1,em,S,dx,eq.symm⟩,_,S,_,S,c,_,S,⟨ev,pk (D l),ds,ex,fa,S,dK,fd.symm⟩,Pm es fl ⟨_,S,?_⟩;rw [yE];by_cases bv:b k=b l
   .rw [cq bv];refine b1 ⟨_,_,g,b,S,w,a5,bd,dd,bs,λca=>?_,bt,bi⟩;let⟨o,F⟩:=be ca;exists o,λG t h ad cd=>?_;rcases kg.mp t with t|rfl
    .exact F G t h ad cd
    .rw [dl]at cd;injection (aS cd)with ce ch;obtain rfl:=d4 ce;obtain rfl:=d4 ch;rwa [<-o]
   .rw [bU bv];let⟨kP,lm⟩:=Nk bd dL dT ks bv;refine cf ⟨_,S,_,S,_,S,c,_,S,⟨d0,pk (D k),dp,d1,em,S,dx,eq.symm⟩,_,S,_,S,c,_,S,⟨ev,pk (D l),ds,ex,fa,S,dK,fd.symm⟩,c,kt,kw,_,_,D (b k),D (b l),S,c0,g2,w,es,fl,λln fm ci fn=>?_⟩;rw [Pz]at fn;exists _,_,I,joinR b (b k) (b l),S,fn,λcl fr a=>fm cl fr (a5 cl fr a) (by intro ab;rw [ab,an]at a;cases a),kP,by lia,λ_=>by lia,(λa=>by cases a),fm _ _ bt jp,Paired.b9 bi λcl lo ab=>?_;let⟨kV,k0,ce,ch,k1⟩:=ab;exists kV,k0,ci _ _ ce,ci _ _ ch,ci _ _ k1
 .rintro i E ⟨x,B,g,b,rfl,w,a5,bd,dd,bs,be,bt,bi⟩;rw [z,bO c9]at be;exists _,?_,n,Y (.ref X),x,B,g,b,S,w,a5,bd,λca h ad lp ls hw=>?_,S
  .cases g with
   |true=>have:=bs S;simp only [eQ];lia
   |false=>simp only [eQ,nL,ie];lia
  .obtain⟨o,F⟩:=be ca;subst o;have k2:=hw.mono λe s a=>(C.mZ a.1 s).mpr a.2
   let⟨G,t⟩:=hR.mp (tu u C k2);exact F G (cF.mp t).1 h ad t
abbrev EH:a8:=top 67
inductive t4 (m:aw) (p:au) (K:af) (D M:Z) (N:List V) (H:U) (S:VK) (T:XK):Prop
 |mk(P e:_)(n:Nat)(_:N=[.ref P,.int (n:Nat)])(_:cg K D M H P e)(_:∀z A tab,b8 m p K H A z tab->bM e tab (gs e (gr e n))->S (.ref z) A)
def pC(A D:Nat):decide (V.int ((A:Nat):Int)=V.int ((D:Nat):Int))=decide (A=D):=by rw [hb];exact⟨λz=>by injection z with z;lia,λz=>by rw [z]⟩
def PD{o:bc}(r:a9 K "table_of_rung" "table_of_rung" EH Q o){u:dD}(v:L "EVERYTHING"=Y (.int 0 wT))(x:L "BY_KINDS"=Y (.int 1 UV))(y:L "BOTH_WAYS"=Y (.int 2 u))(B:g_ 2 "everything_table" ["program"] (Ew m p K d q)) (C:g_ 6 "kinds_table" ["program"] (EA m p K d q)) (E:g_ 3 "table_of_classes" ["program","classes"] (yH m p K d q)) (F:g_ 5 "last_classes" ["program"] (t2 m p K d q)) (w:g_ 5 "least_table" ["program"] (tT m p K d q)):f_ 7 Q o ["program","rung"] (t4 m p K d q):=by
 refine r.go ["program","rung"] λa0 a1 a2 a3 H a4 a5 bd i G be _ _=>?_;let⟨h,D,z,rfl,g,j⟩:=G;have n:=i.mo 5
 exists _,ar (bK (bS cT (T 1) (b7 v) (bV _)) (ay (aQ (bI B (i.mo 2) (aJ 0)))) bQ) (ar (bK (bS cT (T 1) (b7 x) (bV _)) (ay (aQ (bI C i (aJ 0)))) bQ) (ar (bK (bS cT (T 1) (b7 y) (bV _)) (ay (aQ (bI E (i.mo 3) (A (T 0) (A (bI F n (aJ 0)) aC))))) bQ) (ay (aQ (bI w n (aJ 0)))))),?_;exists _,S,S,_,S,?_;have R:decide (V.int ((z:Nat):Int)=V.int 0)=decide (z=0):=pC z 0
 have W:decide (V.int ((z:Nat):Int)=V.int 1)=decide (z=1):=pC z 1;have X:decide (V.int ((z:Nat):Int)=V.int 2)=decide (z=2):=pC z 2
 rw [R];by_cases k:z=0
 .subst k;exact cf ⟨_,S,h,D,S,g,λM U a b e=>j M U a b e⟩
 rw [bU k];refine b1 ⟨_,S,S,_,S,?_⟩;rw [W];by_cases l:z=1
 .subst l;exact cf ⟨_,S,h,D,S,g,λM U a b e=>j M U a b e⟩
 rw [bU l];refine b1 ⟨_,S,S,_,S,?_⟩;rw [X];by_cases f:z=2
 .subst f;refine cf ⟨_,S,_,S,h,D,S,g,λc bi ab s _ ad al am=>?_⟩;exists h,D,c,ab,S,g.ext s,ad,λM U a b e=>j M U a (b.from s) (e.congr λbk an ap=>Nn g.ok al am an ap)
 rw [bU f];have as:gr D z=gn D:=by unfold gr;rw [N k,N l,N f]
 exact b1 ⟨_,S,h,D,S,g,λM U a b e=>j M U a b (as▸e)⟩
abbrev EI:a8:=top 54
def PF(U:bG pi)(a:or∈aq pi){M:Ex}(b:M∈aG pi)(c:ag M=(D or).2):(e9 pi or).map D=if(D or).1=0/\(aB M=.call\/aB M=.fst\/aB M=.snd\/aB M=.get)then [(0,dG (infos O pi) (D or).2)]
  else if(D or).1=1/\aB M=.fn then(cz (infos O pi) λN=>decide (N=.call)).map λT=>(0,dG (infos O pi) T)
  else if(D or).1=4 then(cz (infos O pi) λN=>decide (N=.set)).map λT=>(0,dG (infos O pi) T)else []:=by
 rw [<-Nt U a];let⟨e,d⟩:=U.info b;unfold xv;rw [<-c,d];rfl
def EJ{c:Z}{H:U}(S:cg K d c H q pi){fm:Fm}(e:∀z∈aG pi,aB z=fm->∃A M,kids z=A::M){u:Nat}(f:u∈cz (infos O pi) λg=>decide (g=fm)):∃z A M,z∈aG pi/\ag z=u/\kids z=A::M/\dG (infos O pi) u=ag A:=by let⟨z,N,T,h⟩:=(tw S.ok _).mp f;let⟨A,M,a⟩:=e z N (eB h);exists z,A,M,N,T,a,T▸S.ok.part N a
def yJ{x:Ex}{A:Fm}(D:aB x=A)(z:A=.call\/A=.fst\/A=.snd\/A=.get\/A=.set):∃M N,kids x=M::N:=by
 cases x with
 |num b n=>rcases z with rfl|rfl|rfl|rfl|rfl<;>cases D
 |var b y=>simp only [aB]at D;split at D<;>(subst D;rcases z with z|z|z|z|z<;>cases z)
 |fn b y d=>exists _,_,S
 |app b a d=>exists _,_,S
 |letE b y a d=>exists _,_,S
 |ifz b a d c=>exists _,_,S
 |pair b a d=>exists _,_,S
 |fst b a=>exists _,_,S
 |snd b a=>exists _,_,S
 |new b a=>exists _,_,S
 |get b a=>exists _,_,S
 |set b a d=>exists _,_,S
 |add b a d=>exists _,_,S
inductive EK (K:af) (M N:Z) (S:List V) (H:U) (T:VK) (c:XK):Prop
 |mk(p e b a:_)(_:S=[.ref p,.ref b])(_:cg K M N H p e)(_:a∈aq e)(_:ax K H b (b4 (D a)))(_:∀z A,Ext H A->H z=O->eO K A z ((e9 e a).map D)->T (.ref z) A)
variable{WV:dD}
def PJ(db:a9 K "places_that_steer" "places_that_steer" EI d pc)(b:eE K q Q)(dx:L "NODE_PLACE"=Y (.int 0 wT))(dK:L "NAME_PLACE"=Y (.int 1 UV))(dL:L "INSIDE_PLACE"=Y (.int 4 Wm))(dT:L "CALL"=Y (.str "a call" WV))(dX:h_ 2 q "calls_within" ["self"] (yg K q Q)) (ch:h_ 1 q "first_part_of" ["self","label"] (tQ K q Q)) (d0:g_ 1 "labels_of" ["nodes","forms"] (rm K Q)):f_ 3 d pc ["program","place"] (EK K q Q):=by
 refine db.go ["program","place","kind","form","call","put"] λhe hf hi R H hm hz h0 c4 l W _ sz=>?_;let⟨h,c,X,i,rfl,G,c5,ci,f⟩:=l;have ab:=G.ok
 have bm:=c4.mo 1;exists _,ar (bj 2 W (cc ku (T 1) cL (λ_ _=>S))) (ar (bj 3 W (fQ (cc dk (aF 0) (cc ku (T 1) cL (λ_ _=>S)) (λ_ _=>S)) S)) (ar (bK (PW.pt (vv (bS cT (T 2) (b7 dx) (bV _)) (vt (bS vU (T 3) (b6 (A (hl dT) (A dP (A dP (A dP aC))))) S)))) (ay (aQ (de (A (eL (E:=E0) (T 0) ch bm cx (A (cc ku (T 1) cL (λ_ _=>S)) aC)) aC)))) bQ) (ar (bK (PW.pt (vv (bS cT (T 2) (b7 dK) (bV _)) (vt (bS cT (T 3) dP (bV _))))) (ay (aQ (fU (own:=[("call",4)]) S W (dC (dR (E:=E0) (T 0) dX c4 cx)) (e3 S) (λR H q r ap=>bX 4 W) (λR H q r ap=>hB) (λR H q r ap=>eL (E:=E0) (T 0) ch bm cx (aJ 4))))) bQ) (ar (bK (bS cT (T 2) (b7 dL) (bV _)) (ay (aQ (fU (own:=[("put",5)]) S W (dC (bI d0 bm (A (aF 0) (A (b6 (A dP aC)) aC)))) (e3 S) (λR H q r ap=>bX 5 W) (λR H q r ap=>hB) (λR H q r ap=>eL (E:=E0) (T 0) ch bm cx (aJ 5))))) bQ) (ay (aQ (de aC))))))),?_;let⟨a,bn,bs,_⟩:=pe ab c5;let⟨d1,em,eq,h1,es,c6,ev,ex,fa,h2,c7,fd⟩:=G.node bn;let⟨fl,fn,fr,fs⟩:=fd.aK;rw [PF ab c5 bn bs]at f;rw [bs]at c7;let⟨bt,id,ii,im,io,is,bv,_⟩:=G.ex;have fT:∀{c8:U},Ext H c8->ax K c8 X (b4 (D i)):=λa=>a.aP ci
 exists _,S,X,_,_,_,S,S,ci,S,?_;exists _,S,h,q,d1,em,_,S,ev,b.p.c,b.p.nodes,ex,_,S,X,_,_,_,S,S,ci,S,eq,_,_,_,S,S,av.of fa,e2 (by rw [bh,c7];rfl),es,Q,fl,fn,_,S,fr,b.n.cl,b.n.aK,fs,?_;have f0:decide (V.int (((D i).1:Nat):Int)=V.int 0)=decide ((D i).1=0):=pC _ 0
 have ad:decide (V.int (((D i).1:Nat):Int)=V.int 1)=decide ((D i).1=1):=pC _ 1;have cl:decide (V.int (((D i).1:Nat):Int)=V.int 4)=decide ((D i).1=4):=pC _ 4
 exists _,S,S,_,S,?_;rw [f0];by_cases ca:(D i).1=0
 .rw [cq ca];refine cf ⟨_,S,(by decide),λas cn=>⟨as,_,S,.inr (ax.of M),S,S,_,S,?_⟩⟩;have f1:=tL (aB a) [.call,.fst,.snd,.get]
  have f2:jE (.str (cO (cZ c6 a).aK)) [.str "a call",.str "fst",.str "snd",.str "get"]=decide (aB a∈[Fm.call,.fst,.snd,.get]):=f1;rw [N d5,f2];have n:Ext H (upd H as (.tup [.str "a call",.str "fst",.str "snd",.str "get"])):=Ext.one cn
  by_cases o:aB a∈[Fm.call,.fst,.snd,.get]
  .rw [cq o];have cd:aB a=.call\/aB a=.fst\/aB a=.snd\/aB a=.get:=by simpa using o
   rw [ai ⟨ca,cd⟩]at f;let⟨al,f4,am⟩:=yJ (x:=a) S (by rcases cd with l|l|l|l<;>simp [l]);have a0:dG (infos O c) (D i).2=ag al:=by rw [<-bs];exact ab.part bn am
   rw [a0]at f;refine cf ⟨_,S,h,bt,_,S,n _ _ bv,S,_,S,X,_,_,_,S,S,fT n,S,h,c,a,al,f4,by rw [bs];rfl,G.ext n,bn,am,λs g e c9 a1=>⟨eN,λt j=>?_⟩⟩;exact f t _ ((n.trans e).new j) ((n.trans e).none j) ⟨[s],M,.cons ((Ext.one j).aP a1) .nil⟩
  .rw [bU o];have cd:¬((D i).1=0/\(aB a=.call\/aB a=.fst\/aB a=.snd\/aB a=.get)):=λk=>o (by simpa using k.2)
   rw [N cd,N (by lia),N (by lia)]at f;refine b1 ⟨_,S,S,_,S,?_⟩;rw [ad,bU (by lia)];refine b1 (b1 ⟨_,S,S,_,S,?_⟩);rw [cl,bU (by lia)];exact b1 ⟨cP _,λt j=>f t _ (n.new j) (n.none j) ⟨[],M,.nil⟩⟩
 .rw [bU ca];rw [N λk=>ca k.1]at f;refine b1 (b1 ⟨_,S,S,_,S,?_⟩);rw [ad];by_cases c3:(D i).1=1
  .rw [cq c3];refine cf ⟨_,S,S,_,S,?_⟩;have f8:decide (V.str (cO (cZ c6 a).aK)=V.str (dO "fun"))=decide (aB a=.fn):=rg (aB a) .fn
   rw [f8];by_cases o:aB a=.fn
   .rw [cq o];rw [ai ⟨c3,o⟩]at f;refine cf ⟨_,S,h,bt,_,S,bv,S,h,c,S,G,λco cr v ga an=>?_⟩;have ge:(cz (infos O c) λd=>decide (d=.call)).length<=30:=by
     have:=nr (infos O c) λd=>decide (d=.call);rw [eU]at this;exact cu this ab.bL
    exists co,S,⟨_,av.of an⟩,λw B=>?_;let cs:VCx:=λC g=>eO K g w (((cz (infos O c) λd=>decide (d=.call)).take C).map λct=>(0,dG (infos O c) ct))/\Ext cr g
    refine hC (xs:=(cz (infos O c) λd=>decide (d=.call)).map λa=>V.int (a:Nat)) cs ?_ ?_ ?_ ?_
    .exact⟨⟨[],M,.nil⟩,Ext.one B⟩
    .rintro C g _ ⟨_,e⟩;exact av.of (e _ _ an)
    .rintro C y g a2 ⟨⟨a3,c3,a4⟩,e⟩;rw [bh]at a2;let⟨u,a5,rfl⟩:=cv.mp a2;let⟨c0,al,c1,c2,ad,am,a0⟩:=EJ (fm:=.call) G (λa _ l=>yJ l (by simp)) (cG a5);have bd:=v.trans e
     exists S,?_;unfold hk;dsimp only [];rw [ai S];exists _,S,h,bt,_,S,bd _ _ bv,S,_,S,h,c,c0,al,c1,by rw [ad];rfl,G.ext bd,c2,am,λs be F c9 a1=>?_;have bi:=F _ _ c3
     have bk:cX (be w)\/be w=O:=.inl (by rw [bi];exact trivial);have r:a3.length<=30:=by rw [bO a4,z,dU];lia
     exists _,bi,by rw [z];lia,⟨a3++[s],by rw [M,aT];rfl,?_⟩,(e.trans F).upd B;rw [dq,a5,aT];refine fL (Paired.b9 (fJ.ext F a4) λX h k=>bF bk k) ?_;show ax K _ s (b4 (0,dG (infos O c) u))
     rw [a0];exact bF bk a1
    .rintro g ⟨bl,e⟩;rw [z,dB]at bl;exact f w g (v.trans e) (v.none B) bl
   .rw [bU o];rw [N λk=>o k.2,N (by lia)]at f;refine b1 ⟨_,S,S,_,S,?_⟩;rw [cl,bU (by lia)];exact b1 ⟨cP _,λt j=>f t _ (Ext.one j) j ⟨[],M,.nil⟩⟩
  .rw [bU c3];rw [N λk=>c3 k.1]at f;refine b1 (b1 ⟨_,S,S,_,S,?_⟩);rw [cl];by_cases ce:(D i).1=4
   .rw [cq ce];rw [ai ce]at f;let⟨gl,⟨go,gt,g1,g2⟩,g3⟩:=G.nodes;refine cf ⟨_,S,h,q,go,gt,_,S,g1,b.p.c,b.p.nodes,g2,eN,λas cn=>?_⟩;have n:Ext H (upd H as (.tup [.str "set"])):=Ext.one cn
    exists gl,infos O c,as,[.set],S,g3.ext n,by rw [eU];exact ab.bL,ax.of M,λco cr hd ga an=>?_;rw [tO]at an;have v:=n.trans hd
    have ge:(cz (infos O c) λd=>decide (d=.set)).length<=30:=by have:=nr (infos O c) λd=>decide (d=.set);rw [eU]at this;exact cu this ab.bL
    exists co,S,⟨_,av.of an⟩,λw B=>?_;let cs:VCx:=λC g=>eO K g w (((cz (infos O c) λd=>decide (d=.set)).take C).map λct=>(0,dG (infos O c) ct))/\Ext cr g
    refine hC (xs:=(cz (infos O c) λd=>decide (d=.set)).map λa=>V.int (a:Nat)) cs ?_ ?_ ?_ ?_
    .exact⟨⟨[],M,.nil⟩,Ext.one B⟩
    .rintro C g _ ⟨_,e⟩;exact av.of (e _ _ an)
    .rintro C y g a2 ⟨⟨a3,c3,a4⟩,e⟩;rw [bh]at a2;let⟨u,a5,rfl⟩:=cv.mp a2;let⟨c0,al,c1,c2,ad,am,a0⟩:=EJ (fm:=.set) G (λa _ l=>yJ l (by simp)) (cG a5);have bd:=v.trans e
     exists S,?_;unfold hk;dsimp only [];rw [ai S];exists _,S,h,bt,_,S,bd _ _ bv,S,_,S,h,c,c0,al,c1,by rw [ad];rfl,G.ext bd,c2,am,λs be F c9 a1=>?_;have bi:=F _ _ c3
     have bk:cX (be w)\/be w=O:=.inl (by rw [bi];exact trivial);have r:a3.length<=30:=by rw [bO a4,z,dU];lia
     exists _,bi,by rw [z];lia,⟨a3++[s],by rw [M,aT];rfl,?_⟩,(e.trans F).upd B;rw [dq,a5,aT];refine fL (Paired.b9 (fJ.ext F a4) λX h k=>bF bk k) ?_;show ax K _ s (b4 (0,dG (infos O c) u))
     rw [a0];exact bF bk a1
    .rintro g ⟨bl,e⟩;rw [z,dB]at bl;exact f w g (v.trans e) (v.none B) bl
   .rw [bU ce];rw [N ce]at f;exact b1 ⟨cP _,λt j=>f t _ (Ext.one j) j ⟨[],M,.nil⟩⟩
abbrev EL:a8:=inClass (top 103) 0
abbrev EM:a8:=inClass (top 103) 1
abbrev EN:a8:=inClass (top 103) 2
abbrev EO:a8:=inClass (top 103) 3
abbrev ER:a8:=top 106
structure rp(K:af)(z:Z):Prop where
 cl:fc K z
 t5:dF K z "numbers"
 nu:dF K z "reached"
def nv(z:Z)(A:Int):List (aa×V):=[("numbers",.ref z),("reached",.int A)]
def gz(K:af)(M:Z)(H:U)(N A:Z)(z:List Int)(D:Nat):Prop:=(∃S,H N=Y (.ins M S (nv A D)))/\av K H A (z.map V.int)/\D<=z.length/\z.length<=100000
inductive ES (K:af) (z:Z) (A:List V) (H:U) (D:VK) (M:XK):Prop
 |mk(a ln l i:_)(_:A=[.ref a])(_:gz K z H a ln l i)(_:D (.bl (decide (i<l.length))) H)
def PK(f:a9 K "has_more" "Row.has_more" EM q pc)(M:rp K d)(g:L "len"=O):f_ 1 q pc ["self"] (ES K d):=by
 refine f.go ["self"] λk l N n H o T G r h _ _ _=>?_;let⟨U,i,a,b,rfl,⟨⟨c,D⟩,j,s,t⟩,e⟩:=h;exists _,ay (aQ (oj sf (aF 0) (cR ej (by rfl) g dE (A (aF 0) aC)) (bV _))),?_;dsimp;exists _,S,U,d,c,_,_,S,D,M.cl,M.nu,S,_,S,U,d,c,_,_,S,D,M.cl,M.t5,S,i,_,S,.inl j,_,_,S,S,?_;rw [z];have:decide (((b:Nat):Int)<((a.length:Nat):Int))=decide (b<a.length):=by rw [hb];lia
 rw [<-this]at e;exact e
inductive yK (K:af) (D:Z) (S:List V) (H:U) (T:VK) (b:XK):Prop
 |mk(a ln l i z:_)(_:S=[.ref a])(_:gz K D H a ln l i)(_:l[i]?=Y z)(_:∀A,gz K D A a ln l (i+1)->bN a H A->(∀M N,ax K H M N->ax K A M N)->T (.int z) A)
def ET{H:U}{o:HO}(N:H d=Y (.ins Q pp Go))(z:av K H q ul):av K (upd H d o) q ul:=by
 rcases z with(z|⟨u,z⟩)|z
 .exact .inl (.inl (jm N z))
 .exact .inl (.inr ⟨u,ah (cW z N (by intro b;cases b))▸z⟩)
 .exact .inr z
def PL{c:bc}(f:a9 K "take_number" "Row.take_number" EN q c)(z:rp K d):f_ 1 q c ["self"] (yK K d):=by
 refine f.go ["self","number"] λw G r s H t u v x U g _ _=>?_;let⟨a,h,y,B,C,rfl,⟨⟨N,A⟩,D,E,i⟩,e,j⟩:=U;exists _,ar (bj 1 g (cc dk (aF 0) (aF 0) (λ_ _=>S))) (ar (vN (T 0) cL vO) (ay (aQ (T 1)))),?_;have k:=(cF.mp e).1
 exists _,S,a,d,N,_,_,S,A,z.cl,z.t5,S,_,S,a,d,N,_,_,S,A,z.cl,z.nu,S,h,_,_,_,S,S,D,e2 (by rw [bh,e];rfl),?_;exists _,S,a,d,N,_,_,S,A,z.cl,z.nu,S,_,_,S,S,N,_,A,(by show 2<1000;decide),_,S,?_;refine j _ ⟨⟨N,?_⟩,ET A D,k,i⟩ (λl o b n=>ah n▸b) λl F U=>bF (.inl (A▸trivial)) U;rw [M];rfl
inductive pD (K:af) (D:List V) (H:U) (M:VK) (N:XK):Prop
 |mk(a ps:_)(_:D=[.ref a])(_:LstAt K H a ps)(_:ps.length<=5000)(_:∀z A,Ext H A->H z=O->A z=Y (.lst ((ct ps).map V.int))->M (.ref z) A)
def PM(C:a9 K "counted_twos" "counted_twos" ER d pc)(E:L "len"=O):f_ 1 d pc ["twos"] (pD K):=by
 refine C.go ["twos","told","two"] λal am an ap H as a0 a1 a2 r t _ sz=>?_;let⟨f,a,rfl,⟨G,n,u⟩,a3,Q⟩:=r;exists _,ar (bj 1 t (de (A (cR ej (by rfl) E dE (aJ 0)) aC))) (ar (d3 dZ S (dC (T 0)) (bX 2 t) (ar (cM (fe fu gb gF fR (T 1) (A (cc ku (T 2) cL (λ_ _=>S)) aC))) (ay (cM (fe fu gb gF fR (T 1) (A (cc ku (T 2) cL (λ_ _=>S)) aC)))))) (ay (aQ (T 1)))),?_;exists _,S,f,_,S,.inl n,eN,λb i=>?_;have c:Ext H (upd H b (.lst [.int ((G.map V.ref).length:Int)])):=Ext.one i
 exists _,S,f,S,⟨_,c.ee n⟩,?_;have v:=bO u
 let g:Nat->List Int:=λD=>(a.length:Int)::(a.take D).flatMap λN=>[(N.1:Int),(N.2:Int)]
 have R:∀D,(g D).length<=2*D+1:=λD=>by
  have:∀j:List Pr,(j.flatMap λN=>[(N.1:Int),(N.2:Int)]).length=2*j.length:=by
   intro j;induction j with
   |nil=>rfl
   |cons f o W=>rw [b3,br,W,dn (a:=f)];show 2+_=_;lia
  rw [dn,this,dU]
  lia
 let X:VLx:=λD k s=>∃w,A3 (k=[Y (.ref f),Y (.ref b),w]) (s b=Y (.lst ((g D).map V.int))) (Ext H s);refine fw (xs:=G.map V.ref) X ?_ ?_ ?_ ?_
 .exact⟨O,S,by rw [M,z,v];rfl,c⟩
 .rintro D k s _ ⟨_,_,_,x⟩;exact x.ee n
 .rintro D x k s h ⟨w,rfl,e,c⟩;rw [bh]at h;cases q:G[D]? with
  |none=>rw [q]at h;cases h
  |some o=>
   rw [q]at h;obtain rfl:=aS h;let⟨l,y,B⟩:=ey u q;have a4:D<a.length:=(cF.mp y).1
   have a5:=R D;have ab:(g (D+1)).map V.int=(g D).map V.int++[V.int (l.1:Nat)]++[V.int (l.2:Nat)]:=by show((a.length:Int)::(a.take (D+1)).flatMap λN=>[(N.1:Int),(N.2:Int)]).map V.int=((a.length:Int)::(a.take D).flatMap λN=>[(N.1:Int),(N.2:Int)]).map V.int++[V.int (l.1:Nat)]++[V.int (l.2:Nat)];rw [dq,y,k4,<-dg,aT,ck];rfl
   have ad:cX (s b)\/s b=O:=.inl (by rw [e];exact trivial);exists _,S,.inl ⟨S,_,av.of e⟩,_,S,o,_,_,_,S,S,c.aP B,S,b,_,_,S,S,e,by rw [z];lia,?_;exists _,S,.inl ⟨S,_,av.of M⟩,_,S,o,_,_,_,S,S,bF ad (c.aP B),S,b,_,_,S,S,M,by rw [br,z];show(g D).length+1<aU;lia,?_;exists _,S,?_,(c.upd i).upd i;rw [M,ab]
 .rintro k s ⟨w,rfl,e,c⟩;rw [z,v]at e;exists _,S,Q b s c i ?_;rw [e];show Y (HO.lst (((a.length:Int)::(a.take a.length).flatMap λN=>[(N.1:Int),(N.2:Int)]).map V.int))=_
  rw [dB];rfl
def PN(A:List V)(z D:Nat):gH A (Y ((z:Nat):Int)) (Y (((z+D:Nat)):Int))=(A.drop z).take D:=by
 unfold gH;rw [HT.sk,HT.sk];by_cases c:z<=A.length
 .rw [ik c];by_cases M:z+D<=A.length
  .rw [ik M,Nat.add_sub_cancel_left]
  .rw [n7 (by lia),j4 (by rw [l7];lia),j4 (by rw [l7];lia)]
 .rw [n7 (by lia),n7 (by lia),kd,mi,zY (by lia),TY]
inductive EU (K:af) (D:Z) (S:List V) (H:U) (T:VK) (b:XK):Prop
 |mk(a ln l i:_)(t:aj)(rest:_)(_:S=[.ref a])(_:gz K D H a ln l i)(_:l.drop i=(t.length:Int)::(gu t++rest))(_:∀A z,gz K D z a ln l (i+1+t.length)->bN a H z->(∀M N,ax K H M N->ax K z M N)->H A=O->A≠a->z A=Y (.lst (cJ t))->T (.ref A) z)
def PQ(y:a9 K "take_text" "Row.take_text" EO q pc)(U:rp K d)(B:h_ 1 d "take_number" ["self"] (yK K d)):f_ 2 q pc ["self"] (EU K d):=by
 refine y.go ["self","length","text"] λa2 a3 a4 a5 H bd be bi C i n _ _=>?_;let⟨l,w,a,D,A,G,rfl,r,s,F⟩:=i;exists _,ar (bj 1 n (dR (E:=E0) (T 0) B C cx)) (ar (bj 2 n (qx qz (aF 0) (oq (aF 0)) (oq (hg se (aF 0) (T 1))))) (ar (vN (T 0) (T 1) vO) (ay (aQ (T 2))))),?_;let⟨⟨N,Q⟩,bk,bl,R⟩:=id r;have W:a[D]?=Y (A.length:Int):=by
  have:(a.drop D)[0]?=Y (A.length:Int):=by rw [s];rfl
  rwa [HC,j9]at this
 have t:a.drop (D+1)=gu A++G:=by
  have:(a.drop D).drop 1=gu A++G:=by rw [s];rfl
  rwa [HD]at this
 exists _,S,l,N,_,S,Q,S,l,w,a,D,(A.length:Int),S,r,W,λf X u ab=>?_;let⟨⟨e,b⟩,v,bm,bn⟩:=id X;exists _,S,l,d,e,_,_,S,b,U.cl,U.t5,S,?_;exists _,S,l,d,e,_,_,S,b,U.cl,U.nu,S,_,S,_,S,l,d,e,_,_,S,b,U.cl,U.nu,S,_,S,_,_,S,S,_,S,w,_,S,v,λg j=>?_;have ad:gH (a.map V.int) (Y ((D+1:Nat):Int)) (Y (((D+1:Nat):Int)+(A.length:Int)))=cJ A:=by
  have al:((D+1:Nat):Int)+(A.length:Int)=((D+1+A.length:Nat):Int):=by lia
  rw [al,PN,<-List.map_drop,t,aT];have am:(gu A).map V.int=cJ A:=by unfold gu cJ;rw [d6];rfl
  rw [am,TZ (by unfold cJ;rw [z];exact aR _),j4 (by unfold cJ;rw [z];exact aR _)]
 have k:=(cB b j).symm;have c:Ext f (upd f g (.lst (cJ A))):=Ext.one j
 have an:upd f g (.lst (gH (a.map V.int) (Y ((D+1:Nat):Int)) (Y (((D+1:Nat):Int)+(A.length:Int)))))=upd f g (.lst (cJ A)):=by rw [ad]
 rw [an];have ap:D+1+A.length<=a.length:=by
  have:=bD cN t;rw [l7,br]at this;have bs:(gu A).length=A.length:=by unfold gu;rw [z]
  lia
 exists _,S,l,d,e,_,_,S,c _ _ b,U.cl,U.nu,S,_,S,_,_,S,S,e,_,c _ _ b,(by show 2<1000;decide),_,S,?_;refine F g _ ⟨⟨e,?_⟩,ET (c _ _ b) (c.ee v),ap,R⟩ (λh o as x=>ah x▸c h o (u h o as x)) (λh a0 i=>bF (.inl (c _ _ b▸trivial)) (c.aP (ab h a0 i))) (u.none j k) k ((ah k).trans M);rw [M];have a1:(((D+1+A.length:Nat)):Int)=((D+1:Nat):Int)+(A.length:Int):=by lia
 rw [a1];rfl
abbrev EV:a8:=top 105
inductive EW (z:Z) (A:List V) (H:U) (D:VK) (M:XK):Prop
 |mk(a b ln:_)(_:A=[.ref a,.ref ln])(_:H a=Y (.ins z b []))(_:D .bw (upd H a (.ins z b (nv ln 0))))
def PR(b:a9 K "__init__" "Row.__init__" EL q pc)(A:rp K d):f_ 1 q pc ["self","numbers"] (EW d):=by refine b.go ["self","numbers"] λe f g h H i j k l c _ _ _=>?_;let⟨U,a,D,rfl,z,n⟩:=c;exists _,ar (dQ (T 0) (T 1) S) (ay (dQ (T 0) cL S)),?_;exists _,S,_,S,U,d,a,_,S,z,A.cl,A.t5,by decide,?_;exists _,S,U,d,a,_,S,M,A.cl,A.nu,(by show 1<1000;decide),?_;rwa [gS]
inductive yL (A:Z) (D:List V) (H:U) (M:VK) (N:XK):Prop
 |mk(z:Int)(_:D=[.int z])(_:if 0<=z/\z<4 then M .bw H else N (.ref A) O H)
def PU(b:a9 K "check_rung" "check_rung" EV Q pc)(A:L "NoRung"=Y (.ref q))(e:gP K q fV "Exception.__new__"=I)(f:L "RUNGS"=Y (.ref d))(g:∀H,ax K H d [.int 0,.int 1,.int 2,.int 3]):k_ 1 Q pc ["rung"] (yL q):=by
 refine b.et ["rung"] λk l M n H o G U h i _ _ _=>?_;let⟨z,rfl,D⟩:=i;exists _,ay (bK (bS AD (T 0) (ei (v:=.ref d) S f S) S) (ay (jH j8 (by decide) e S A h.hd)) bQ),?_;dsimp;exists _,S,d,_,S,.inr (g H),S,S,_,S,?_;have j:jE (.int z) [.int 0,.int 1,.int 2,.int 3]=decide (0<=z/\z<4):=by
  show((0==z)||((1==z)||((2==z)||((3==z)||ao))))=_;rw [ic];simp only [zi,iM,j5,nL,g8]
  lia
 rw [ai S,j];by_cases c:0<=z/\z<4
 .rw [ai c]at D;rw [cq c];exact b1 D
 .rw [N c]at D;rw [bU c];exact cf D
abbrev EX:a8:=top 79
abbrev yM:a8:=top 80
def pF(H:U)(D:Z)(G:Nat->Option Nat):Prop:=∃z,H D=Y (.dK z)/\∀A:Nat,cU z (.inl (A:Int))=(G A).map λM=>V.int (M:Nat)
def EY(K:af)(H:U)(A:VK):Option Pr->Prop
 |none=>A .bw H
 |some p=>∀D z,Ext H z->ax K z D (b4 p)->A (.ref D) z
inductive yN (K:af) (z:List V) (H:U) (A:VK) (D:XK):Prop
 |mk(b p d a:_)(_:z=[.ref b,.ref d])(_:ax K H b (b4 p))(_:pF H d a)(_:EY K H A (fj a p))
def PV(j:a9 K "moved_two" "moved_two" EX d pc):f_ 1 d pc ["two","moved"] (yN K):=by
 refine j.go ["two","moved"] λw q r s H t u v x l _ f _=>?_;let⟨N,z,g,U,rfl,a,⟨y,h,i⟩,D⟩:=l;exists _,ar (bK (i0 (Ki f (cc ku (T 0) cL (λ_ _=>S)) (T 1)) S) (ay (aQ vr)) bQ) (ay (aQ (b6 (A (cc ku (T 0) cL (λ_ _=>S)) (A (AS f (T 1) (cc ku (T 0) cL (λ_ _=>S)) (λ_ _=>S)) aC))))),?_;exists _,S,N,_,_,_,S,S,a,S,_,S,g,_,S,ir.k (k:=.inl (z.2:Int)) h,_,S,?_;rw [i z.2,kU];cases b:U z.2 with
 |none=>
  have c:fj U z=O:=by unfold fj;rw [b];rfl
  rw [c]at D;exact cf D
 |some n=>
  have c:fj U z=Y (z.1,n):=by unfold fj;rw [b];rfl
  rw [c]at D;refine b1 ⟨_,S,N,_,_,_,S,S,a,S,_,S,_,S,N,_,_,_,S,S,a,S,g,V.int (n:Nat),S,?_,cD,λe o=>D e _ (Ext.one o) (ax.of M)⟩;have:=ir.k (k:=.inl (z.2:Int)) h
  rw [i z.2,b]at this;exact this
inductive EZ (K:af) (z:List V) (H:U) (A:VK) (D:XK):Prop
 |mk(b p d a:_)(_:z=[.ref b,.ref d])(_:ax K H b (b4 p))(_:pF H d a)(_:EY K H A (fY a p))
def PX(h:a9 K "moved_sort" "moved_sort" yM d pc)(i:L "NUMBERS"=Y (.ref q))(j:∀H,ax K H q (b4 (0,0)))(k:g_ 1 "moved_two" ["two","moved"] (yN K)):f_ 2 d pc ["sort","moved"] (EZ K):=by
 refine h.go ["sort","moved"] λl a s n H t u x f o _ _ _=>?_;let⟨g,z,G,D,rfl,b,e,M⟩:=o;have r:(a.deeper (eI "moved_sort" (eg yM) n.heap.objs.size d l)).units+64<cK:=by have:=f.un;lia
 exists _,ar (bK (bS (v5 r) (T 0) (ei (v:=.ref q) S i S) (bV _)) (ay (aQ (T 0))) bQ) (ay (aQ (bI k f (A (T 0) (aJ 1))))),?_;exists _,S,?_;unfold tC;dsimp only;refine tZ b (j H) ⟨_,S,?_⟩;by_cases c:z=(0,0)
 .rw [cq c];have U:fY D z=Y z:=ai c
  rw [U]at M;exact cf ⟨_,S,M g H (Ext.refl H) b⟩
 .rw [bU c];have U:fY D z=fj D z:=N c
  rw [U]at M;exact b1 ⟨_,S,_,S,g,z,G,D,S,b,e,M⟩
def E1[DecidableEq sK](u:List sK)(A:sK):∃D,dW u A=u++D:=by
 unfold dW;split
 all_goals simp_all
theorem E2[DecidableEq sK]:∀(D u:List sK),∃A,cS u D=u++A
 |[],u=>⟨[],(b0 u).symm⟩
 |x::a,u=>by
  let⟨A,G⟩:=E1 u x;let⟨y,M⟩:=E2 a (dW u x)
  grind [cS]
def PY(z:List aA)(A:aA):dW (z.map D) (D A)=(dW z A).map D:=by grind [By,Bz,d4]
def eF(z:List aA)(A:Tb):Nat:=(z.map λG=>((ba A (D G)).getD []).length).sum
structure f5(z:ae)(A:aA)(D:List aA)(tab:Tb):Prop where
 nd:D.Nodup
 h0:A∈D
 lp:∀p∈D,iB z A p
 tt:bM z tab (bT tab)
 lt:∀p a,bT tab p a->jd z A p a
def iG(M:ae)(N:List aA)(S T:Tb):Prop:=∀z∈aq M,∃A G,ba S (D z)=Y A/\ba T (D z)=Y (A++G)/\(z∉N->G=[])
structure E3(D:ae)(z:List aA)(tab:Tb)(A:List aA):Prop where
 pre:∃M,A=z++M
 ask:∀N∈z,∀p∈e9 D N,p∈A
 way:∀G d,ec D (bT tab) G d->d∈z->G∈A
structure E4(z:ae)(A:List aA)(tab D:Tb):Prop where
 pre:iG z A tab D
 iz:∀p a,fG z p a->p∈A->bT D p a
 way:∀G d a,ec z (bT tab) G d->d∈A->bT tab G a->bT D d a
theorem f5.hK(A:f5 l v2 At o0)(D:v2∈aq l)(G:or∈At):or∈aq l:=A.lp or G _ (hY l) (w7 v2 D)
theorem len_sub[DecidableEq sK]:∀{A m:List sK},A.Nodup->(∀z∈A,z∈m)->A.length<=m.length
 |[],_,_,_=>cP _
 |a::d,m,b,c=>by
  rw [eh]at b;have N:=len_sub (m:=m.erase a) b.2 λz G=>(List.mem_erase_of_ne (λM:z=a=>b.1 (M▸G))).mpr (c z (bC _ G))
  grind
def f5.bound(N:bG l)(T:or∈aq l)(A:f5 l or At o0):At.length<=90/\eF At o0<=2790:=by
 have d:=places_len l;have f:=N.bL
 have g:=len_sub A.nd λG M=>A.hK T M;have a:At.length<=90:=by lia
 exists a,?_;have b:eF At o0<=(At.map λG=>((ba o0 (D G)).getD []).length).length*31:=xm λh c=>by let⟨G,M,rfl⟩:=bH.mp c;let⟨i,U,_⟩:=A.tt.look (A.hK T M);rw [U];exact(A.tt.len N U).1
 rw [z]at b
 lia
theorem iG.refl(z:bM l o0 (bT o0)):iG l At o0 o0:=λM A=>let⟨D,G,_⟩:=z.look A;⟨D,[],G,by grind,λ_=>S⟩
theorem iG.step(b:iG l At IN o0)(i:or∈At)(j:or∈aq l)(G:ba o0 (D or)=Y re)(T:List Pr):iG l At IN (dM o0 (D or) (cS re T)):=λU d=>by
 let⟨a,A,f,g,h⟩:=b U d;rw [pd _ (kE G)];by_cases c:U=or
 .subst c;rw [g]at G;obtain rfl:=aS G;let⟨y,k⟩:=E2 T (a++A)
  grind
 .exact⟨a,A,f,by rwa [N λA=>c (d4 A)],h⟩
theorem iG.le(N:iG l At o0 IN):∀{M:List aA},(∀z∈M,z∈aq l)->eF M o0<=eF M IN/\(eF M IN<=eF M o0->∀z∈M,ba IN (D z)=ba o0 (D z))
 |[],_=>⟨aR _,λ_ z G=>nomatch G⟩
 |q::M,G=>by
  let⟨b,T⟩:=N.le (M:=M) λz A=>G z (bC _ A);let⟨d,c,U,a,f⟩:=N q (G q bE);unfold eF at b T⊢;simp only [aZ,eC,U,a,zP,br];exists by lia,λg z A=>?_;rcases bg.mp A with rfl|A
  .have:c=[]:=kX.mp (by lia);rw [U,a,this,b0]
  .exact T (by lia) z A
def PZ(z A:List aA)(tab:Tb):eF (z++A) tab=eF z tab+eF A tab:=by unfold eF;grind
variable{Wn:List aA}
def P0(n:bG l)(j:or∈aq l)(o:f5 l or Wn o0)(A:f5 l or At IN)(U:E3 l Wn o0 At)(N:E4 l At o0 IN)(p:¬Wn.length+eF Wn o0<At.length+eF At IN):((aq l).filter λz=>decide (z∈At))=ju l or/\At.length=(ju l or).length/\∃k,ba IN (D or)=Y k/\(((bp l).map a6).filter λq=>decide (q∈k))=(ke l or).map a6:=by
 let⟨r,rfl⟩:=U.pre;let⟨B,s⟩:=N.pre.le (M:=Wn) λz G=>o.hK j G;rw [br,PZ]at p;have t:r=[]:=kX.mp (by lia)
 subst t;rw [b0]at A N U⊢;have u:∀z∈aq l,ba IN (D z)=ba o0 (D z):=λz G=>by
  by_cases c:z∈Wn
  .exact s (by lia) z c
  .obtain⟨e,C,a,b,v⟩:=N.pre z G;rw [a,b,v c,b0]
 have d:∀z T,bT IN z T->bT o0 z T:=λz T m=>by have G:=A.tt.lL m;let⟨e,a,b⟩:=m;exists e,by rw [<-u z G];exact a,b
 exact Nu n A.tt A.nd j A.h0 A.lp A.lt (λz G w x=>U.ask z G w x) (λf g h i=>U.way f g (h.mono d) i) N.iz λf g T h y i=>N.way f g T (h.mono d) i (d _ _ y)
def E5:∀A:ae,bo A=I->(bq A).length<=20*size A:=by
 have M:∀{G:aj},gD G=I->G.length<=4:=λz=>by unfold gD at z;simp only [bx,j5]at z;exact z.2.1
 have N:(az "fun").length=3/\(az "let").length=3/\(az "if").length=2/\(az "pair").length=4/\(az "fst").length=3/\(az "snd").length=3/\(az "new").length=3/\(az "get").length=3/\(az "set").length=3/\(az "add").length=3:=by decide
 have S:∀D:Nat,D<100->(d8 D).length<=20:=by decide
 let⟨T,U,b,c,d,e,f,g,h,i⟩:=N;intro A;induction A with
 |num a D=>
  intro z;exact S D (by have:=eB (show decide (D<=99)=I from z);lia)
 |var a G=>intro z;have:=M z;show G.length<=20*1;lia
 |_=>
  intro z;simp only [bo,bx]at z;simp_all only [bq,Hf,va,Hg,size,aG,dn,br,iP,forall_const]
  first|lia|(have:=M z.1;lia)
def P1(M:(aq l).Nodup)(N:(bp l).Nodup)(T:aA->cw->Bool):(eT l T).Nodup:=by
 unfold eT;revert M;generalize aq l=a;induction a with
 |nil=>exactλ_=>gd
 |cons p f b=>
  intro A;rw [eh]at A;rw [b3];refine gC.mpr ⟨iD (λU c D=>by cases D<;>rfl) (N.filter _),b A.2,λU d c G D=>A.1 ?_⟩;let⟨_,_,rfl⟩:=bH.mp d;let⟨g,e,G⟩:=di.mp G;let⟨_,_,rfl⟩:=bH.mp G;cases D;exact e
def E6(G:bG l){M:ae}(e:M∈aG l){y:ae}(T:bG rc)(f:aW 0 rc=aW 0 (cQ (ag M) y l))(g:v2∈aq l)(h:rS (e1 l rc (ag M)) v2=Y or):or∈aq rc:=by
 have i:fj (er (e1 l rc (ag M))) (D v2)=Y (D or):=by rw [xw,h];rfl
 let⟨m,j,k⟩:=cv.mp i;let⟨n,a,b,o⟩:=(CW G).mp (dY (f:=D) g)
 have c:=Nx G e T f j (b▸G.lt a);rw [<-b,G.cY.get a]at c;let⟨z,d,p⟩:=cv.mp c
 have:D or∈(aq rc).map D:=(CW T).mpr ⟨z,cG d,?_,?_⟩
 .grind [d4]
 .rw [<-k];exact T.cY.at d
 grind
def P2(T:bG l){G:ae}(f:G∈aG l){y:ae}(U:bG rc)(g:aW 0 rc=aW 0 (cQ (ag G) y l))(b:bM l o0 (gs l (gn l)))(u:bM rc IN (gs rc (gn rc))):hq (er (e1 l rc (ag G))) o0 IN=(k6 (e1 l rc (ag G)) (d7 l) (d7 rc)).kept/\ (ew o0:Int)-(hq (er (e1 l rc (ag G))) o0 IN:Nat)=((k6 (e1 l rc (ag G)) (d7 l) (d7 rc)).gone:Nat)/\ (ew IN:Int)-(hq (er (e1 l rc (ag G))) o0 IN:Nat)=((k6 (e1 l rc (ag G)) (d7 l) (d7 rc)).came:Nat):=by
 have j:=NA T U (s:=e1 l rc (ag G)) (λk h A i=>E6 T f U g h i) b u;have d:∀{a:ae},bG a->(d7 a).Nodup:=λ{a} e=>by rw [oK];exact P1 e.cY.places (tm e) _
 have c:=Nf (s:=e1 l rc (ag G)) (λm _=>by lia) (d T) (d U);have n:ew o0=(d7 l).length:=by rw [oK];exact xr T b
 have o:ew IN=(d7 rc).length:=by rw [oK];exact xr U u
 have p:(k6 (e1 l rc (ag G)) (d7 l) (d7 rc)).kept<=(d7 l).length:=by exact cu T1 (uz (z _))
 have q:(k6 (e1 l rc (ag G)) (d7 l) (d7 rc)).gone=(d7 l).length-(k6 (e1 l rc (ag G)) (d7 l) (d7 rc)).kept:=rfl;grind
end Cf
namespace L3
def P4(A:aw)(D:au)(K:af)(S T:TE):TE:=λU H a=>∀z,H z=O->wm [(S,T)] U (upd H z (dX A D z [])) λb G=>∃N M v,b=[(.ref M,v)]/\G z=Y (dX A D z [])/\ax K G M (N.map kV)/\a (.ref z) (upd G z (dX A D z [(N,M,v)]))
variable{h:Cx}{op s2:a7}{sw:TE}{pv:b2}
def P5{c:TE}(g:h.A.units<cK)(z:PE h op sw)(i:PE h s2 c):PE h (.Dict [Y op] [s2] pv) (P4 h.prog h.w h.K sw c):=by
 intro j A k H K D G;have l:=D.laid (a:=A.heap.objs.size) (o:=dX h.prog h.w A.heap.objs.size []) (h':=A.heap.push {cls:=.type "dict",data:=.dict #[]}) (t':=A.toks) (λ_ _ G=>e8 _ G) (aR _)
  (sF ⟨cP _,iK.mpr (eP (fB D.big)),gd,[],.nil,_,#[],0,gB _ S,⟨S,S,S⟩,S,S⟩)
 refine wpAny_Dict_any S rfl (by simp) (by show 1<=15;decide) (aN (Km z i Kl j _ k _ _ l (G _ (D.bf.fresh (aR A.heap.objs.size)))) λL P ⟨Q,R,M,m,n,d,v,p,e,q,r⟩=>?_);subst p;cases m with
 | @cons _ y _ _ N s=>
 cases s;let⟨t,V⟩:=y;let⟨u,w⟩:=N;cases (show t=cp d from u);let⟨W,x,X,B,C⟩:=jI M e (λ_ N=>nomatch N);cases B;unfold storeAll;rw [GC];refine aH (aH (wpAny_dictSet_heap (hsz:=cP _) (knd:=iL (eK h.prog h.w)) g (lz M q) C λab E F=>bu ?_));dsimp only;rw [uH];refine bu ⟨.ref A.heap.objs.size,_,sH M e (sI:=[(n,d,v)]) (by show 1<=aU;decide) x (.cons ⟨S,S,w⟩ .nil) E F,S,r⟩
variable{s4:L2.St}{d:Z}{m:aw}{p:au}{FM:TG}{Ix:TS}
def yO{o:aL}{aX:bW}{c:Ends}{H:U}(D:Nat->L2.St->U->Prop)(r:D 0 s4 H)(s:∀z s4 H,z<=aX.length->D z s4 H->H d=Y (.bP o (dX m p d aX)))(t:∀z N s4 H,aX[z]?=Y N->D z s4 H->FM (.ref N.2.1) s4 H λA e=>Ix (c.lp (D (z+1))) A e) (u:∀s4 H,D aX.length s4 H->c.nx s4 H):∃f:Nat->Nat->L2.St->U->Prop,(∃G,f 0 G s4 H)/\∀z G s4 H,f z G s4 H->((lA m p d o aX).stop z H/\c.nx s4 H)\/((lA m p d o aX).go z H/\∃T:L2.St->U->Prop,(∀g M,T g M->∃n,n<G/\f (z+1) n g M)/\∀h M,(lA m p d o aX).hc z H h M->FM h s4 M λA e=>Ix (c.lp T) A e):=by
 exists λz G s4 H=>G=aX.length-z/\z<=aX.length/\D z s4 H,⟨aX.length,by simp,cP _,r⟩,?_;rintro z G s4 H ⟨rfl,v,N⟩;have a:=s z s4 H v N
 by_cases q:z<aX.length
 .refine .inr ⟨⟨a,q⟩,D (z+1),λg M i=>⟨aX.length-(z+1),by lia,S,q,i⟩,λh M y=>?_⟩;let⟨j,i,w,rfl⟩:=y;subst j;exact t z i _ _ w N
 .have j:z=aX.length:=by lia
  subst j;exact .inl ⟨⟨a,aR _⟩,u s4 H N⟩
end L3
namespace Cf
abbrev Pl:=aA
def NT(o:HO):Prop:=∀z,o≠.tup z/\∀u,o≠.bP u (.tup z)
variable{d:Z}{pu:bW}{m:aw}{p:au}
theorem t6:NT (dX m p d pu):=λ_=>⟨(λz=>by cases z),λ_ z=>by cases z⟩
variable{SL:aL}
theorem t7:NT (.bP SL (dX m p d pu)):=λ_=>⟨(λz=>by cases z),λ_ z=>by cases z⟩
variable{q:Z}{Go:List (aa×V)}
theorem P6:NT (.ins d q Go):=λ_=>⟨(λz=>by cases z),λ_ z=>by cases z⟩
variable{ul:List V}{K:af}{H:U}{o:HO}
def ny{c:Z}(D:∀u,H d=Y u->NT u)(z:ax K H c ul):ax K (upd H d o) c ul:=by
 rcases z with(z|⟨M,z⟩)|z
 .exact .inl (.inl ((ah (by rintro rfl;exact(D _ z ul).1 rfl)).trans z))
 .exact .inl (.inr ⟨M,(ah (by rintro rfl;exact(D _ z ul).2 _ S)).trans z⟩)
 .exact .inr z
variable{o0:Tb}
theorem yP:∀{D:bW} {o0:Tb} {A:Z},fk m p K H D o0->V.ref A∈D.map (·.2.2)->∃M,H A=Y (dX m p A M)
 |_,_,_,.nil,z=>nomatch z
 |x::D,y::o0,A,.cons a c,z=>by
  rcases bg.mp z with z|z
  .obtain⟨_,T,N,M,S,_⟩:=a;have z:=z.trans N
   cases z;exists M,S
  .exact yP c z
variable{r:U}{b:Z}
def b8.both(D:b8 m p K r H d o0)(z:(∃u,r b=Y u/\NT u)\/H b=O):b8 m p K (upd r b o) (upd H b o) d o0:=by
 let⟨a,B,l,e,t,n,f⟩:=D.ex;have g:d≠b:=by
  rintro rfl;rcases z with⟨u,z,_⟩|z
  .rw [D.new]at z;cases z
  .rw [B]at z;cases z
 have h:V.ref b∉a.map (·.2.2):=λA=>by
  rcases z with⟨u,z,_⟩|z
  .rw [f b A]at z;cases z
  .obtain⟨i,N⟩:=yP e A;rw [N]at z;cases z
 have j:∀u,H b=Y u->NT u:=λv T=>by
  rcases z with⟨u,N,A⟩|N
  .rw [D.ext _ _ N]at T;cases T;exact A
  .rw [N]at T;cases T
 exists λc u U=>?_,⟨a,(ah g).trans B,l.same λ_ _=>ny j,rl (λC E P q=>?_) e h,t,n,λw A=>?_⟩,(ah g).trans D.new
 .by_cases k:c=b
  .rw [k,M]at U⊢;exact U
  .rw [ah k]at U⊢;exact D.ext _ _ U
 .obtain⟨i,s,x,y⟩:=q;exists i,(ah P).trans s,x.same λ_ _=>ny j,y
 .rw [ah (by rintro rfl;exact h A)];exact f w A
variable{sc:Pr}{re:List Pr}
def b8.yQ(S:b8 m p K r H d o0)(j:ba o0 sc=Y re):∃D A M,H d=Y (dX m p d D)/\cb K H D/\cm D (pk sc)=Y (.ref A)/\r A=O/\H A=Y (dX m p A M)/\cb K H M/\M.map (·.1)=re.map pk/\M.length=re.length/\ ∀N a,(o0.map (·.1)).Nodup->cb K H N->N.map (·.1)=a.map pk->b8 m p K r (upd H A (dX m p A N)) d (dM o0 sc a):=by
 let⟨D,P,e,f,k,l,g⟩:=S.ex;let⟨A,c,M,h,w,i⟩:=fZ f j;have n:V.ref A∈D.map (·.2.2):=by let⟨y,t,q⟩:=cv.mp c;rw [<-q];exact dY (fq t)
 exists D,A,M,P,e,c,g A n,h,w,i,by have:=bD cN i;rwa [z,z]at this,λN a T s u=>b8.put S.ext P e f k l g S.new T c h s u
abbrev yR:a8:=inClass (top 53) 0
abbrev E7:a8:=inClass (top 53) 3
structure kN(K:af)(z:Z):Prop where
 cl:fc K z
 program:dF K z "program"
 looked:dF K z "looked_at"
 found:dF K z "found"
def nz(z A D:Z):List (aa×V):=[("program",.ref z),("looked_at",.ref A),("found",.ref D)]
variable{Q:Z}
def bN.aP{c:Z}{H:U}(S:bN d H r)(T:H d=Y (.ins q Q Go))(z:ax K H c ul):ax K r c ul:=by
 rcases z with(z|⟨u,z⟩)|z
 .exact .inl (.inl (S _ _ z (cW z T (by intro A;cases A))))
 .exact .inl (.inr ⟨u,S _ _ z (cW z T (by intro A;cases A))⟩)
 .exact .inr z
def bN.ee{c:Z}{H:U}(S:bN d H r)(T:H d=Y (.ins q Q Go))(z:av K H c ul):av K r c ul:=by
 rcases z with(z|⟨u,z⟩)|z
 .exact .inl (.inl (S _ _ z (cW z T (by intro A;cases A))))
 .exact .inl (.inr ⟨u,S _ _ z (cW z T (by intro A;cases A))⟩)
 .exact .inr z
variable{pi:Ex}{pp s3:Z}
def cg.but{a:Z}{H:U}(z:bN a H r)(A:H a=Y (.ins pp s3 Go))(a0:Go.length<5)(o:cg K d q H Q pi):cg K d q r Q pi:=by
 let⟨p,b,e,s,t,u,v,x,y,⟨B,C,E,F,L⟩,h,⟨N,R,W⟩,X,ab,ad⟩:=o;have S:∀{c i},H c=Y (.lst i)->r c=Y (.lst i):=λM=>z _ _ M (cW M A (by intro D;cases D))
 have j:∀{c k l T},H c=Y (.ins k l T)->5<=T.length->r c=Y (.ins k l T):=λM a1=>z _ _ M (cW M A (by intro D;injection D with _ _ D;subst D;lia));exists p,b,e,s,t,u,v,j x (aR 5),S y,⟨B,S C,λal am=>let⟨⟨an,ap⟩,as⟩:=E al am;⟨⟨an,j ap (by show 5<=6;decide)⟩,S as⟩,F,L⟩,z _ _ h (cW h A (by intro D;cases D)),⟨N,z.ee A R,Paired.b9 W λ_ _=>z.aP A⟩,X,z.ee A ab,Paired.b9 ad λ_ _=>z.aP A
structure e7(m:aw)(p:au)(K:af)(T b c:Z)(z A H:U)(a d P M S:Z)(e:Ex)(f:List Pl)(tab:Tb):Prop where
 tb:b8 m p K A H S tab
 x0:Ext z A
 a0:z a=O
 l0:z M=O
 oa:A a=Y (.ins T d (nz P M S))
 ol:∃N,A M=Y (dX m p M N)/\cb K H N/\N.map (·.1)=(f.map D).map pk
 pg:cg K b c z P e
variable{s0 GE:U}{wl Da Id:Z}{xL:List Pl}
theorem e7.on(A:Ext H GE)(z:e7 m p K d q Q r s0 H pp s3 wl Da Id pi xL o0):e7 m p K d q Q r s0 GE pp s3 wl Da Id pi xL o0:=
 ⟨z.tb.on A,z.x0,z.a0,z.l0,z.oa,let⟨D,M,N,S⟩:=z.ol;⟨D,M,A.keys N,S⟩,z.pg⟩
theorem e7.ext(z:e7 m p K d q Q r s0 H pp s3 wl Da Id pi xL o0):Ext r H:=z.x0.trans z.tb.ext
theorem e7.obj(z:e7 m p K d Da Id r s0 H q Q pp s3 wl pi xL o0):H q=Y (.ins d Q (nz pp s3 wl)):=z.tb.ext _ _ z.oa
theorem e7.prog(z:e7 m p K pp d q r s0 H s3 wl Q Da Id pi xL o0):cg K d q H Q pi:=z.pg.ext z.ext
variable{KM:Z}
theorem e7.other{o:HO}(A:e7 m p K pp s3 wl r s0 H q Da Id Q KM pi xL o0)(N:(∃u,s0 d=Y u/\NT u)\/H d=O)(S:r d=O)(T:d≠q)(U:d≠Q):e7 m p K pp s3 wl r (upd s0 d o) (upd H d o) q Da Id Q KM pi xL o0:=
 have b:∀u,H d=Y u->NT u:=λv D=>by
  rcases N with⟨u,M,c⟩|M
  .rw [A.tb.ext _ _ M]at D;cases D;exact c
  .rw [M]at D;cases D
 ⟨A.tb.both N,A.x0.upd S,A.a0,A.l0,(ah T.symm).trans A.oa,let⟨z,f,g,h⟩:=A.ol;⟨z,(ah U.symm).trans f,g.same λ_ _=>ny b,h⟩,A.pg⟩
variable{Fa:Pl}
def e7.putL(z:e7 m p K Q pp s3 s0 r H wl Da Id d KM pi xL o0)(T:r d=Y (dX m p d pu))(U:cb K H pu)(b:pu.map (·.1)=(xL.map D).map pk)(c:ax K H q (b4 (D Fa)))(v:V):e7 m p K Q pp s3 s0 (upd r d (dX m p d (cy pu (pk (D Fa)) q v))) (upd H d (dX m p d (cy pu (pk (D Fa)) q v))) wl Da Id d KM pi (dW xL Fa) o0:=by have l:cX (H d)\/H d=O:=.inl (z.tb.ext _ _ T▸trivial);exists z.tb.both (.inl ⟨_,T,t6⟩),z.x0.upd z.l0,z.a0,z.l0,(ah (cW z.oa T (by intro f;cases f))).trans z.oa,⟨_,M,(ly U _ c).same λ_ _=>bF l,?_⟩,z.pg;rw [Ej b,PY]
variable{t:Nat}
def yS(c:cb K H pu)(d:pu.map (·.1)=(xL.map D).map pk){T:List Key×Z×V}(U:pu[t]?=Y T):∃z,xL[t]?=Y z/\z∈xL/\ax K H T.2.1 (b4 (D z)):=by
 have A:(pu.map (·.1))[t]?=Y T.1:=by rw [bh,U];rfl
 rw [d,bh,bh]at A;cases b:xL[t]? with
 |none=>rw [b]at A;cases A
 |some z=>
  rw [b]at A;have:=c T (cG U)
  rw [<-aS A]at this;exists z,S,cG b,this
def P7(A:bG pi)(M:Fa∈aq pi):(D Fa).1<5/\(D Fa).2<31:=by
 let⟨S,N,T,_⟩:=pe A M;have:=A.lt N
 have:=A.bL;exact⟨by cases Fa<;>(simp only [D];decide),by lia⟩
inductive E8 (m:aw) (p:au) (K:af) (pp Da Id:Z) (z:List V) (H:U) (A:VK) (M:XK):Prop
 |mk(d s3 Q b pi c:_)(_:z=[.ref d,.ref Q,.ref b])(_:H d=Y (.ins pp s3 []))(_:cg K Da Id H Q pi)(_:ax K H b (b4 (D c)))(_:∀s0 r q wl,b8 m p K r s0 wl (gx ((aq pi).map D))->bN d H r->H q=O->r d=Y (.ins pp s3 (nz Q q wl))->r q=Y (dX m p q [(pk (D c),b,.bl I)])->A .bw s0)
variable{pc:bc}{L:aa->Option J}{P:aD}
def P8(w:a9 K "__init__" "Asking.__init__" yR wl pc)(z:kN K Q)(r:g_ 1 "empty_table" ["program"] (yh m p K Da Id)):f_ 2 wl pc ["self","program","place"] (E8 m p K Q Da Id):=by
 refine w.go ["self","program","place"] λs u V v H W X ab h x _ _ _=>?_;let⟨q,pp,s3,A,pi,N,rfl,f,y,E,F⟩:=x;have l:(u.deeper (eI "Asking.__init__" (eg yR) v.heap.objs.size wl s)).units<cK:=by have:=h.units;lia
 exists _,ar (dQ (T 0) (T 1) S) (ar (dQ (T 0) (P5 l (T 2) hx) S) (ay (dQ (T 0) (bI r h (aJ 1)) S))),?_;exists _,S,_,S,q,Q,pp,_,S,f,z.cl,z.program,by decide,λd U=>⟨_,S,pk (D N),A,.bl I,S,M,?_,?_⟩
 .exact bF (.inr U) (bF (.inl (f▸trivial)) E)
 have b:d≠q:=by rintro rfl;rw [M]at U;cases U
 rw [gS];exists _,S,q,Q,pp,_,S,(ah b.symm).trans M,z.cl,z.looked,(by show 1<1000;decide),?_;have i:H d=O:=by rw [ah b]at U;exact U
 have j:bN q H (upd (upd (upd H q (.ins Q pp (aO "program" (.ref s3) []))) d (dX m p d [(pk (D N),A,.bl I)])) q (.ins Q pp (aO "looked_at" (.ref d) (aO "program" (.ref s3) [])))):=λc o pi k=>by rwa [ah k,ah (cB pi i),ah k]
 have R:upd (upd (upd H q (.ins Q pp (aO "program" (.ref s3) []))) d (dX m p d [(pk (D N),A,.bl I)])) q (.ins Q pp (aO "looked_at" (.ref d) (aO "program" (.ref s3) []))) d=Y (dX m p d [(pk (D N),A,.bl I)]):=(ah b).trans M;have a:upd (upd (upd H q (.ins Q pp (aO "program" (.ref s3) []))) d (dX m p d [(pk (D N),A,.bl I)])) q (.ins Q pp (aO "looked_at" (.ref d) (aO "program" (.ref s3) []))) q=Y (.ins Q pp (aO "looked_at" (.ref d) (aO "program" (.ref s3) []))):=M
 exists _,S,s3,pi,S,y.but j f (by decide),λKM ad n=>?_;exists _,S,q,Q,pp,_,S,n.ext _ _ a,z.cl,z.found,(by show 2<1000;decide),?_;exact F _ _ d KM (n.both (.inl ⟨_,a,P6⟩)) j.gZ i M ((ah b).trans R)
inductive E9 (m:aw) (p:au) (K:af) (q Q pp:Z) (z:List V) (H:U) (A:VK) (D:XK):Prop
 |mk(s0 GE d s3 wl Da Id pi b xL o0:_)(_:z=[.ref d])(_:e7 m p K q Q pp s0 GE H d s3 wl Da Id pi xL o0)(_:f5 pi b xL o0)(_:b∈aq pi)(_:∀r,Ext H r->A (.int ((xL.length+eF xL o0:Nat):Int)) r)
variable{C CN:Z}
def P9(bi:a9 K "how_much" "Asking.how_much" E7 wl pc)(g:kN K q)(al:L "len"=O)(bk:L "sum"=O):f_ 1 wl pc ["self"] (E9 m p K q C CN):=by
 refine bi.go ["self","place"] λc1 c2 c3 E H c4 c5 c6 c7 e am bl sz=>?_;let⟨r,s0,Q,pp,Da,d,s3,pi,c8,xL,o0,rfl,h,F,an,bm⟩:=e;exists _,ay (aQ (hg se (cR oE (by rfl) al dE (A (aF 0) aC)) (cR (AH S) (by rfl) bk (by decide+kernel) (A (AV (fU (own:=[("place",1)]) S am (lB (aF 0)) (e3 S) (λE H C ap as=>bX 1 am) (λE H C ap as=>hB) (λE H C ap as=>cR (Er m p K) (by rfl) al dE (A (pf m p K bl (xH K (T 0) S) (T 1) (λ_ _=>S)) aC)))) aC)))),?_;dsimp;let⟨j,k,a0,a1⟩:=h.ol;have u:=h.obj
 have w:=h.tb.ext _ _ k;have a2:j.length=xL.length:=by have:=bD cN a1;rwa [z,z,z]at this
 have c9:=(F.bound h.pg.ok an).1;have a3:=cW u w (by intro l;cases l)
 exists _,S,Q,q,pp,_,_,S,u,g.cl,g.looked,S,d,j,S,w,a0,d,_,w,trivial,λa4=>?_;exists _,S,Q,q,pp,_,_,S,(ah a3).trans u,g.cl,g.looked,S,d,a4,j,S,M,λv n=>?_;have x:d≠v:=by intro l;rw [<-l,M]at n;cases n
 have a5:H v=O:=by rw [ah x.symm]at n;exact n
 let bn:VCx:=λR f=>A4 (f v=Y (.lst (((xL.take R).map λb=>((ba o0 (D b)).getD []).length).map λW:Nat=>V.int (W:Nat)))) (f d=Y (.bP a4 (dX m p d j))) (∀N a,ax K H N a->ax K f N a) (∀N o,N≠d->H N=Y o->f N=Y o);refine rf (aX:=j) bn ?_ ?_ ?_ ?_
 .refine⟨M,(ah x).trans M,λN a e=>bF (.inr n) (bF (.inl (w▸trivial)) e),λN o c pi=>?_⟩;rwa [ah (cB pi a5),ah c]
 .rintro R f _ ⟨_,e,_⟩;exact e
 .rintro R bs f bt ⟨t,bd,s,i⟩;let⟨b,X,db,bv⟩:=yS a0 a1 bt;let⟨dd,be,_⟩:=F.tt.look (F.hK an (cG X));let⟨ca,y,cd,ce,ch,ci,cl,cn,co,dl,cr,_⟩:=h.tb.yQ be;have cs:s3≠d:=by rintro rfl;rw [h.tb.new]at k;cases k
  have ct:y≠d:=by rintro rfl;rw [cl]at k;cases k
  have dp:=(cF.mp X).1;exists S,?_;unfold hk;dsimp only [];rw [ai S];exists _,S,Q,q,pp,_,_,S,i Q _ a3 u,g.cl,g.found,S,_,S,s3,.ref y,S,⟨ca,pk (D b),bs.2.1,i s3 _ cs ce,ch.same s,S,s _ _ bv,ci.symm⟩,y,cd,S,i y _ ct cn,co.same s,_,t,by rw [z,z,dU];lia,?_,?_,?_,?_
  .rw [M,dq,X,aT,aT,cr];show _=Y (HO.lst (_++[V.int ((((ba o0 (D b)).getD []).length:Nat):Int)]))
   rw [be];rfl
  .rwa [ah x]
  .exactλN a e=>bF (.inl (t▸trivial)) (s N a e)
  .intro N o c pi;rw [ah (cB pi a5)];exact i N o c pi
 .rintro f ⟨t,bd,s,i⟩;rw [a2,dB]at t;exists bd,v,(xL.map λb=>((ba o0 (D b)).getD []).length).map λW:Nat=>(W:Int),S,av.of (by rw [ah x.symm,t,d6,d6,d6];rfl),_,_,S,S,?_;rw [yr,a2];have c0:((xL.length:Nat):Int)+(((xL.map λb=>((ba o0 (D b)).getD []).length).sum:Nat):Int)=((xL.length+eF xL o0:Nat):Int):=by unfold eF;lia
  rw [c0];refine bm _ λN o pi=>?_;by_cases c:N=d
  .rwa [c,M,<-w,<-c]
  .rw [ah c];exact i N o c pi
abbrev yT:a8:=inClass (top 53) 1
structure f6(m:aw)(p:au)(K:af)(d q Q:Z)(T H:U)(a b w c P:Z)(A:Ex)(e:Pl)(f:List Pl)(tab:Tb)(g:Z)(o:HO)(D:U)(z:List Pl):Prop where
 ex:∃M,e7 m p K d q Q T M D a b w c P A z tab/\M g=Y o
 sq:∀N S,ax K H N S->ax K D N S
 ok:f5 A e z tab
 pre:∃h,z=f++h
variable{SB:List Pl}
theorem f6.on(A:Ext s0 GE)(z:f6 m p K d q Q r H pp s3 wl Da Id pi Fa xL o0 KM o s0 SB):f6 m p K d q Q r H pp s3 wl Da Id pi Fa xL o0 KM o GE SB:=
 let⟨D,M,N⟩:=z.ex
 ⟨⟨D,M.on A,N⟩,λb S T=>A.aP (z.sq b S T),z.ok,z.pre⟩
theorem f6.copy(z:f6 m p K q Q pp s0 H s3 wl Da Id KM pi Fa xL o0 d o r SB):r d=Y o:=let⟨M,A,D⟩:=z.ex;A.tb.ext _ _ D
theorem f6.obj(z:f6 m p K d Da Id s0 H q Q pp s3 wl pi Fa xL o0 KM o r SB):r q=Y (.ins d Q (nz pp s3 wl)):=let⟨D,A,M⟩:=z.ex;A.obj
theorem f6.prog(z:f6 m p K pp d q s0 H s3 wl Q Da Id pi Fa xL o0 KM o r SB):cg K d q r Q pi:=let⟨D,A,M⟩:=z.ex;A.prog
def f6.put{p0:Pl}{b:Z}(A:f6 m p K Q pp s3 s0 H wl Da Id d KM pi p0 xL o0 q o r SB)(i:p0∈aq pi)(j:q≠d)(k:iB pi p0 Fa)(N:ax K r b (b4 (D Fa))):∃M,r d=Y (dX m p d M)/\cb K r M/\M.length<aU/\∀v,f6 m p K Q pp s3 s0 H wl Da Id d KM pi p0 xL o0 q o (upd r d (dX m p d (cy M (pk (D Fa)) b v))) (dW SB Fa):=by
 let⟨y,T,n⟩:=A.ex;let⟨M,c,l,f⟩:=T.ol;have B:M.length=SB.length:=by have:=bD cN f;rwa [z,z,z]at this
 have E:=(A.ok.bound T.pg.ok i).1;have sz:(20000:Nat)<aU:=by decide
 have g:=T.tb.ext _ _ c;exists M,g,l,by lia,λv=>⟨⟨_,T.putL c l f N v,(ah j).trans n⟩,λb P U=>bF (.inl (g▸trivial)) (A.sq b P U),⟨Bw A.ok.nd,kz.mpr (.inl A.ok.h0),λw s=>?_,A.ok.tt,A.ok.lt⟩,?_⟩
 .rcases kz.mp s with U|rfl
  .exact A.ok.lp w U
  .exact k
 .obtain⟨h,rfl⟩:=A.pre;let⟨u,x⟩:=E1 (xL++h) Fa;exact⟨h++u,by rw [x,ck]⟩
def f6.turn{o':HO}(z:f6 m p K pp s3 wl r H q Da Id Q KM pi Fa xL o0 d o s0 SB)(A:NT o)(N:r d=O)(S:d≠q)(T:d≠Q):f6 m p K pp s3 wl r H q Da Id Q KM pi Fa xL o0 d o' (upd s0 d o') SB:=by let⟨g,U,b⟩:=z.ex;exists ⟨_,U.other (.inl ⟨_,b,A⟩) N S T,M⟩,λc a f=>ny (λu D=>?_) (z.sq c a f),z.ok,z.pre;rw [z.copy]at D;cases D;exact A
inductive Fb (m:aw) (p:au) (K:af) (q Q pp:Z) (A:List V) (H:U) (D:VK) (N:XK):Prop
 |mk(r B d s3 wl Da Id pi Fa xL o0:_)(_:A=[.ref d])(_:e7 m p K q Q pp r B H d s3 wl Da Id pi xL o0)(_:f5 pi Fa xL o0)(_:Fa∈aq pi)(_:∀s0 M z,e7 m p K q Q pp r M s0 d s3 wl Da Id pi z o0->f5 pi Fa z o0->E3 pi xL o0 z->D .bw s0)
def Qa{bv:Z}(fa:a9 K "look_further" "Asking.look_further" yT bv pc)(i:kN K Q)(fd:L "dict"=O)(fl:g_ 3 "places_that_steer" ["program","place"] (EK K wl Da))(fm:g_ 4 "ways_of" ["program","table"] (rk m p K wl Da)):f_ 5 bv pc ["self"] (Fb m p K Q wl Da):=by
 refine fa.go ["self","before","place","other","begin","end"] λfn fr h1 l H h2 id ii ca e as cd _=>?_;let⟨r,im,q,s3,Id,pp,KM,pi,Fa,xL,o0,rfl,ad,C,be,fs⟩:=e;have fT:(fr.deeper (eI "Asking.look_further" (eg yT) l.heap.objs.size bv fn)).units+2<cK:=by have:=ca.un;lia
 have f0:=ca.mo 3;exists _,ar (bj 1 as (sj (Bu fT) (by rfl) fd (by decide+kernel) (A (aF 0) aC))) (ar (mB (d3 dZ S (lB (T 1)) (bX 2 as) (ay (d3 dZ S (dC (bI fl f0 (A (aF 0) (aJ 2)))) (bX 3 as) (ay (i4 cd (aF 0) (T 3) hx S)))))) (ay (d3 dZ S (dC (bI fm ca (A (aF 0) (A (aF 0) aC)))) (lj S (gT (bX 4 as) (gT (bX 5 as) lh))) (ay (bK (i0 (wz cd (T 5) (T 1)) S) (ay (i4 cd (aF 0) (T 4) hx S)) bQ))))),?_;let⟨k,f1,ce,bi⟩:=ad.ol;have bk:=ad.pg.ok
 have c9:=ad.obj;have db:=ad.tb.ext _ _ f1
 have dd:=mK pi Fa;have f2:∀v∈xL.map D,v.1<5/\v.2<31:=λv a0=>by let⟨a,a1,rfl⟩:=bH.mp a0;exact P7 bk (C.hK be a1)
 exists _,S,q,Q,s3,_,_,S,c9,i.cl,i.looked,S,pp,k,S,db,ce,yp bi (iD (λ_ _=>d4) C.nd) f2,λd a2=>?_;have dl:=ad.ext.none a2
 have dp:=(cB c9 a2).symm;have bl:=(cB db a2).symm
 exists d,_,M,trivial,λa3=>?_;rw [gS];have f4:f6 m p K Q wl Da r H q s3 Id pp KM pi Fa xL o0 d (.bP a3 (dX m p d k)) (upd H d (.bP a3 (dX m p d k))) xL:=
  ⟨⟨_,ad.other (.inr a2) dl dp bl,M⟩,λbm io e=>bF (.inr a2) e,C,[],(b0 xL).symm⟩
 exists _,S,d,a3,k,S,M,?_;have f8:k.length=xL.length:=by have:=bD cN bi;rwa [z,z,z]at this
 let a4:VLx:=λn f s0=>X3 λbn al SB=>A3 (f=[Y (.ref q),Y (.ref d),bn,al,O,O]) (f6 m p K Q wl Da r H q s3 Id pp KM pi Fa xL o0 d (.bP a3 (dX m p d k)) s0 SB) (∀b<n,∀a,xL[b]?=Y a->∀v∈e9 pi a,v∈SB);refine yO (aX:=k) a4 ?_ ?_ ?_ ?_
 .exact⟨O,O,xL,S,f4,λb j=>absurd j (k8 _)⟩
 .rintro n f s0 _ ⟨_,_,_,_,x,_⟩;exact x.copy
 .rintro n v f s0 a0 ⟨bn,al,SB,rfl,x,ch⟩;let⟨a,a1,ds,ga⟩:=yS ce bi a0;exists _,S,q,Q,s3,_,_,S,x.obj,i.cl,i.program,S,_,S,Id,pi,v.2.1,a,S,x.prog,C.hK be ds,x.sq _ _ ga,λdK ge ci is ⟨cl,dL,dT⟩=>?_;exists dK,S,⟨_,av.of dL⟩,?_;let a4:VLx:=λb f N=>X2 λal L2=>A6 (f=[Y (.ref q),Y (.ref d),Y (.ref v.2.1),al,O,O]) (f6 m p K Q wl Da r H q s3 Id pp KM pi Fa xL o0 d (.bP a3 (dX m p d k)) N L2) (N dK=Y (.lst (cl.map V.ref))) (fJ K N cl ((e9 pi a).map D)) (∀y∈SB,y∈L2) (∀a5<b,∀y,(e9 pi a)[a5]?=Y y->y∈L2)
  refine fw (xs:=cl.map V.ref) a4 ?_ ?_ ?_ ?_
  .exact⟨_,SB,S,x.on ci,dL,dT,λ_ e=>e,λb j=>absurd j (k8 _)⟩
  .rintro b f N _ ⟨_,_,_,_,e,_⟩;exact av.of e
  .rintro b y f N g ⟨gl,L2,rfl,h,B,cn,E,F⟩;rw [bh]at g;let⟨bm,co,rfl⟩:=cv.mp g;let⟨w,am,sz⟩:=ey cn co;rw [bh]at am;let⟨u,d0,rfl⟩:=cv.mp am;have cr:=dd.asked a (C.lp a ds) u (cG d0)
   let⟨cs,W,ct,c0,c1⟩:=h.put be bl cr sz;have c2:cX (N pp)\/N pp=O:=.inl (W▸trivial)
   exists _,S,q,Q,s3,_,_,S,h.obj,i.cl,i.looked,S,_,S,pp,cs,pk (D u),bm,S,W,ct,S,sz,c0,_,dW L2 u,S,c1 _,(ah (cW B W (by intro w;cases w))).trans B,Paired.b9 cn λ_ _=>bF c2,λy g=>kz.mpr (.inl (E y g)),λa5 an go c3=>?_;rcases kg.mp an with an|rfl
   .exact kz.mpr (.inl (F a5 an go c3))
   .rw [d0]at c3;exact kz.mpr (.inr (aS c3).symm)
  .rintro f N ⟨gl,L2,rfl,h,B,cn,E,F⟩;exists _,_,L2,S,h,λb j gt c4 y g=>?_;rcases kg.mp j with j|rfl
   .exact E y (ch b j gt c4 y g)
   .rw [a1]at c4;obtain rfl:=aS c4;let⟨a5,an⟩:=hR.mp g;refine F a5 ?_ y an;rw [z,bO dT,z];exact(cF.mp an).1
 .rintro f s0 ⟨bn,al,SB,rfl,x,ch⟩;exists x.copy,?_;have bd:=x.turn (o':=dX m p d k) t7 dl dp bl
  let⟨it,g1,ix⟩:=bd.ex;exists _,S,q,Q,s3,_,_,S,bd.obj,i.cl,i.program,S,_,S,q,Q,s3,_,_,S,bd.obj,i.cl,i.found,S,Id,cV pi,KM,o0,S,bd.prog.prog,g1.tb.at,C.tt.ok bk,λd1 ge ci jp ⟨c5,em,eq⟩=>?_;exists d1,S,⟨_,av.of em⟩,?_;let a4:VLx:=λb f N=>X3 λc6 c7 L2=>A6 (f=[Y (.ref q),Y (.ref d),bn,al,c6,c7]) (f6 m p K Q wl Da r H q s3 Id pp KM pi Fa xL o0 d (dX m p d k) N L2) (N d1=Y (.lst (c5.map V.ref))) (cE (da K N) c5 (fA (cV pi) o0 (cV pi).nodes.length)) (∀y∈SB,y∈L2) (∀n<b,∀l R,(fA (cV pi) o0 (cV pi).nodes.length)[n]?=Y (D l,D R)->R∈xL->l∈L2)
  refine fw (xs:=c5.map V.ref) a4 ?_ ?_ ?_ ?_
  .exact⟨_,_,SB,S,bd.on ci,em,eq,λ_ e=>e,λb j=>absurd j (k8 _)⟩
  .rintro b f N _ ⟨_,_,_,_,_,e,_⟩;exact av.of e
  .rintro b y f N g ⟨c6,c7,L2,rfl,h,B,bs,E,F⟩;rw [bh]at g;let⟨bm,co,rfl⟩:=cv.mp g;let⟨w,am,g2,g3,hd,es,he⟩:=ey bs co;let⟨bt,X,hf,hi,kk,kp,hw⟩:=tr bk C.tt (cG (show _=Y (w.1,w.2)from am));obtain rfl:w=(D bt,D X):=kf hf hi;exists bm,_,S,hd,S,_,_,S,_,_,S,S,?_;exists _,S,_,S,d,_,S,⟨k,pk (D X),g3,h.copy,ce.same h.sq,S,he,S⟩,_,S,?_;rw [kJ bi];have hm:decide (D X∈xL.map D)=decide (X∈xL):=by
    rw [hb,bH];exists λ⟨v,a0,e⟩=>d4 e▸a0,λe=>⟨_,e,S⟩
   rw [hm];by_cases c:X∈xL
   .rw [cq c];have cr:=dd.way bt X (hw.mono C.lt) (C.lp X c)
    let⟨cs,W,ct,c0,c1⟩:=h.put be bl cr es;have c2:cX (N pp)\/N pp=O:=.inl (W▸trivial)
    refine cf ⟨_,S,q,Q,s3,_,_,S,h.obj,i.cl,i.looked,S,_,S,pp,cs,pk (D bt),g2,S,W,ct,S,es,c0,_,_,dW L2 bt,S,c1 _,(ah (cW B W (by intro w;cases w))).trans B,Paired.b9 bs λ_ _=>da.upd c2,λy g=>kz.mpr (.inl (E y g)),λn s l R ab ap=>?_⟩;rcases kg.mp s with s|rfl
    .exact kz.mpr (.inl (F n s l R ab ap))
    .rw [am]at ab;injection (aS ab)with ev ex;exact kz.mpr (.inr (d4 ev).symm)
   .rw [bU c];refine b1 ⟨_,_,L2,S,h,B,bs,E,λn s l R ab ap=>?_⟩;rcases kg.mp s with s|rfl
    .exact F n s l R ab ap
    .rw [am]at ab;injection (aS ab)with ev ex;rw [d4 ex]at c;exact absurd ap c
  .rintro f N ⟨c6,c7,L2,rfl,h,B,bs,E,F⟩;let⟨hz,h0,_⟩:=h.ex;refine fs N hz L2 h0 h.ok ⟨h.pre,λa a1 y g=>?_,λl R hw ap=>?_⟩
   .obtain⟨b,j⟩:=hR.mp a1;exact E y (ch b (f8▸(cF.mp j).1) a j y g)
   .obtain⟨n,s⟩:=hR.mp (tu bk C.tt hw);exact F n (by rw [z,bO eq];exact(cF.mp s).1) l R s ap
abbrev Fc:a8:=inClass (top 53) 2
def f5.merge{b:Pl}(g:bG pi)(T:f5 pi b xL o0)(h:b∈aq pi)(i:Fa∈xL){c U:List Pr}(j:ba o0 (D Fa)=Y c)(k:∀l∈U,∃z∈bp pi,l=a6 z)(lk:∀z,a6 z∈U->jd pi b Fa z):f5 pi b xL (dM o0 (D Fa) (cS c U))/\(∀G z,bT o0 G z->bT (dM o0 (D Fa) (cS c U)) G z)/\∀z,a6 z∈U->bT (dM o0 (D Fa) (cS c U)) Fa z:=by
 let⟨m,e,_,_⟩:=T.tt.CS g (T.hK h i) j k;exists ⟨T.nd,T.h0,T.lp,m,λG z a=>?_⟩,λG z a=>(e G z).mpr (.inl a),λz a=>(e Fa z).mpr (.inr ⟨S,a⟩);rcases(e G z).mp a with f|⟨rfl,f⟩
 .exact T.lt G z f
 .exact lk z f
variable{IN:Tb}{ut:cw}{wv:Pred}
def iG.sub(b:iG pi xL o0 IN)(c:bM pi o0 wv)(N:bT o0 Fa ut):bT IN Fa ut:=by let⟨g,h,d,e,_⟩:=b Fa (c.lL N);let⟨i,T,f⟩:=N;rw [d]at T;obtain rfl:=aS T;exists _,e,gN _ f
def b8.grow{H:U}{c:Z}(T:b8 m p K r H c o0)(a:Ext H s0):∃d,b8 m p K d s0 c o0/\Ext r d/\∀z,H z=O->d z=s0 z:=by
 let⟨s,t,u,v,x,y,B⟩:=(T.on a).ex;let⟨k,g,l,h,M,n,S⟩:=T.ex;have e:∀z,H z≠O->(if H z=O then s0 z else r z)=r z:=λz A=>N A
 exists λz=>if H z=O then s0 z else r z,⟨λz o D=>?_,⟨k,a _ _ g,a.keys l,Paired.b9 h λE z i=>⟨i.1,let⟨b,D,q⟩:=i.2;⟨b,D,q.ext a⟩⟩,M,n,λb j=>?_⟩,?_⟩,λz o D=>?_,λz A=>ai A
 .split at D
  .exact D
  .exact a _ _ (T.ext _ _ D)
 .obtain⟨F,f⟩:=yP h j;exact(e b (by rw [f];intro A;cases A)).trans (S b j)
 .exact(e c (by rw [g];intro A;cases A)).trans T.new
 .exact(e z (by rw [T.ext _ _ D];intro A;cases A)).trans D
inductive Fd (m:aw) (p:au) (K:af) (d q Q:Z) (D:List V) (H:U) (M:VK) (S:XK):Prop
 |mk(c B a P w l t e b L tab:_)(_:D=[.ref a])(_:e7 m p K d q Q c B H a P w l t e L tab)(_:f5 e b L tab)(_:b∈aq e)(_:∀A N z,e7 m p K d q Q c N A a P w l t e L z->f5 e b L z->E4 e L tab z->M .bw A)
def Qb(k1:a9 K "find_facts" "Asking.find_facts" Fc pp pc)(i:kN K d)(k2:g_ 2 "own_table" ["program"] (tS m p K q Q))(k3:g_ 4 "ways_of" ["program","table"] (rk m p K q Q)):f_ 5 pp pc ["self"] (Fd m p K d q Q):=by
 refine k1.go ["self","own","place","begin","end"] λm0 m1 m2 t H m3 m4 m5 g2 C c2 E sz=>?_;let⟨k5,m6,j,F,w,e,ap,gt,dp,G,ds,rfl,n,a2,dx,la⟩:=C;have as:=g2.mo 2
 exists _,ar (bj 1 c2 (bI k2 as (A (aF 0) aC))) (ar (mB (d3 dZ S (lB (aF 0)) (bX 2 c2) (ay (cM (sJ E (ff E (aF 0) (T 2) (λ_ _=>S)) (ff E (T 1) (T 2) (λ_ _=>S)) ⟨S,S,S,S⟩))))) (ay (d3 dZ S (dC (bI k3 g2 (A (aF 0) (A (aF 0) aC)))) (lj S (gT (bX 3 c2) (gT (bX 4 c2) lh))) (ay (bK (i0 (wz E (T 4) (aF 0)) S) (ay (cM (sJ E (ff E (aF 0) (T 4) (λ_ _=>S)) (ff E (aF 0) (T 3) (λ_ _=>S)) ⟨S,S,S,S⟩))) bQ))))),?_;let⟨k,g3,dK,c3⟩:=n.ol;have l:=n.pg.ok
 have lb:=n.obj;have hd:=mK gt dp
 have lc:k.length=G.length:=by have:=bD cN c3;rwa [z,z,z]at this
 exists _,S,j,d,F,_,_,S,lb,i.cl,i.program,S,w,gt,S,n.prog,λdL bl bm=>?_;let⟨ld,le,lf,li,m7,m8,lm⟩:=bm.ex;have dT:=yl l
 let⟨bn,he,d0,hf⟩:=n.tb.grow bm.ext;have d1:=d0 _ _ g3
 have em:=d0 _ _ n.oa;have hi:=he.ext _ _ d1
 have hm:=cW em d1 (by intro a3;cases a3);exists e,_,hi,trivial,λbs=>?_;have hz:=he.both (b:=e) (o:=.bP bs (dX m p e k)) (.inl ⟨_,d1,t6⟩)
 have ln:∀N f,ax K bl N f->ax K (upd bl e (.bP bs (dX m p e k))) N f:=λN f C=>bF (.inl (by rw [hi];exact trivial)) C;have h0:upd bn e (.bP bs (dX m p e k)) j=Y (.ins d F (nz w e ap)):=(ah hm).trans em
 exists _,S,j,d,F,_,_,S,hz.ext _ _ h0,i.cl,i.looked,S,e,bs,k,S,M,?_;let eq:VLx:=λCN ad a4=>X2 λc4 r=>A6 (ad=[Y (.ref j),Y (.ref dL),c4,O,O]) (b8 m p K (upd bn e (.bP bs (dX m p e k))) a4 ap r) (∀N f,ax K bl N f->ax K a4 N f) (f5 gt dp G r) (iG gt G ds r) (∀v<CN,∀x,G[v]?=Y x->∀a,fG gt x a->bT r x a)
 refine yO (aX:=k) eq ?_ ?_ ?_ ?_
 .exact⟨O,ds,S,hz,ln,a2,.refl a2.tt,λv R=>absurd R (k8 _)⟩
 .rintro CN ad a4 _ ⟨_,_,_,al,_⟩;exact al.ext _ _ M
 .rintro CN a ad a4 g ⟨c4,r,rfl,al,a5,W,ch,es⟩;let⟨x,ev,c5,lo⟩:=yS dK c3 g;have ex:=a2.hK dx c5
  have h1:=a5 _ _ (bm.ext.aP lo);let⟨h2,am,_⟩:=W.tt.look ex;let⟨ci,bd,_,fa,cl⟩:=dT.row x ex;let⟨c6,h,bt,lp,ls,lt,lv,fd,id,lw,m9,l0⟩:=al.yQ am;let⟨bv,be,ca,cd,cn,bi⟩:=fZ li bd;have mg:ca.length=ci.length:=by have:=bD cN bi;rwa [z,z]at this
  have ii:=(W.tt.len l am).1;have fl:=(dT.len l bd).1
  have fm:H bv=O:=by refine lm bv ?_;let⟨y,c7,mk⟩:=cv.mp be;rw [<-mk];exact dY (fq c7)
  have im:∀{N},H N=O->N≠e:=λC=>by rintro rfl;rw [n.tb.ext _ _ g3]at C;cases C
  have io:∀{N o},H N=O->bl N=Y o->a4 N=Y o:=λ{N o} is mo=>al.ext _ _ ((ah (im is)).trans ((hf N is).trans mo));have mp:h≠bv:=by
   rintro rfl;have:upd bn e (.bP bs (dX m p e k)) h=Y (dX m p h ca):=(ah (im fm)).trans ((hf h fm).trans cd)
   rw [lv]at this;cases this
  exists _,S,j,d,F,_,_,S,al.ext _ _ h0,i.cl,i.found,S,_,S,ap,_,S,⟨c6,pk (D x),a.2.1,lp,ls,S,h1,lt.symm⟩,h,S,⟨bt,fd⟩,_,S,_,S,dL,_,S,⟨ld,pk (D x),a.2.1,io bm.new le,lf.same a5,S,h1,be.symm⟩,bt,bv,ca,S,fd,id,io fm cd,cn.same a5,by lia,λ_=>ro l dT bd bi,λc8=>absurd c8 mp,λ_=>?_;let⟨fn,c9,fr⟩:=W.merge l dx c5 am fa λa g=>hd.iz x a ((cl a).mp g) (a2.lp x c5);exists _,_,S,l0 _ _ (W.tt.nodup l) (qK id (cn.same a5)) (rn lw bi),λN f C=>bF (.inl (by rw [fd];exact trivial)) (a5 N f C),fn,ch.step c5 ex am ci,λv R ms fs a g=>?_;rcases kg.mp R with R|rfl
  .exact c9 _ _ (es v R ms fs a g)
  .rw [ev]at fs;obtain rfl:=aS fs;exact fr a ((cl a).mpr g)
 .rintro ad a4 ⟨c4,r,rfl,al,a5,W,ch,es⟩;exists al.ext _ _ M,?_;have as:=al.both (b:=e) (o:=dX m p e k) (.inl ⟨_,M,t7⟩)
  rw [gS]at as;have mt:∀N f,ax K bl N f->ax K (upd a4 e (dX m p e k)) N f:=λN f C=>ny (λu E=>by rw [al.ext _ _ M]at E;cases E;exact t7) (a5 N f C)
  have it:Ext k5 (upd bn e (dX m p e k)):=(n.x0.trans d0).upd n.l0;have db:upd bn e (dX m p e k) j=Y (.ins d F (nz w e ap)):=(ah hm).trans em
  have mA:=n.pg.ext (it.trans as.ext);exists _,S,j,d,F,_,_,S,as.ext _ _ db,i.cl,i.program,S,_,S,j,d,F,_,_,S,as.ext _ _ db,i.cl,i.found,S,w,cV gt,ap,r,S,mA.prog,as.at,W.tt.ok l,λix na jp nb ⟨fT,kk,kp⟩=>?_;exists ix,S,⟨_,av.of kk⟩,?_;let eq:VLx:=λv ad X=>X3 λf0 f1 ab=>A9 (ad=[Y (.ref j),Y (.ref dL),c4,f0,f1]) (b8 m p K (upd bn e (dX m p e k)) X ap ab) (∀N f,ax K bl N f->ax K X N f) (f5 gt dp G ab) (iG gt G ds ab) (∀w j,bT r w j->bT ab w j) (X ix=Y (.lst (fT.map V.ref))) (cE (da K X) fT (fA (cV gt) r (cV gt).nodes.length)) (∀CN<v,∀t h,(fA (cV gt) r (cV gt).nodes.length)[CN]?=Y (D t,D h)->h∈G->∀a,bT r t a->bT ab h a)
  refine fw (xs:=fT.map V.ref) eq ?_ ?_ ?_ ?_
  .exact⟨_,_,r,S,as.on jp,λN f C=>jp.aP (mt N f C),W,ch,λ_ _ C=>C,kk,kp,λv R=>absurd R (k8 _)⟩
  .rintro v ad X _ ⟨_,_,_,_,_,_,_,_,_,C,_⟩;exact av.of C
  .rintro v y ad X c7 ⟨f0,f1,ab,rfl,an,ce,s,co,bk,cr,cs,ct⟩;rw [bh]at c7;let⟨N,mC,rfl⟩:=cv.mp c7;let⟨a3,dd,ii,fl,mF,mL,ks⟩:=ey cs mC;let⟨f2,a0,be,cd,mM,kt,hw⟩:=tr l W.tt (cG (show _=Y (a3.1,a3.2)from dd));obtain rfl:a3=(D f2,D a0):=kf be cd;have f4:=an.ext _ _ db
   exists N,_,S,mF,S,_,_,S,_,_,S,S,?_;exists _,S,_,S,j,d,F,_,_,S,f4,i.cl,i.looked,S,e,_,S,⟨k,pk (D a0),fl,an.ext _ _ M,dK.same λN f C=>ce N f (bm.ext.aP C),S,ks,S⟩,_,S,?_;rw [kJ c3];have mN:decide (D a0∈G.map D)=decide (a0∈G):=by rw [hb,bH];exists λ⟨a,g,C⟩=>d4 C▸g,λC=>⟨_,C,S⟩
   rw [mN];by_cases c:a0∈G
   .rw [cq c];let⟨c6,f8,ga,ge,kw,mP,mR⟩:=an.ex;let⟨h2,am,_⟩:=s.tt.look kt;let⟨ci,bd,_,fa,cl⟩:=s.tt.look mM;let⟨gl,go,bt,c0,kP,kV⟩:=fZ ge am;let⟨bv,be,ca,cd,cn,bi⟩:=fZ ge bd;have nd:bt.length=h2.length:=by have:=bD cN kV;rwa [z,z]at this
    have mg:ca.length=ci.length:=by have:=bD cN bi;rwa [z,z]at this
    have ne:=(s.tt.len l am).1;have nl:=(s.tt.len l bd).1
    refine cf ⟨_,S,j,d,F,_,_,S,f4,i.cl,i.found,S,_,S,ap,_,S,⟨c6,pk (D a0),fl,f8,ga,S,ks,go.symm⟩,gl,S,⟨bt,c0⟩,_,S,j,d,F,_,_,S,f4,i.cl,i.found,S,_,S,ap,_,S,⟨c6,pk (D f2),ii,f8,ga,S,mL,be.symm⟩,bt,bv,ca,S,c0,kP,cd,cn,by lia,λ_=>ro l s.tt bd bi,λc8=>?_,λc8=>?_⟩
    .refine⟨_,_,ab,S,an,ce,s,co,bk,cr,cs,λCN CA t h B a1 a g=>?_⟩;rcases kg.mp CA with CA|rfl
     .exact ct CN CA t h B a1 a g
     .rw [dd]at B;injection (aS B)with dl c1;obtain rfl:=d4 dl;obtain rfl:=d4 c1;rw [d4 (Ek kw go (by rw [c8];exact be))];exact bk _ _ g
    .have k0:cX (X gl)\/X gl=O:=.inl (by rw [c0];exact trivial);let⟨fn,c9,fr⟩:=s.merge l dx c am fa λa g=>hd.sZ f2 a0 a (hw.mono W.lt) (s.lt _ _ ((cl a).mp g)) (a2.lp a0 c);exists _,_,_,S,b8.put an.ext f8 ga ge kw mP mR an.new (s.tt.nodup l) go c0 (qK kP cn) (rn kV bi),λN f C=>bF k0 (ce N f C),fn,co.step c kt am ci,λw a C=>c9 _ _ (bk w a C),(ah (cW cr c0 (by intro a3;cases a3))).trans cr,Paired.b9 cs λ_ _=>da.upd k0,λCN CA t h B a1 a g=>?_;rcases kg.mp CA with CA|rfl
     .exact c9 _ _ (ct CN CA t h B a1 a g)
     .rw [dd]at B;injection (aS B)with dl c1;obtain rfl:=d4 dl;obtain rfl:=d4 c1;exact fr a ((cl a).mpr (bk _ _ g))
   .rw [bU c];refine b1 ⟨_,_,ab,S,an,ce,s,co,bk,cr,cs,λCN CA t h B a1 a g=>?_⟩;rcases kg.mp CA with CA|rfl
    .exact ct CN CA t h B a1 a g
    .rw [dd]at B;injection (aS B)with dl c1;rw [d4 c1]at c;exact absurd a1 c
  .rintro ad X ⟨f0,f1,ab,rfl,an,ce,s,co,bk,cr,cs,ct⟩;refine la X _ ab ⟨an,it,n.a0,n.l0,db,⟨k,M,dK.same λN f C=>ce N f (bm.ext.aP C),c3⟩,n.pg⟩ s ⟨co,λx a g ev=>?_,λt h a hw a1 mT=>?_⟩
   .obtain⟨v,R⟩:=hR.mp ev;exact bk _ _ (es v (by rw [lc];exact(cF.mp R).1) x R a g)
   .obtain⟨CN,CA⟩:=hR.mp (tu l W.tt (hw.mono λw j C=>ch.sub a2.tt C));exact ct CN (by rw [z,bO kp];exact(cF.mp CA).1) t h CA a1 a (ch.sub a2.tt mT)
abbrev Fe:a8:=top 55
structure Ff(S:aw)(w:au)(K:af)(b:Z)(H:U)(a:Z)(z:Ex)(A:Pl):Prop where
 ex:X8 λc p G T M (N:List Pl) tab ps=>A9 (H a=Y (.ins b c (nz p G T))) (H G=Y (dX S w G M)) (cb K H M) (M.map (·.1)=(N.map D).map pk) (TabAt S w K H T tab) (((aq z).filter λp=>decide (p∈N))=ju z A) (N.length=(ju z A).length) (ba tab (D A)=Y ps) ((((bp z).map a6).filter λx=>decide (x∈ps))=(ke z A).map a6)
inductive t8 (m:aw) (p:au) (K:af) (d q Q:Z) (A:List V) (H:U) (M:VK) (N:XK):Prop
 |mk(P b e c:_)(_:A=[.ref P,.ref b])(_:cg K q Q H P e)(_:c∈aq e)(_:ax K H b (b4 (D c)))(_:∀a z,Ext H z->Ff m p K d z a e c->M (.ref a) z)
def Qc(z:Ex)(U:bG z):bM z (gx ((aq z).map D)) (bT (gx ((aq z).map D))):=by
 have N:∀A∈aq z,ba (gx ((aq z).map D)) (D A)=Y []:=λA M=>by
  refine hI ?_ ?_
  .unfold gx;rw [d6];exact(nW _).symm▸lV U
  .exact bH.mpr ⟨D A,dY M,S⟩
 exists ?_,λA M=>⟨[],N A M,gd,(λd a=>nomatch a),λe=>⟨(λb=>nomatch b),λ⟨f,T,c⟩=>?_⟩⟩
 .unfold gx;rw [d6];exact nW _
 .rw [N A M]at T;cases T;exact c
def Qd(N:bT (gx ((aq pi).map D)) Fa ut):False:=by let⟨a,S,T⟩:=N;let⟨b,_,U⟩:=bH.mp (CD S);cases U;exact nomatch T
def Qe(a4:a9 K "ask_alone" "ask_alone" Fe pp pc)(c7:kN K d)(a5:iu m p K L P aE 2 "Asking" d ["self","program","place"] (E8 m p K d q Q))(ab:h_ 1 d "how_much" ["self"] (E9 m p K d q Q)) (bd:h_ 5 d "look_further" ["self"] (Fb m p K d q Q)) (be:h_ 5 d "find_facts" ["self"] (Fd m p K d q Q)):f_ 6 pp pc ["program","place"] (t8 m p K d q Q):=by
 refine a4.go ["program","place","asking","grown","before"] λc8 c9 db dd H dl dp ds t h u _ _=>?_;let⟨g,ad,z,f,rfl,B,l,al,bi⟩:=h;have F:=B.ok
 have n:=t.mo 1;exists _,ar (bj 2 u (iv (E:=E0) a5 (t.mo 3) cx (A (T 0) (aJ 1)))) (ar (bj 3 u hx) (ar (oh dZ (kn (T 3)) (ar (bj 4 u (dR (E:=E0) (T 2) ab n cx)) (ar (cM (dR (E:=E0) (T 2) bd t cx)) (ar (cM (dR (E:=E0) (T 2) be t cx)) (ay (bj 3 u (oj vI (dR (E:=E0) (T 2) ab n cx) (T 4) (bV _)))))))) (ay (aQ (T 2))))),?_;exists _,S,_,S,λb G w bk bl=>?_;have v:Ext H (upd (upd H G (.own b)) b (.ins d G [])):=(Ext.one bk).new ((ah bl.symm).trans w)
 exists b,G,g,ad,z,f,S,M,B.ext v,v.aP al,λbm C i j n bn bs bt bv=>⟨S,?_⟩;have am:Ext H C:=λc o z=>bn c o (v _ _ z) (cB z w)
 have W:e7 m p K d q Q H C bm b G g i j z [f] (gx ((aq z).map D)):=⟨n,am,w,v.none bs,bt,⟨_,bv,λan R=>bb.mp R▸n.ext.aP (am.aP al),S⟩,B⟩
 have X:f5 z f [f] (gx ((aq z).map D)):=⟨by simp,bb.mpr S,λan R=>bb.mp R▸(mK z f).here,Qc z F,λan dx h=>(Qd h).elim⟩
 let ca:VLx:=λap as CA=>X5 λa0 x a e r=>A5 (as=[Y (.ref g),Y (.ref ad),Y (.ref b),Y (.bl r),a0]) (e7 m p K d q Q H x CA b G g i j z a e) (f5 z f a e) (r=ao->Ff m p K d CA b z f) (ap=if r=I then 3000-(a.length+eF a e)+1 else 0);exists ca,⟨_,O,C,_,_,I,S,W,X,(λh=>by cases h),S⟩,?_;rintro ap as CA ⟨a0,x,a,e,r,rfl,W,X,cd,rfl⟩;exists _,S,_,S,?_;cases r with
 |false=>exact b1 ⟨_,S,bi b CA W.ext (cd S)⟩
 |true=>
 refine cf ⟨_,(λdK CA h=>h),?_⟩;exists _,S,b,G,_,S,W.obj,S,H,x,b,G,g,i,j,z,f,a,e,S,W,X,l,λdL ce=>?_;have a1:=W.on ce
 exists _,S,b,G,_,S,a1.obj,S,H,x,b,G,g,i,j,z,f,a,e,S,a1,X,l,λdT ch L3 a2 ci cl=>?_;exists _,S,b,G,_,S,a2.obj,S,H,ch,b,G,g,i,j,z,f,L3,e,S,a2,ci,l,λdX a3 k V y cn=>?_;exists _,S,b,G,_,S,V.obj,S,H,a3,b,G,g,i,j,z,f,L3,k,S,V,y,l,λd0 co=>?_;have s:=V.on co
 have d1:=y.bound F l;exists _,S,_,_,S,S,_,?_,Y (.int ((a.length+eF a e:Nat):Int)),a3,L3,k,decide (a.length+eF a e<L3.length+eF L3 k),?_,s,y,λcr=>?_,S
 .by_cases c:a.length+eF a e<L3.length+eF L3 k
  .rw [ai (cq c),ai S];lia
  .rw [N (by rw [bU c];decide),ai S];lia
 .have:decide (((L3.length+eF L3 k:Nat):Int)>((a.length+eF a e:Nat):Int))=decide (a.length+eF a e<L3.length+eF L3 k):=by rw [hb];lia
  rw [<-this];rfl
 .obtain⟨cs,ct,c0,c1,c2⟩:=P0 F l X y cl cn (of_decide_eq_false cr);let⟨c3,c4,c5,c6⟩:=s.ol;exists G,g,i,j,c3,L3,k,c0,s.obj,s.tb.ext _ _ c4,c5,c6,s.tb.at,cs,ct,c1,c2
end Cf
namespace L3
def lW:Int:=0xFCA86420
variable{ss:bZ}{B:ak}{m:aw}{p:au}{s5:J->ak->Prop}
theorem Qg{z:Int->ak->Prop}(D:ss.units<cK)(G:∀M,z lW {B with toks:=M}):aI (aM m p) ss (pyHash .none) z s5 B:=
 PySem.W.pyHash_slot (T:="NoneType") S F.slot_NoneType_hash F.entry_NoneType_hash (F.args_NoneType_hash_1 _) (T2 _) (.inr D) (aH (bu (aH (wpAny_mkInt (bu ⟨_,_,S,G _⟩)))))
variable{GT:Array g6}{d:Z}{t:Nat}
def find_none{o:aL}{S:Option Nat->ak->Prop}(U:B.heap.get? d=Y o)(b:o.data=.dict GT t)(c:∀G∈GT.toList,G.hash≠lW)(z:S O B):aI (aM m p) ss (dictFind d .none lW) S s5 B:=by
 have e:T3 GT.size (λM=>GT[M]?.map (·.hash)) lW=[]:=by
  unfold T3;rw [SK];intro M _ D;dsimp only at D;cases a:GT[M]? with
  |none=>rw [a]at D;cases D
  |some G=>
   rw [a]at D;exact c G (RL.mpr (Array.mem_of_getElem? a)) (by simpa using D)
 unfold dictFind
 try with_reducible refine nO ?_
 refine aH (j6 U b ?_);dsimp only;rw [e];unfold dictWalkPlain;rw [uH];exact bu z
variable{v4:List (List Key×Z×J)}{IR:J->ak->Prop}
def Qh(b:ss.in1.units<cK)(c:(d==eo)=ao)(D:B.heap.DictOfH (tk m p) d v4)(z:∀G∈v4,(tk m p).hash G.1≠lW)(e:∀U,s5 (.bool ao) {B with toks:=U}):aI (aM m p) ss (fD .In .none (.ref d)) s5 IR B:=by
 refine aH ?_;unfold contains
 try with_reducible refine nO ?_
 refine aH (uK D.typeIs HE.lookup ?_);rw [N (by rw [T2];exact d5)];refine aH (wpAny_callSpecialUnlessNone?_slot (name:=dO "__contains__") D.typeIs HE (rH HE D.typeIs entry_dict_contains ?_ (args_dict_contains _ _)));show aI _ _ (dictGet d .none>>=_) _ _ B
 let⟨o,j,k,f,_,g,h,_⟩:=D;refine aH ?_;unfold dictGet
 try with_reducible refine nO ?_
 refine aH (Qg b λU=>aH (find_none f g (λl a=>?_) (bu ?_)))
 .rw [h]at a;let⟨G,i,rfl⟩:=bH.mp a;exact z G i
 .exact aH (wpAny_pendingKey_other c (bu ⟨_,S,pP (bu (e _))⟩))
inductive Qi (z:aw) (w:au) (K:af) (H:U) (a:Z) (y:V) (A:Bool):Prop
 |mk(b:_)(_:H a=Y (dX z w a b))(_:cb K H b)(_:((∃k D,y=.ref D/\ax K H D (k.map kV)/\A=(cm b k).isSome)\/(y=.bw/\(∀x∈b,(tk z w).hash x.1≠lW)/\A=ao)))
inductive Qj (A:aw) (w:au) (K:af) (D:VK) (y:V) (x:V) (z:U):Prop
 |mk(a r:_)(_:x=.ref a)(_:Qi A w K z a y r)(_:D (.bl r) z)
def Qk(A:aw)(D:au)(K:af)(G M:TE):TE:=λz H N=>G z H λy S=>M z S λT U=>Qj A D K N y T U
variable{h:Cx}{op:a7}{sw zn:TE}
def Ql{o:a7}(a:aw)(b:au)(K:af)(c:h.A.units+1<cK)(m:PE h op sw)(n:PE h o zn)(p:h.prog=a:=by rfl)(hw:h.w=b:=by rfl)(q:h.K=K:=by rfl):PC h .In op o (Qk a b K sw zn):=by
 subst p hw q;intro d r e H as s t;refine aN (m d r e H _ s t) λf v ⟨y,w,x,g,B⟩=>aN (n d v e w _ x B) λu a0 ⟨z,i,A,C,E,a1,F,⟨L,j,k,P⟩,l⟩=>?_;subst F;obtain rfl:u=cp E:=C;rcases P with⟨Q,R,D,G,M⟩|⟨D,G,M⟩
 .subst D M;cases (show f=cp R from g);exact Bj c A j k G λa2 V=>⟨.bl (cm L Q).isSome,i,V,S,l⟩
 .subst D M;cases (show f=kQ from g);let⟨a3,X,a4,ab,ad⟩:=jI A j k;refine Qh (show h.A.in1.units<cK from c) X ad (λz al=>?_) λa5=>⟨.bl ao,i,A.tok _,S,l⟩
  let⟨am,an,ap,_⟩:=ab.mem z al;rw [<-ap];exact G am an
end L3
namespace Cf
abbrev Fg:a8:=top 77
variable{re:List Pr}{pu:bW}{m:aw}{p:au}
theorem Qm(U:pu.map (·.1)=re.map pk)(M:∀z∈re,z.1<5/\z.2<31):∀D∈pu,(tk m p).hash D.1≠lW:=λD a=>by
 have:D.1∈re.map pk:=U▸dY a;let⟨z,N,b⟩:=bH.mp this;have c:∀z∈yn,ym z≠lW:=by decide+kernel
 rw [<-b];exact c z (yo (M z N).1 (M z N).2)
def Fh(z:List V)(A:Nat):gH z O (Y ((A:Nat):Int))=z.take A:=by
 unfold gH;rw [HT.sk,show HT.gk z.length 0 O=0 from rfl,SN];rw [List.drop_zero];by_cases c:A<=z.length
 .rw [ik c]
 .rw [n7 (by lia),j4 (aR _),j4 (by lia)]
def Fi(z:List V)(A:Nat):gH z (Y ((A:Nat):Int)) O=z.drop A:=by
 unfold gH;rw [HT.sk,show HT.gk z.length z.length O=z.length from rfl];by_cases c:A<=z.length
 .rw [ik c];exact j4 (l7▸aR _)
 .rw [n7 (by lia),zY (aR _),zY (by lia),TY]
variable{pi:Ex}{d q Q:Z}{K:af}
def cg.nd{H:U}(A:cg K d q H Q pi):∃a N T b c D,∃M:List NR,H Q=Y (.ins d a (Eb N T b c D))/\H N=Y (.lst (cJ (bq pi)))/\H T=Y (.lst (M.map λA=>V.ref A.a))/\M.length=size pi/\ ∀(e:Nat) (A:NR),M[e]?=Y A->(∃j,H A.a=Y (.ins q j (eW A.i.aK A.i.word A.i.parent A.lp (((bq pi).length:Int)-A.sp.1) (((bq pi).length:Int)-A.sp.2))))/\(df pi 0)[e]?=Y A.sp:=by
 let⟨a,N,T,b,c,D,k,l,⟨M,m,n,o,p⟩,_⟩:=A.ex;exists a,N,T,b,c,D,M,k,l,m,?_,λe A i=>⟨(n A (cG i)).1,by rw [<-p,bh,i];rfl⟩;have:=bD cN o
 rw [z,eU]at this;exact this
inductive Fj (K:af) (D M S:Z) (T:List V) (H:U) (a:VK) (b:XK):Prop
 |mk(p lt e x:_)(t:aj)(_:T=[.ref p,.int (ag x:Nat),.ref lt])(_:cg K D M H p e)(_:x∈aG e)(_:H lt=Y (.lst (cJ t)))(_:t.length<=2000)(_:(rR e (ag x) t=O->∀z,Ext H z->b (.ref S) O z))(_:∀A y,rR e (ag x) t=Y A->size A+size x=size e+size y->aW 0 A=aW 0 (cQ (ag x) y e)->∀N z,Ext H z->cg K D M z N A->a (.ref N) z)
variable{L:aa->Option J}{P:aD}{pp:Z}{pc:bc}
def Qn(ce:a9 K "changed_program" "changed_program" Fg pp pc)(a:eE K d q)(ch:q_ 8 "read_expression" ["text"] (x7 q Q))(ci:iu m p K L P (bA m p) 9 "Program" d ["self","text"] (tP K d q Q)):k_ 11 pp pc ["program","label","text"] (Fj K d q Q):=by
 refine ce.et ["program","label","text","node"] λem eq es ev H ex fa fd ab cl cn _ sz=>?_;let⟨F,ad,h,i,U,rfl,al,s,am,fl,an,co⟩:=cl;exists _,ar (cM (gI ch (ab.mo 8) dw (aJ 2))) (ar (bj 3 cn (cc dk (aF 0) (T 1) (λ_ _=>S))) (ay (aQ (iv ci ab dw (A (hg lu (hg lu (qx qz (aF 0) sl (oq (aF 3))) (T 2)) (qx qz (aF 0) (oq (aF 3)) sl)) aC))))),?_;have j:=al.ok
 let⟨D,N,E⟩:=xo j s;exists _,S,ad,U,S,am,by lia,?_;cases ap:hH (bY [] (U.map norm))with
 |none=>exactλcr cs=>an (M9 j s (MX.mp ap)) cr cs
 |some ct=>
 let⟨c0,fm⟩:=ct;have c1:runM (bY [] (U.map norm))=Y c0:=by rw [<-xk,ap];rfl
 let⟨as,c2⟩:=Na j s E c1;intro w fn fr t _ _ _ _ _;let⟨b,a0,c3,fs,fT,f0,a1,g,a2,c4,c5,c6⟩:=(al.ext t).nd;have c7:ag i<a1.length:=by rw [c5];exact j.lt s
 obtain⟨e,a3⟩:∃e,a1[ag i]?=Y e:=⟨_,gf c7⟩
 let⟨⟨a4,R⟩,a5⟩:=c6 _ _ a3;have bd:e.sp=((bq i).length+N.length,N.length):=by rw [E.span]at a5;exact(aS a5).symm
 have be:(bq h).length=D.length+((bq i).length+N.length):=by rw [E.text,br,br]
 have c8:((bq h).length:Int)-e.sp.1=((D.length:Nat):Int):=by rw [bd,be];lia
 have c9:((bq h).length:Int)-e.sp.2=((D.length+(bq i).length:Nat):Int):=by rw [bd,be];lia
 have f1:=E5 h j.told;have f2:=j.bL
 rw [c8,c9]at R;exists _,S,F,d,b,_,_,S,g,a.p.c,a.p.nodes,S,_,S,c3,_,_,_,S,S,av.of c4,e2 (by rw [bh,a3];rfl),?_;exists _,S,F,d,b,_,_,S,g,a.p.c,a.text,S,_,S,e.a,q,a4,_,_,S,R,a.n.cl,a.n.begin_,S,_,S,a0,_,S,av.of a2,λk db=>?_;have bi:∀{o},Ext w (upd w k o):=Ext.one db
 have dd:gH (cJ (bq h)) O (Y ((D.length:Nat):Int))=cJ D:=by rw [Fh,E.text];unfold cJ;rw [aT,TZ (by rw [z];exact aR _),j4 (by rw [z];exact aR _)]
 have dl:gH (cJ (bq h)) (Y ((D.length+(bq i).length:Nat):Int)) O=cJ N:=by rw [Fi,E.text,<-ck];unfold cJ;rw [aT,List.drop_left' (by rw [z,br])]
 have x:∀u:aj,(cJ u).length=u.length:=λu=>z _;have bk:∀u v:aj,cJ u++cJ v=cJ (u++v):=λu v=>aT.symm
 rw [dd];exists _,S,k,ad,_,_,S,S,M,bi _ _ (t _ _ am),by rw [x,x];lia,λn dp=>?_;rw [bk];have B:∀{o},Ext w (upd (upd w k (.lst (cJ D))) n o):=bi.new dp
 exists _,S,F,d,b,_,_,S,B _ _ g,a.p.c,a.text,S,_,S,e.a,q,a4,_,_,S,B _ _ R,a.n.cl,a.n.end_,S,_,S,a0,_,S,av.of (B _ _ a2),λC bl=>?_;rw [dl];exists n,C,_,_,S,S,(Ext.one bl) _ _ M,M,by rw [x,x,br];lia,λG ds=>?_;rw [bk,ck];have bm:Ext w (upd (upd (upd (upd w k (.lst (cJ D))) n (.lst (cJ (D++U)))) C (.lst (cJ N))) G (.lst (cJ (D++(U++N))))):=(B.new bl).new ds
 have dx:upd (upd (upd (upd w k (.lst (cJ D))) n (.lst (cJ (D++U)))) C (.lst (cJ N))) G (.lst (cJ (D++(U++N)))) G=Y (.lst (cJ (D++(U++N)))):=M;generalize upd (upd (upd (upd w k (.lst (cJ D))) n (.lst (cJ (D++U)))) C (.lst (cJ N))) G (.lst (cJ (D++(U++N))))=V at*;intro f W bn dK dL;have bs:Ext V (upd (upd V W (.own f)) f (.ins d W [])):=(Ext.one dK).new ((ah dL.symm).trans bn)
 have bt:∀{l},bN f (upd (upd V W (.own f)) f (.ins d W [])) l->Ext H l:=λr c o bv=>r c o (bs _ _ (bm _ _ (t _ _ bv))) (cB (bm _ _ (t _ _ bv)) bn);exists f,W,G,D++(U++N),S,M,bs _ _ dx,by rw [br,br];lia,λdT l r=>?_,λca cd l r dX=>⟨S,?_⟩
 .exact an (as.trans dT) l (bt r)
 .obtain⟨y,d0,d1⟩:=c2 ca cd;exact co ca y (as.trans cd) d0 d1 f l (bt r) dX
abbrev Fl:a8:=top 78
def gA(z D G:Ex)(A:Nat):Option Nat:=if A<size z then er (e1 z D (ag G)) A else O
set_option tactic.hygienic true
variable{o0:Tb}{wv:Pred}
def Qo{f x:Ex}(D:bG pi){new:Tb}(M:bM pi o0 wv):hq (gA pi f x) o0 new=hq (er (e1 pi f (ag x))) o0 new:=by
 unfold hq;congr 1;refine gE λy b=>?_;have N:=hI (M.nodup D) (show(y.1,y.2)∈o0 from b)
 let⟨o,c,e⟩:=M.key (kE N);let⟨p,g,h,_⟩:=pe D c;have T:∀A,A<size pi->gA pi f x A=er (e1 pi f (ag x)) A:=λA i=>ai i
 have j:fj (gA pi f x) y.1=fj (er (e1 pi f (ag x))) y.1:=by unfold fj;rw [T _ (by rw [e,<-h];exact D.lt g)]
 unfold jO;rw [j];cases fj (er (e1 pi f (ag x))) y.1 with
 |none=>rfl
 |some q=>
  dsimp only;congr 1;refine gE λk l=>?_;let⟨r,m,rfl⟩:=M.sub N k l;unfold fY;split
  .rfl
  .rename_i n;unfold fj;rw [T];rcases i5.mp m with rfl|⟨A,y,s,rfl,a⟩|⟨A,x,y,rfl,a⟩|⟨A,d,rfl,a⟩
   .exact absurd rfl n
   .exact D.lt a
   .exact D.lt a
   .exact D.lt a
set_option tactic.hygienic false
inductive Fn (K:af) (A D:Z) (M:List V) (H:U) (N:VK) (S:XK):Prop
 |mk(po pn e f x y:_)(_:M=[.ref po,.ref pn,.int (ag x:Nat)])(_:cg K A D H po e)(_:cg K A D H pn f)(_:x∈aG e)(_:size f+size x=size e+size y)(_:∀d z,Ext H z->pF z d (gA e f x)->N (.ref d) z)
def Qp{u:Z}(ci:a9 K "moved_labels" "moved_labels" Fl q pc)(h:eE K d u)(bd:L "len"=O)(cl:L "enumerate"=O):f_ 1 q pc ["old","new","label"] (Fn K d u):=by
 refine ci.go ["old","new","label","more","moved","other","node"] λem eq es ev H ex fa fd fl cn x be sz=>?_;let⟨B,bi,G,f,a,y,rfl,bk,co,W,cr,cs⟩:=cn;exists _,ar (bj 3 x (hg vF (cR ej (by rfl) bd dE (A (aF 1) aC)) (cR ej (by rfl) bd dE (A (aF 0) aC)))) (ar (bj 4 x wk) (ar (d3 dZ S (sC S cl (A (aF 0) aC)) (lj S (gT (bX 5 x) (gT (bX 6 x) lh))) (ay (bK (bS sf (T 5) (T 2) (bV _)) (ay (sA be (T 4) (T 5) (T 5) S)) (ay (bK (bS IW (aF 6) (fQ (cc dk (aF 0) (T 2) (λ_ _=>S)) S) (bV _)) (ay (sA be (T 4) (T 5) (hg se (T 5) (T 3)) S)) bQ))))) (ay (aQ (T 4))))),?_;have C:=bk.ok
 let⟨fm,ct,bl⟩:=xo C W;let⟨c0,c1,c2,fn,_,_,c3,c4,c5,c6,_⟩:=co.node (gW f);let⟨X,fr,ab,fs,fT,f0,ad,al,f1,E,F,bm⟩:=bk.nd;have c7:ag a<ad.length:=F▸C.lt W
 obtain⟨n,bn⟩:∃n,ad[ag a]?=Y n:=⟨_,gf c7⟩
 let⟨⟨c8,c9⟩,bs⟩:=bm _ _ bn;have db:n.sp.2=ct.length:=by rw [bl.span]at bs;rw [<-aS bs]
 have f2:=C.bL;exists _,S,bi,d,c0,c1,_,S,c3,h.p.c,h.p.nodes,c4,c2,_,S,.inl (av.of c5),_,S,B,d,X,_,_,S,al,h.p.c,h.p.nodes,S,ab,_,S,.inl (av.of E),_,_,S,S,?_;rw [z,z,c6,F];intro a4 am;have an:∀{o},Ext H (upd H a4 o):=Ext.one am
 exists _,S,B,d,X,_,_,S,an _ _ al,h.p.c,h.p.nodes,S,ab,_,S,av.of (an _ _ E),?_;let dd:VLx:=λD r l=>X3 λap as i=>A5 (r=[Y (.ref B),Y (.ref bi),Y (.int (ag a:Nat)),Y (.int ((size f:Int)-(size G:Int))),Y (.ref a4),ap,as]) (Ext H l) (l a4=Y (.dK i)) (i.length<=D) (∀b:Nat,cU i (.inl (b:Int))=(if b<D then gA G f a b else O).map λg=>V.int (g:Nat))
 refine yc (xs:=ad.map λn=>V.ref n.a) dd ?_ ?_ ?_ ?_
 .exact⟨O,O,[],S,an,M,aR _,λb=>by rw [N (k8 _)];rfl⟩
 .rintro D r l _ ⟨_,_,_,_,t,_⟩;exact av.of (t _ _ E)
 .rintro D v r l Q bt ⟨ap,as,i,rfl,t,a0,dl,R⟩ bv;rw [bh]at bt;let⟨s,ca,rfl⟩:=cv.mp bt;let⟨⟨dp,ds⟩,dx⟩:=bm _ _ ca;have dK:D<size G:=F▸(cF.mp ca).1
  have a5:Ext H (upd l Q (.tup [.int (D:Nat),.ref s.a])):=t.new bv;have a1:upd l Q (.tup [.int (D:Nat),.ref s.a]) a4=Y (.dK i):=(Ext.one bv) _ _ a0
  exists Q,_,S,ax.of M,S,_,_,S,_,_,S,S,?_;generalize upd l Q (.tup [.int (D:Nat),.ref s.a])=f4 at*;have cd:∀{g:Nat},gA G f a D=Y g->∀b:Nat,cU (putK i (.inl (D:Int)) (V.int (g:Nat))) (.inl (b:Int))=(if b<D+1 then gA G f a b else O).map λg=>V.int (g:Nat):=λ{g} a2 b=>by
   rw [J5,R];by_cases c:b=D
   .rw [ai (by rw [c]),ai (by lia),c,a2];rfl
   .rw [N (λce=>c (by injection ce with ce;lia))];by_cases j:b<D
    .rw [ai j,ai (by lia)]
    .rw [N j,N (by lia)]
  have dL:gA G f a D=O->∀b:Nat,cU i (.inl (b:Int))=(if b<D+1 then gA G f a b else O).map λg=>V.int (g:Nat):=λa2 b=>by
   rw [R];by_cases c:b=D
   .rw [N (by lia),ai (by lia),c,a2]
   .by_cases j:b<D
    .rw [ai j,ai (by lia)]
    .rw [N j,N (by lia)]
  have e:=(Nb C W cr) D;have dT:gA G f a D=er (e1 G f (ag a)) D:=ai dK
  rw [<-dT]at e;unfold xp at e;exists _,S,_,S,_,_,S,S,_,S,?_;by_cases ch:D<ag a
  .rw [cq (show((D:Nat):Int)<((ag a:Nat):Int)by lia)];rw [ai ch]at e;have a3:gA G f a D=Y D:=by
    cases w:gA G f a D with
    |none=>rw [w]at e;cases e
    |some g=>rw [w]at e;have:((g:Nat):Int)=((D:Nat):Int):=aS e;rw [show g=D by lia]
   refine cf ⟨_,S,_,S,_,S,a4,_,S,mz.k (k:=.inl (D:Int)) a1 (by lia),_,_,_,S,a5.upd am,M,?_,cd a3⟩;have:=sx i (.inl (D:Int)) (V.int (D:Nat))
   lia
  .rw [bU (show¬((D:Nat):Int)<((ag a:Nat):Int)by lia)];rw [N ch]at e;refine b1 ⟨_,S,s.a,u,dp,_,_,S,a5 _ _ ds,h.n.cl,h.n.begin_,S,_,S,B,d,X,_,_,S,a5 _ _ al,h.p.c,h.p.nodes,S,_,S,ab,_,_,_,S,S,av.of (a5 _ _ E),e2 (by rw [bh,bn];rfl),n.a,u,c8,_,_,S,a5 _ _ c9,h.n.cl,h.n.end_,S,_,_,S,S,_,S,?_⟩;have dX:=bl.back D s.sp dx (by lia)
   have d0:decide (((bq G).length:Int)-s.sp.1>=((bq G).length:Int)-n.sp.2)=decide (ag a+size a<=D):=by
    rw [hb,<-dX,db]
    lia
   rw [d0];by_cases j:ag a+size a<=D
   .rw [cq j];rw [ai j]at e;cases w:gA G f a D with
    |none=>rw [w]at e;cases e
    |some g=>
     rw [w]at e;have d1:=(aS e).symm
     refine cf ⟨_,S,_,S,_,_,S,S,_,S,_,S,a4,_,S,mz.k (k:=.inl (D:Int)) a1 (by lia),_,_,_,S,a5.upd am,M,?_,?_⟩
     .exact cu (sx _ _ _) (by lia)
     .rw [d1];exact cd w
   .rw [bU j];rw [N j]at e;have a3:gA G f a D=O:=by
     cases w:gA G f a D with
     |none=>rfl
     |some g=>rw [w]at e;cases e
    exact b1 ⟨_,_,_,S,a5,a1,by lia,dL a3⟩
 .rintro r l ⟨ap,as,i,rfl,t,a0,dl,R⟩;exists _,S,cs a4 l t ⟨i,a0,λb=>?_⟩;rw [R,z,F];by_cases c:b<size G
  .rw [ai c]
  .rw [N c,show gA G f a b=O from N c]
abbrev Fo:a8:=top 81
structure Lk(K:af)(d:Z)(H z:U):Prop where
 bt:bN d H z
 sq:∀A D,ax K H A D->ax K z A D
theorem Lk.lock{H:U}{u o:HO}(D:H d=Y u)(M:NT u):Lk K d H (upd H d o):=⟨λN o S c=>(ah c).trans S,λN T=>ny λv A=>by rw [D]at A;cases A;exact M⟩
variable{r s0:U}
theorem Lk.on{H:U}(M:Lk K d H r)(N:Ext r s0):Lk K d H s0:=⟨M.bt.ext N,λb S T=>N.aP (M.sq b S T)⟩
theorem Lk.done{H:U}{u:HO}(N:Lk K d H r)(S:H d=Y u):Ext H (upd r d u):=λD o T=>by
 by_cases c:D=d
 .rwa [c,M,<-S,<-c]
 .rw [ah c];exact N.bt D o T c
theorem Lk.put{H:U}{o:HO}(M:Lk K q H r)(S:H d=O)(T:cX (r d)\/r d=O):Lk K q H (upd r d o):=⟨λb u N c=>(ah (cB N S)).trans (M.bt b u N c),λb a z=>bF T (M.sq b a z)⟩
def pG(K:af)(H:U)(v:V):Option Pr->Prop
 |none=>v=.bw
 |some p=>∃z,v=.ref z/\ax K H z (b4 p)
def pG.sq{H:U}{v:V}{o:Option Pr}(N:∀z D,ax K H z D->ax K r z D)(M:pG K H v o):pG K r v o:=by
 cases o with
 |none=>exact M
 |some p=>let⟨z,S,T⟩:=M;exists z,S,N _ _ T
inductive Fp (m:aw) (p:au) (K:af) (M:List V) (H:U) (N:VK) (S:XK):Prop
 |mk(to tn d b old new a:_)(_:M=[.ref to,.ref tn,.ref d])(_:TabAt m p K b to old)(_:b8 m p K b H tn new)(_:pF H d a)(_:(old.map (·.1)).Nodup)(_:(∀y∈old,y.2.length<=31))(_:(∀y∈old,∀z,fj a y.1=Y z->∃A,ba new z=Y A/\∀u∈A,u.1<5/\u.2<31))(_:∀D,Ext H D->N (.int (hq a old new:Nat)) D)
def Qq(g3:a9 K "how_many_kept" "how_many_kept" Fo d pc)(hd:L "len"=O)(he:g_ 1 "moved_two" ["two","moved"] (yN K))(hf:g_ 2 "moved_sort" ["sort","moved"] (EZ K)):f_ 3 d pc ["old_table","new_table","moved"] (Fp m p K):=by
 refine g3.go ["old_table","new_table","moved","kept","place","becomes","sorts","sort"] λlw l0 mg G H e mk mo dL x q w sz=>?_;let⟨f,ca,ap,mp,Q,n,a,rfl,ct,r,⟨dT,R,d0⟩,d1,hi,hm,hz⟩:=x;have h0:=dL.mo 1
 exists _,ar (bj 3 q cL) (ar (mB (d3 dZ S (lB (T 0)) (bX 4 q) (ar (bj 5 q (bI he h0 (A (T 4) (aJ 2)))) (ay (bK (bS IX (T 5) vr S) (ar (mB (su (i:=6) (own:=[("sort",7)]) S q S rfl (sv S rfl rfl rfl) (lB (Ep m p K w (T 0) (T 4) (λ_ _=>S))) (e3 S) (λG H as a0 a1=>bX 7 q) (λG H as a0 a1=>hB) (λG H as a0 a1=>bI hf dL (A (T 7) (aJ 2))))) (ay (z9 (i:=3) q S (zx S) (cR ej (by rfl) hd dE (A (fU (own:=[("sort",7)]) S q (dC (T 6)) (e3 S) (λG H as a0 a1=>bX 7 q) (λG H as a0 a1=>kv (i0 (Ql m p K w (T 7) (pf m p K w (T 1) (T 5) (λ_ _=>S))) S)) (λG H as a0 a1=>T 7)) aC)) IS))) bQ))))) (ay (aQ (T 3)))),?_;let⟨B,a2,em,cd,ms,h1⟩:=ct;have W:=r.ext _ _ a2
 exists f,_,W,trivial,λce=>?_;exists _,S,f,ce,B,S,M,?_;have h2:=bO cd
 let X:VLx:=λC ch ab=>X4 λc0 c1 ci a3=>A3 (ch=[Y (.ref f),Y (.ref ca),Y (.ref ap),Y (.int (hq a (Q.take C) n:Nat)),c0,c1,ci,a3]) (ab f=Y (.bP ce (dX m p f B))) (Lk K f H ab);refine yO (aX:=B) X ?_ ?_ ?_ ?_
 .exact⟨O,O,O,O,S,M,Lk.lock W t6⟩
 .rintro C ch ab _ ⟨_,_,_,_,_,x,_⟩;exact x
 .rintro C s ch ab c2 ⟨c0,c1,ci,a3,rfl,cl,ad⟩;let⟨y,eq,es,D,ev,g,a4,id,ex⟩:=ey cd c2;have c3:=cG eq
  have fa:=cG c2;have fd:ax K ab s.2.1 (b4 y.1):=by have:=ad.sq _ _ (r.ext.aP (em s fa));rw [es]at this;exact this
  have ii:∀{a5},Lk K f H a5->pF a5 ap a:=λc4=>⟨dT,c4.bt _ _ R (cW R W (by intro j;cases j)),d0⟩
  have fl:hq a (Q.take (C+1)) n=hq a (Q.take C) n+jO a n y:=by
   unfold hq;rw [dq,eq,aT,vd];show _+(jO a n y+0)=_
   lia
  exists _,S,_,S,s.2.1,y.1,ap,a,S,fd,ii ad,?_;cases c5:fj a y.1 with
  |none=>
   have im:jO a n y=0:=by unfold jO;rw [c5]
   exists _,S,S,_,S,b1 ⟨Y (.ref s.2.1),Y .bw,ci,a3,?_,cl,ad⟩;rw [fl,im];rfl
  |some dK=>
  intro c6 bd c7 io;let⟨be,fm,is⟩:=hm y c3 dK c5;let⟨it,c8,ix,jp,kk,kp,fn,ks,kt,fr,mt,_⟩:=r.yQ fm;have al:=ad.on c7
  have fs:=c7 _ _ cl;have kw:=r.ext _ _ a4
  have cn:D≠f:=by rintro rfl;exact h1 (by rw [<-ev];exact dY fa)
  have co:=al.bt _ _ kw cn;have kP:c8≠f:=by rintro rfl;rw [fn]at a2;cases a2
  have mA:c8≠D:=by rintro rfl;rw [fn]at a4;cases a4
  have kV:ca≠f:=by rintro rfl;rw [r.new]at a2;cases a2
  have mC:ca≠D:=by rintro rfl;rw [r.new]at a4;cases a4
  have k0:Y (V.ref D)=cm B s.1:=by
   let⟨mF,bi,E⟩:=fZ cd (hI d1 (show(y.1,y.2)∈Q from c3));have k1:(B.map (·.1)).Nodup:=by rw [tR cd];exact iD (λ_ _=>lP) d1
   rw [yD k1 c2,ev]
  exists _,S,S,_,S,cf ⟨D,_,co,trivial,λc9=>?_⟩;have db:Lk K D bd (upd bd D (.bP c9 (dX m p D g))):=Lk.lock co t6
  exists _,S,_,S,f,.ref D,S,⟨B,s.1,s.2.1,.inr ⟨ce,(ah cn.symm).trans fs⟩,λk2 k3=>db.sq _ _ (al.sq _ _ (r.ext.aP (em k2 k3))),S,db.sq _ _ (by rw [es];exact c7.aP fd),k0⟩,D,c9,g,S,M,λl bk=>?_;have bl:D≠l:=by rintro rfl;rw [M]at bk;cases bk
  have dd:bd l=O:=by rw [ah bl.symm]at bk;exact bk
  have k5:g.length=y.2.length:=by have:=bD cN ex;rwa [z,z]at this
  have mL:=hi y c3;have la:∀{a5},Lk K D bd a5->Lk K f H (upd a5 D (dX m p D g)):=λc4=>al.on (c4.done co)
  let X:VCx:=λh b=>A3 (∃e,b l=Y (.lst e)/\e.length=h/\cE (pG K b) e ((y.2.take h).map (fY a))) (b D=Y (.bP c9 (dX m p D g))) (Lk K D bd b);refine rf (aX:=g) X ?_ ?_ ?_ ?_
  .exact⟨⟨[],M,S,.nil⟩,(ah bl).trans M,db.put dd (.inr bk)⟩
  .rintro h b _ ⟨_,x,_⟩;exact x
  .rintro h j b fT ⟨⟨e,bm,dl,bn⟩,bs,t⟩;have f0:(g.map (·.1))[h]?=Y j.1:=by rw [bh,fT];rfl
   rw [ex,bh]at f0;let⟨am,f1,lb⟩:=cv.mp f0;have lc:ax K b j.2.1 (b4 am):=by have:=t.sq _ _ (al.sq _ _ (r.ext.aP (id j (cG fT))));rw [<-lb]at this;exact this
   have mM:=(cF.mp f1).1;have ld:pF b ap a:=⟨dT,t.bt _ _ (al.bt _ _ R (cW R W (by intro j;cases j))) (cW (al.bt _ _ R (cW R W (by intro j;cases j))) co (by intro j;cases j)),d0⟩
   have le:(y.2.take (h+1)).map (fY a)=(y.2.take h).map (fY a)++[fY a am]:=by rw [dq,f1,aT];rfl
   exists S,?_;unfold hk;dsimp only [];rw [ai S];exists _,S,_,S,j.2.1,am,ap,a,S,lc,ld,?_;dsimp only [X];rw [le];cases mN:fY a am with
   |none=>
    have an:cX (b l)\/b l=O:=.inl (by rw [bm];exact trivial);exists e,bm,by lia,⟨e++[.bw],M,by rw [br,dl];rfl,fL (Paired.b9 bn λ_ _ dK=>dK.sq λF bt=>bF an) (show pG K _ V.bw O from rfl)⟩,(ah bl).trans bs,t.put dd an
   |some mP=>
    intro f2 f4 cr lf;have f8:=cr _ _ bm
    have an:cX (f4 l)\/f4 l=O:=.inl (by rw [f8];exact trivial);exists e,f8,by lia,⟨e++[.ref f2],M,by rw [br,dl];rfl,fL (Paired.b9 bn λ_ _ dK=>dK.sq λF bt x=>bF an (cr.aP x)) ⟨f2,S,bF an lf⟩⟩,(ah bl).trans (cr _ _ bs),(t.on cr).put dd an
  .rintro b ⟨⟨e,bm,dl,bn⟩,bs,t⟩;rw [k5,dB]at bn;exists bs,?_;have ga:=la t
   have ge:∀F bt,ax K b F bt->ax K (upd b D (dX m p D g)) F bt:=λF bt=>ny λu w=>by rw [bs]at w;cases w;exact t7
   have li:upd b D (dX m p D g) f=Y (.bP ce (dX m p f B)):=(ah cn.symm).trans (t.bt _ _ fs cn.symm);have gl:upd b D (dX m p D g) l=Y (.lst e):=(ah bl.symm).trans bm
   have go:cE (pG K (upd b D (dX m p D g))) e (y.2.map (fY a)):=Paired.b9 bn λ_ _ dK=>dK.sq ge;have lm:ax K (upd b D (dX m p D g)) c6 (b4 dK):=ge _ _ (t.sq _ _ io)
   generalize upd b D (dX m p D g)=dp at*;exists _,S,_,S,l,S,⟨_,av.of gl⟩,λds gt=>?_;have ln:∀{o},Ext dp (upd dp ds o):=Ext.one gt
   have lo:e.length=y.2.length:=by rw [bO go,z]
   let X:VCx:=λh bv=>(∃k,bv ds=Y (.lst k)/\k.length=((y.2.map (fY a)).take h).countP λo=>o.any λG=>decide (G∈be))/\Ext dp bv;refine hC (xs:=e) X ?_ ?_ ?_ ?_
   .exact⟨⟨[],M,S⟩,ln⟩
   .rintro h bv _ ⟨_,dx⟩;exact av.of (dx _ _ gl)
   .rintro h v bv lp ⟨⟨k,bi,E⟩,dx⟩;let⟨o,ct,g1⟩:=ey go lp;have cs:=ga.on dx
    have mR:k.length<=31:=by
     rw [E];refine cu T1 ?_;rw [dU,z]
     lia
    have g2:((y.2.map (fY a)).take (h+1)).countP (λo=>o.any λG=>decide (G∈be))=((y.2.map (fY a)).take h).countP (λo=>o.any λG=>decide (G∈be))+if(o.any λG=>decide (G∈be))=I then 1 else 0:=by
     rw [dq,ct,Tu];congr 1;show Ht _ [o]=_
     rw [List.countP_singleton]
    exists S,_,S,_,S,_,S,ca,_,S,⟨it,pk dK,c6,cs.bt _ _ jp kV,kk.same cs.sq,S,dx.aP lm,kp.symm⟩,c8,o.any (λG=>decide (G∈be)),S,⟨ix,cs.bt _ _ ks kP,kt.same cs.sq,?_⟩,_,S,?_
    .cases o with
     |none=>exact .inr ⟨g1,Qm fr is,S⟩
     |some am=>
      let⟨F,ls,lt⟩:=g1;exact .inl ⟨pk am,F,ls,dx.aP lt,by rw [kJ fr];rfl⟩
    .refine eb (λc=>?_) (λc=>?_)
     .refine⟨_,S,k,bi,by lia,⟨k++[v],M,?_⟩,dx.upd gt⟩;rw [g2,ai c,br,E];rfl
     .refine⟨⟨k,bi,?_⟩,dx⟩;rw [g2,N c,E];rfl
   .rintro bv ⟨⟨k,bi,E⟩,dx⟩;rw [lo,<-z (f:=fY a),dB]at E;have lv:jO a n y=k.length:=by
     unfold jO;rw [c5];dsimp only;rw [fm,E];rfl
    exists ds,_,S,.inl (av.of bi),_,_,S,S,Y (.ref s.2.1),Y (.ref c6),Y (.ref l),a3,?_,dx _ _ li,ga.on dx;rw [fl,lv];have:((hq a (Q.take C) n:Nat):Int)+((k.length:Nat):Int)=((hq a (Q.take C) n+k.length:Nat):Int):=by lia
    rw [<-this];rfl
 .rintro ch ab ⟨c0,c1,ci,a3,rfl,cl,ad⟩;rw [h2,dB];exists cl,_,S,hz _ (ad.done W)
abbrev Fq:a8:=top 82
def chg(z A D:Ex):Vacfaf.Changes:=k6 (e1 z A (ag D)) (d7 z) (d7 A)
inductive Fs (K:af) (D M:Z) (N:List V) (H:U) (S:VK) (T:XK):Prop
 |mk(po pn e f x y:_)(_:N=[.ref po,.ref pn,.int (ag x:Nat)])(_:cg K D M H po e)(_:cg K D M H pn f)(_:x∈aG e)(_:size f+size x=size e+size y)(_:aW 0 f=aW 0 (cQ (ag x) y e))(_:∀z A,Ext H A->H z=O->A z=Y (.lst ([(chg e f x).kept,(chg e f x).gone,(chg e f x).came].map λn:Nat=>V.int (n:Nat)))->S (.ref z) A)
def Qr(a1:a9 K "kept_gone_and_new" "kept_gone_and_new" Fq d pc)(E:g_ 5 "least_table" ["program"] (tT m p K q Q))(a2:g_ 3 "how_many_kept" ["old_table","new_table","moved"] (Fp m p K))(a3:g_ 1 "moved_labels" ["old","new","label"] (Fn K q Q)) (F:g_ 1 "how_many_facts" ["table"] (yt m p K)):f_ 6 d pc ["old","new","label"] (Fs K q Q):=by
 refine a1.go ["old","new","label","old_table","new_table","kept"] λc1 c2 c3 c4 H c5 c6 c7 g a4 o _ _=>?_;let⟨N,w,b,d,c,y,rfl,n,C,r,a5,R,bd⟩:=a4;have s:=g.mo 1
 exists _,ar (bj 3 o (bI E g (aJ 0))) (ar (bj 4 o (bI E g (aJ 1))) (ar (bj 5 o (bI a2 (g.mo 3) (A (T 3) (A (T 4) (A (bI a3 s (A (T 0) (A (T 1) (aJ 2)))) aC))))) (ay (aQ (de (A (T 5) (A (hg vF (bI F s (aJ 3)) (T 5)) (A (hg vF (bI F s (aJ 4)) (T 5)) aC)))))))),?_;have U:=n.ok
 have G:=C.ok;exists _,S,N,b,S,n,λV be h e a=>?_;exists _,S,w,d,S,C.ext e.ext,λW c8 i j k=>?_;have X:=e.ext.trans j.ext
 exists _,S,_,S,_,S,_,S,_,S,N,w,b,d,c,y,S,n.ext X,C.ext X,r,a5,λbi c9 t bk=>?_;have db:h.length<=90:=by
  have:=bD cN a.keys;rw [z,z]at this;have bl:=places_len b
  have bm:=U.bL
  lia
 have dd:i.length<=90:=by
  have:=bD cN k.keys;rw [z,z]at this;have bl:=places_len d
  have bm:=G.bL
  lia
 exists V,W,bi,be,h,i,_,S,e.at,j.on t,bk,a.nodup U,λl B=>(a.len U (hI (a.nodup U) (show(l.1,l.2)∈h from B))).1,λl B dl ab=>?_,λdp ad=>?_
 .obtain⟨al,am,bn⟩:=a.key (dY (f:=(·.1)) B);let⟨u,bs,bt,_⟩:=pe U am;have bv:fj (gA b d c) l.1=fj (er (e1 b d (ag c))) (D al):=by
   unfold fj;rw [bn,show gA b d c (D al).2=_ from ai (bt▸U.lt bs)]
  rw [bv,xw]at ab;let⟨ca,cd,rfl⟩:=cv.mp ab;let⟨ce,ch,_,ci,_⟩:=k.row ca (E6 U r G R am cd);exact⟨ce,ch,λv cl=>by let⟨ds,cn,rfl⟩:=ci v cl;exact yq G cn⟩
 .obtain⟨co,cr,cs⟩:=P2 U r G R a k;have an:=j.ext.trans (t.trans ad)
  exists _,S,_,S,V,h,S,e.at.ext an,a.nodup U,by lia,λdx ap=>⟨_,S,_,_,S,S,?_⟩;exists _,S,W,i,S,j.at.ext ((t.trans ad).trans ap),k.nodup G,by lia,λdK ct=>⟨_,S,_,_,S,S,(by show 3<=aU;decide),λc0 as=>?_⟩;have a0:=e.ext.trans (an.trans (ap.trans ct))
  refine bd c0 _ (a0.new as) (a0.none as) ?_;rw [M,Qo (f:=d) (x:=c) (new:=i) U a]
  skip
  rw [cr,cs,co];rfl
def rq(z:List Pr):(ct z).length=2*z.length+1:=by
 unfold ct;rw [dn];congr 1;induction z with
 |nil=>rfl
 |cons a b c=>rw [b3,br,c];show 2+_=2*(b.length+1);lia
def nI(z:List Nat):List Int:=z.map zS
variable{v0:Int}{Ws:Nat->mj}
theorem Ft(G:0<=v0/\v0<4):z1 v0 Ws=Ws v0.toNat:=N (by rintro(D|D);lia;exact absurd D (by show¬(4:Int)<=v0;lia))
theorem Fu(D:¬(0<=v0/\v0<4)):z1 v0 Ws=.error 2:=ai (by by_cases c:v0<0;exact .inl c;exact .inr (show(4:Int)<=v0 by lia))
variable{Do:n6}
def pH(D:bG Do.prog)(U:0<=v0/\v0<(size Do.prog:Int)):∃A∈aG Do.prog,v0=(ag A:Nat)/\∀G,rZ Do v0 G=G A:=by let⟨A,M,T⟩:=D.node (l:=v0.toNat) (by lia);exists A,M,by lia,λG=>?_;unfold rZ;rw [N (by lia),D.cY.nodeAt,<-T,D.cY.get M];rfl
def pI(A:bG Do.prog){D:ae->mj}(G:¬(0<=v0/\v0<(size Do.prog:Int))):rZ Do v0 D=.error 3:=by
 unfold rZ;by_cases c:v0<0
 .rw [ai c]
 .rw [N c,A.cY.nodeAt,GG (by show size Do.prog<=_;lia)];rfl
variable{sK AC:Type}
theorem Fv{G M:sK->List AC}:∀{A:List sK},(∀z∈A,G z=M z)->A.flatMap G=A.flatMap M
 |[],_=>rfl
 |a::c,b=>by rw [b3,b3,b a bE,Fv λz T=>b z (bC _ T)]
def Qs(z:List Info)(c:Fm->Bool):(cz z c).length<=z.length:=by grind [cz]
section
variable {e:ae} (G:bG e)
include G
def Fw(A:Nat){z:ae}(D:z∈aG e):nI (Hr (nS (mf e A) (b5 z)))=ct (((bp e).filter (gr e A (.node (ag z)))).map a6):=by unfold nI;rw [told_set,tj];unfold b5;rw [wL G.cY.places _ (gm D)]
def Fx(M:Nat):nI ((rT e (mf e M)).length::(rT e (mf e M)).flatMap λA=>[A.site,A.fn])=ct (hJ (infos O e) λc=>eV (((bp e).filter (gr e M (.node c))).map a6)):=by
 have N:∀D:List Tt,nI (D.length::D.flatMap λA=>[A.site,A.fn])=ct (D.map λA=>((A.site,A.fn):Pr)):=by
  intro D;unfold nI ct;rw [aZ,z];congr 1;induction D with
  |nil=>rfl
  |cons A M a=>rw [b3,aT,a];rfl
 rw [N,tj,CQ G]
def Qt(z:Nat):(hJ (infos O e) λc=>eV (((bp e).filter (gr e z (.node c))).map a6)).length=(rT e (mf e z)).length:=by grind [tj,CQ]
def Fy{M:aA->cw->Bool}{z:Tb}(T:bM e z (gs e M)):(hJ (infos O e) λc=>eV (((bp e).map a6).filter λA=>decide (A∈(ba z (0,c)).getD [])))=hJ (infos O e) λc=>eV (((bp e).filter (M (.node c))).map a6):=by
 unfold hJ;refine Fv λU d=>?_;let⟨A,N,f,D⟩:=(tw G _).mp d
 have D:=eB D;cases A with
 |app g b a=>
  have h:dG (infos O e) U=ag b:=f▸G.part N (r:=[a]) S;let⟨i,j,k,_⟩:=xq G T (show G9 (ag b)∈aq e from jK N (by simp [kids]))
  rw [h];dsimp only;rw [show ba z (0,ag b)=Y i from j,zP,k]
 |var g y=>grind [aB]
 |_=>cases D
theorem Fz{D:Pred}{A:Tb}(M:bM e A D):∀c,c<size e->∃z,ba A (0,c)=Y z:=λc N=>by
 let⟨a,T,rfl⟩:=G.node N;let⟨z,U,_⟩:=M.row _ (gm T)
 exists z,U
def Qu(A:Nat->List Nat)(N:∀c,(A c).length<=31):(hJ (infos O e) A).length<=930:=by
 unfold hJ;have S:(cz (infos O e) λD=>decide (D=.call)).length<=30:=by have:=Qs (infos O e) λD=>decide (D=.call);rw [eU]at this;exact cu this G.bL
 have T:∀z:List Nat,(z.flatMap λz=>(A (dG (infos O e) z)).map λM=>((z,M):Pr)).length<=z.length*31:=by
  intro z;induction z with
  |nil=>grind
  |cons a b d=>
   grind
 grind
end
set_option tactic.hygienic true
variable{t:Nat}
def Qv{c:k7}(z:fF Do c=.error t):t=1\/t=2\/t=3\/t=4\/t=5:=by
 have N:∀{T:Type} {U:Option T} {a:Nat} {D:T->mj},Vacfaf.given U a D=.error t->t=a\/∃y,D y=.error t:=λ{T U a D} z=>by
  cases U with
  |none=>cases z;exact .inl S
  |some y=>exact .inr ⟨y,z⟩
 have M:∀{G:Int} {D:ae->mj},rZ Do G D=.error t->t=3\/∃y,D y=.error t:=λ{G D} z=>by
  unfold rZ at z;split at z
  .cases z;exact .inl S
  .exact N z
 have d:∀{G:Int} {D:Nat->mj},z1 G D=.error t->t=2\/∃y,D y=.error t:=λ{G D} z=>by
  unfold z1 at z;split at z
  .cases z;exact .inl S
  .exact .inr ⟨_,z⟩
 unfold fF at z;cases c<;>dsimp only at z
 case program e=>rcases N z with z|⟨y,z⟩;lia;cases z
 case set k G=>rcases d z with z|⟨y,z⟩;lia;rcases M z with z|⟨y,z⟩;lia;cases z
 case arrows k=>rcases d z with z|⟨y,z⟩;lia;cases z
 case class_ G=>rcases M z with z|⟨y,z⟩;lia;cases z
 case ask G=>rcases M z with z|⟨y,z⟩;lia;cases z
 case funs G=>rcases M z with z|⟨y,z⟩;lia;cases y<;>cases z<;>lia
 case looked G=>rcases M z with z|⟨y,z⟩;lia;cases z
 case change G e=>rcases M z with z|⟨y,z⟩;lia;rcases N z with z|⟨y,z⟩;lia;cases z
 case undo=>split at z<;>cases z;lia
 all_goals cases z
set_option tactic.hygienic false
abbrev ef(z:Nat):a8:=inClass (top 104) z
structure g0(K:af)(z:Z):Prop where
 cl:fc K z
 program:dF K z "program"
 kept:dF K z "kept"
def dc(z lk:Z):List (aa×V):=[("program",.ref z),("kept",.ref lk)]
def hN(z:List Nat):List V:=z.map λA=>V.int (A:Nat)
def t9(z:List Nat):hN z=(nI z).map V.int:=by unfold hN nI;rw [d6];rfl
structure eG(K:af)(M A D:Z)(H:U)(a:Z)(z:n6):Prop where
 ex:X4 λN p lk G=>A5 (H a=Y (.ins M N (dc p lk))) (cg K A D H p z.prog) (H lk=Y (.lst (G.map V.ref))) (cE (cg K A D H) G z.past) (z.past.length<=8)
variable{H:U}
def eG.ext(z:Ext H r)(A:eG K d q Q H pp Do):eG K d q Q r pp Do:=by let⟨D,M,lk,N,S,T,U,b,c⟩:=A.ex;exists D,M,lk,N,z _ _ S,T.ext z,z _ _ U,Paired.b9 b λ_ _ C=>C.ext z,c
variable{Go:List (aa×V)}{s3 wl a:Z}
def eG.but(z:bN d H r)(D:H d=Y (.ins s3 wl Go))(N:Go.length<5)(b:a≠d)(c:eG K q Q pp H a Do):eG K q Q pp r a Do:=by let⟨A,e,lk,f,g,h,S,i,j⟩:=c.ex;exists A,e,lk,f,z _ _ g b,h.but z D N,z _ _ S (cW S D (by intro k;cases k)),Paired.b9 i λ_ _ l=>l.but z D N,j
def f7(K:af)(CL C CN:Z)(A:Nat->Z)(H:U)(a:Z)(D:VK)(M:XK):mj->Prop
 |.ok (c,b)=>∀z r,bN a H r->eG K CL C CN r a c->r z=Y (.lst (hN b))->b.length<=5000->D (.ref z) r
 |.error n=>∀r,Ext H r->M (.ref (A n)) O r
variable{KB:VK}{ww:Nat->Z}{Db:XK}
theorem f7.tell{l:List Nat}(S:f7 K q Q pp ww H s3 KB Db (Vacfaf.tell Do l))(T:eG K q Q pp H s3 Do)(D:Ext H r)(U:l.length<=5000)(b:r d=Y (.lst ((nI l).map V.int))):KB (.ref d) r:=
 S d r D.but (T.ext D) (by rwa [t9]) U
inductive jU (K:af) (q Q pp:Z) (z:Nat->Z) (c:k7) (A:List V) (H:U) (D:VK) (M:XK):Prop
 |mk(d Do:_)(_:A=[.ref d])(_:eG K q Q pp H d Do)(_:f7 K q Q pp z H d D M (fF Do c))
inductive jV (K:af) (q Q pp:Z) (A:Nat->Z) (c:Int->k7) (D:List V) (H:U) (M:VK) (N:XK):Prop
 |mk(d Do z:_)(_:D=[.ref d,.int z])(_:eG K q Q pp H d Do)(_:f7 K q Q pp A H d M N (fF Do (c z)))
inductive FA (K:af) (q Q pp:Z) (A:Nat->Z) (c:Int->Int->k7) (D:List V) (H:U) (M:VK) (N:XK):Prop
 |mk(d Do y z:_)(_:D=[.ref d,.int y,.int z])(_:eG K q Q pp H d Do)(_:f7 K q Q pp A H d M N (fF Do (c y z)))
inductive nA (K:af) (q Q pp A:Z) (D:List V) (H:U) (M:VK) (N:XK):Prop
 |mk(d Do:_)(z:Int)(_:D=[.ref d,.int z])(_:eG K q Q pp H d Do)(_:(0<=z/\z<(size Do.prog:Int)->M .bw H))(_:(¬(0<=z/\z<(size Do.prog:Int))->N (.ref A) O H))
def Qw(G:a9 K "check_node" "Ladder.check_node" (ef 14) pp pc)(N:g0 K q)(e:L "NoNode"=Y (.ref d))(f:gP K d fV "Exception.__new__"=I)(g:h_ 1 Q "has_node" ["self","label"] (Ec K Q s3)):k_ 2 pp pc ["self","label"] (nA K q Q s3 d):=by
 refine G.et ["self","label"] λs D r t H u v x T h _ _ _=>?_;let⟨wl,Do,A,rfl,i,j,k⟩:=h;exists _,ay (bK (r7 (kn (eL (E:=E0) (aF 0) g T cx (aJ 1)))) (ay (jH j8 (by decide) f S e T.hd)) bQ),?_;dsimp;let⟨l,U,lk,y,C,b,_⟩:=i.ex;let⟨n,B,z,w,R,V,o,_⟩:=b.ex;exists _,S,wl,q,l,_,_,S,C,N.cl,N.program,S,U,n,_,S,o,S,_,S,U,Do.prog,A,S,b,_,S,?_;by_cases c:0<=A/\A<(size Do.prog:Int)
 .rw [cq c];exact b1 (j c)
 .rw [bU c];exact cf (k c)
def Qx{Xn:Nat->Z}{c:bc}(n:a9 K "tell_text" "Ladder.tell_text" (ef 2) pp c)(D:g0 K d)(N:eE K q s3)(w:L "len"=O):k_ 1 pp c ["self"] (jU K d q s3 Xn .show_):=by
 refine n.et ["self"] λv x y B H E F C s G _ _ sz=>?_;let⟨Q,Do,rfl,a,r⟩:=G;exists _,ay (aQ (hg lu (de (A (cR ej (by rfl) w dE (A (fQ (aF 0) S) aC)) aC)) (fQ (aF 0) S))),?_;dsimp;let⟨e,f,lk,R,g,U,_⟩:=a.ex;let⟨h,i,V,W,X,ab,j,k,_⟩:=U.ex;have ad:=E5 _ U.ok.told
 have al:=U.ok.bL;have l:(cJ (bq Do.prog)).length=(bq Do.prog).length:=z _
 exists _,S,Q,d,e,_,_,S,g,D.cl,D.program,S,f,q,h,_,_,S,j,N.p.c,N.text,S,i,_,S,.inl (av.of k),eN,λb t=>?_;have T:∀{o},Ext H (upd H b o):=Ext.one t
 exists _,S,Q,d,e,_,_,S,T _ _ g,D.cl,D.program,S,f,q,h,_,_,S,T _ _ j,N.p.c,N.text,S,b,i,_,_,S,S,M,T _ _ k,by rw [l];show 1+_<=_;lia,λam u=>?_;refine f7.tell r a (T.new u) ?_ ?_
 .show((bq Do.prog).map _).length+1<=_;rw [z]
  lia
 .rw [M,l];unfold nI Vacfaa.toldText cJ;rw [aZ,aZ,d6,d6];rfl
variable{wT:dD}
def Qy{Xn:Nat->Z}(B:a9 K "tell_set" "Ladder.tell_set" (ef 3) s3 pc)(b:g0 K d)(F:L "NODE_PLACE"=Y (.int 0 wT))(w:q_ 1 "check_rung" ["rung"] (yL (Xn 2)))(G:r_ 2 d "check_node" ["self","label"] (nA K d Q pp (Xn 3)))(R:g_ 7 "table_of_rung" ["program","rung"] (t4 m p K Q pp)) (V:g_ 1 "sorts_at" ["program","table","place"] (tI m p K Q)) (W:g_ 1 "counted_twos" ["twos"] (pD K)):k_ 8 s3 pc ["self","rung","label"] (FA K d Q pp Xn .set):=by
 refine B.et ["self","rung","label","table"] λbn bs bt bv H ca cd ce f X ab _ _=>?_;let⟨q,Do,y,ad,rfl,g,D⟩:=X;have h:=f.mo 1
 exists _,ar (cM (gI w h dw (aJ 1))) (ar (cM (eL (T 0) G (f.mo 2) dw (aJ 2))) (ar (bj 3 ab (bI R f (A (aF 0) (aJ 1)))) (ay (aQ (bI W h (A (bI V h (A (aF 0) (A (T 3) (A (b6 (A (b7 F) (aJ 2))) aC)))) aC)))))),?_;let⟨i,C,lk,ch,j,k,_⟩:=g.ex;have U:=k.ok
 have ci:=U.bL;exists _,S,y,S,?_;unfold fF at D;dsimp only at D;by_cases c:0<=y/\y<4
 .rw [ai c];rw [Ft c]at D;exists _,S,q,i,_,S,j,S,_,S,q,Do,ad,S,g,λl=>?_,λl=>?_
  .obtain⟨r,a,al,am⟩:=pH U l;rw [am]at D;have an:y=((y.toNat:Nat):Int):=by lia
   exists _,S,q,d,i,_,_,S,j,b.cl,b.program,S,_,S,C,Do.prog,y.toNat,by rw [<-an];rfl,k,λap t as s a0=>?_;let⟨a1,cl,cn,co,a2,cr,a3,_,_,_,a4,_⟩:=(k.ext s.ext).ex;let⟨a5,bd,be,cs⟩:=xq U a0 (gm a);exists _,S,q,d,i,_,_,S,s.ext _ _ j,b.cl,b.program,S,_,S,_,S,cD,λu bi=>?_;have e:∀{o},Ext t (upd t u o):=Ext.one bi
   have ct:=lK Do.prog;exists C,ap,u,a2,_,as,(0,ag r),a5,S,⟨a1,_,e _ _ a3,S⟩,a4.ext e,by rw [z];lia,s.at.ext e,al▸ax.of M,bd,λbk c0 bl c1 v _=>?_;rw [be]at v;have c2:(((bp Do.prog).filter (gr Do.prog y.toNat (.node (ag r)))).map a6).length<=31:=by rw [z];exact cu (iX _ _) (by lia)
   exists bk,_,S,v,by lia,λc3 c4 bm c5 x=>?_;rw [<-Fw U y.toNat a]at x;refine f7.tell D g (((s.ext.trans e).trans bl).trans bm) ?_ x;have:=bD cN (Fw U y.toNat a)
   unfold nI at this;rw [z,rq]at this
   lia
  .rw [pI U l]at D;exact D H (Ext.refl H)
 .rw [N c];rw [Fu c]at D;exact D H (Ext.refl H)
def Qz(D:bG pi)(M:Pl->cw->Bool)(c:Nat):(eV (((bp pi).filter (M (.node c))).map a6)).length<=31:=by
 have N:=lK pi;have S:=D.bL
 unfold eV;refine cu (iU _ _) ?_;rw [z];exact cu (iX _ _) (by lia)
variable{Xn:Nat->Z}
def QA(r:a9 K "tell_arrows" "Ladder.tell_arrows" (ef 4) pp pc)(U:g0 K d)(s:q_ 1 "check_rung" ["rung"] (yL (Xn 2)))(t:g_ 7 "table_of_rung" ["program","rung"] (t4 m p K q Q)) (u:g_ 3 "arrows_of" ["program","table"] (yv m p K q Q)) (v:g_ 1 "counted_twos" ["twos"] (pD K)):k_ 8 pp pc ["self","rung"] (jV K d q Q Xn .arrows):=by
 refine r.et ["self","rung"] λV W X ab H ad al am a x an _ _=>?_;let⟨g,D,y,rfl,h,M⟩:=x;have i:=a.mo 1
 have j:=a.mo 3;exists _,ar (cM (gI s i dw (aJ 1))) (ay (aQ (bI v i (A (bI u j (A (aF 0) (A (bI t a (A (aF 0) (aJ 1))) aC))) aC)))),?_;let⟨k,l,lk,ap,e,b,_⟩:=h.ex;have T:=b.ok
 exists _,S,y,S,?_;unfold fF at M;dsimp only at M;by_cases c:0<=y/\y<4
 .rw [ai c];rw [Ft c]at M;have B:y=((y.toNat:Nat):Int):=by lia
  exists _,S,g,d,k,_,_,S,e,U.cl,U.program,S,_,S,g,d,k,_,_,S,e,U.cl,U.program,S,_,S,l,D.prog,y.toNat,by rw [<-B];rfl,b,λE as n C o=>?_;exists l,D.prog,E,n,S,b.ext C.ext,C.at,Fz T o,λF a0 w a1 f=>?_;have G:(hJ (infos O D.prog) λc=>eV (hr D.prog ((ba n (0,c)).getD [])))=hJ (infos O D.prog) λc=>eV (((bp D.prog).filter (gr D.prog y.toNat (.node c))).map a6):=Fy T o
  rw [G]at f;have a2:=Qu T _ (Qz T (gr D.prog y.toNat))
  exists F,_,S,f,by lia,λj a3 R a4 CL=>?_;rw [<-Fx T y.toNat]at CL;refine f7.tell M h ((C.ext.trans w).trans R) ?_ CL;have:=bD cN (Fx T y.toNat)
  unfold nI at this;rw [z,rq]at this
  lia
 .rw [N c];rw [Fu c]at M;exact M H (Ext.refl H)
def QB(B:a9 K "tell_class" "Ladder.tell_class" (ef 6) pp pc)(b:g0 K d)(F:L "NODE_PLACE"=Y (.int 0 wT))(w:r_ 2 d "check_node" ["self","label"] (nA K d q Q (Xn 3)))(G:g_ 5 "last_classes" ["program"] (t2 m p K q Q)) (R:g_ 1 "members" ["program","classes","place"] (yF m p K q Q)) (V:g_ 1 "counted_twos" ["twos"] (pD K)):k_ 6 pp pc ["self","label"] (jV K d q Q Xn .class_):=by
 refine B.et ["self","label"] λa5 bd be bi H bk bl bm e W _ _ _=>?_;let⟨c,N,X,rfl,f,U⟩:=W;have n:=e.mo 1
 exists _,ar (cM (eL (T 0) w (e.mo 2) dw (aJ 1))) (ay (aQ (bI V n (A (bI R n (A (aF 0) (A (bI G e (A (aF 0) aC)) (A (b6 (A (b7 F) (aJ 1))) aC)))) aC)))),?_;let⟨g,E,lk,bn,h,i,_⟩:=f.ex;have a:=i.ok
 unfold fF at U;dsimp only at U;exists _,S,c,g,_,S,h,S,_,S,c,N,X,S,f,λj=>?_,λj=>?_
 .obtain⟨C,ab,ad,al⟩:=pH a j;rw [al]at U;have k:b5 C∈aq N.prog:=gm ab
  exists _,S,c,d,g,_,_,S,h,b.cl,b.program,S,_,S,c,d,g,_,_,S,h,b.cl,b.program,S,E,N.prog,S,i,λam r an s bs ap t u=>?_;exists _,S,cD,λv as=>?_;have l:∀{o},Ext r (upd r v o):=Ext.one as
  exists E,N.prog,am,an,v,b5 C,S,i.ext (s.trans l),ap.ext l,k,ad▸ax.of M,λa0 bt a1 bv ⟨a2,a3,x⟩=>?_;rw [xu a t u k]at x;have ca:((cH (ha N.prog) (b5 C)).map D).length<=90:=by
   rw [<-xu a t u k,z];have:=places_len N.prog
   have:=a.bL;exact cu (iX _ _) (by lia)
  exists a0,_,S,⟨a2,av.of a3,x⟩,by lia,λcd ce a4 ch y=>?_;rw [<-tp]at y;refine f7.tell U f (((s.trans l).trans a1).trans a4) ?_ y;have:=bD cN (tp (cH (ha N.prog) (b5 C)))
  rw [z,rq]at this
  lia
 .rw [pI a j]at U;exact U H (Ext.refl H)
def QC(r:a9 K "tell_classes" "Ladder.tell_classes" (ef 7) pp pc)(U:g0 K d)(s:L "len"=O)(t:L "max"=O)(u:g_ 5 "last_classes" ["program"] (t2 m p K q Q)) (v:g_ 2 "class_sizes" ["program","classes"] (EG m p K q Q)):k_ 6 pp pc ["self"] (jU K d q Q Xn .classes):=by
 refine r.et ["self","sizes"] λan ap as a0 H a1 a2 a3 i x B _ _=>?_;let⟨j,N,rfl,k,a⟩:=x;exists _,ar (bj 1 B (bI v (i.mo 2) (A (aF 0) (A (bI u i (A (aF 0) aC)) aC)))) (ay (aQ (de (A (cR ej (by rfl) s dE (aJ 1)) (A (cR (JW S) (by rfl) t (by decide+kernel) (aJ 1)) aC))))),?_;let⟨l,D,lk,a4,g,b,_⟩:=k.ex;unfold fF at a;dsimp only at a;exists _,S,j,d,l,_,_,S,g,U.cl,U.program,S,_,S,j,d,l,_,_,S,g,U.cl,U.program,S,D,N.prog,S,b,λE a5 T n bd F C w=>?_;exists D,N.prog,E,T,S,b.ext n,F,λo be G bi h=>?_;have e:=Np b.ok C w
 have CL:=gm (gW N.prog);have bk:=List.length_pos_of_mem (dY (f:=λD=>((aq N.prog).filter λf=>decide (T f=T D)).length) (dz.mpr ⟨C.hK _ CL,cq (C.rep _ CL)⟩:_∈(aq N.prog).filter λD=>decide (T D=D)))
 generalize ((aq N.prog).filter λD=>decide (T D=D)).map (λD=>((aq N.prog).filter λf=>decide (T f=T D)).length)=sz at*;have R:sz.length=(ha N.prog).length:=by rw [e.length_eq,z]
 exists _,S,o,_,S,.inl (av.of h),_,S,o,nI sz,S,av.of (by rw [h];show Y (HO.lst (hN sz))=_;rw [t9]),by unfold nI;rwa [z],λbl V W=>⟨cD,λbm X=>?_⟩;let⟨ab,ad,rfl⟩:=bH.mp V;have al:((ha N.prog).map λc=>c.length).foldl max 0=ab:=by
  refine MM (e.mem_iff.mp ad) λy am=>?_;have:=W (zS y) (dY (e.mem_iff.mpr am))
  exact Int.ofNat_le.mp this
 rw [al]at a;refine f7.tell a k ((n.trans G).new X) (by show 2<=5000;decide) ?_;rw [M,z,R];rfl
def QD(M:bG pi)(S:bM pi o0 wv):o0.length<=90:=by
 have:=bD cN S.keys;rw [z,z]at this;have T:=places_len pi
 have U:=M.bL
 lia
def FC(z:Ex)(A:Nat):List Nat:=[(mf z A).length,(rT z (mf z A)).length]
def jo(z:Ex)(A:Nat):List Nat:=(eY A).flatMap (FC z)
def FD(z:Ex)(A:Nat):jo z (A+1)=jo z A++FC z A:=by unfold jo;rw [qg,k4];congr 1
def FE(A:Ex)(z:Nat):(jo A z).length=2*z:=by
 induction z with
 |zero=>rfl
 |succ z a=>rw [FD,br,a];show _+2=_;lia
def QE(a2:a9 K "tell_counts" "Ladder.tell_counts" (ef 5) s3 pc)(k:g0 K q)(a3:L "len"=O)(a4:L "RUNGS"=Y (.ref d))(ab:∀H,ax K H d [.int 0,.int 1,.int 2,.int 3])(a5:g_ 7 "table_of_rung" ["program","rung"] (t4 m p K Q pp)) (bd:g_ 3 "arrows_of" ["program","table"] (yv m p K Q pp)) (be:g_ 1 "how_many_facts" ["table"] (yt m p K)):k_ 8 s3 pc ["self"] (jU K q Q pp Xn .counts):=by
 refine a2.et ["self","counts","rung","table"] λcd ce ch ci H cl cn co r bi s _ sz=>?_;let⟨t,D,rfl,ad,u⟩:=bi;exists _,ar (bj 1 s (de aC)) (ar (d3 z0 S (IF (ei (v:=.ref d) S a4 S)) (bX 2 s) (ar (bj 3 s (bI a5 r (A (aF 0) (aJ 2)))) (ar (cM (fe fu gb gF fR (T 1) (A (bI be (r.mo 1) (aJ 3)) aC))) (ay (cM (fe fu gb gF fR (T 1) (A (cR ej (by rfl) a3 dE (A (bI bd (r.mo 3) (A (aF 0) (aJ 3))) aC)) aC))))))) (ay (aQ (T 1)))),?_;let⟨al,am,lk,cr,an,x,_⟩:=ad.ex;have f:=x.ok
 unfold fF at u;dsimp only at u;exists cP _,λa y=>?_;have bk:∀{o},Ext H (upd H a o):=Ext.one y
 exists d,S,⟨_,ab _⟩,?_;let bl:VLx:=λN C g=>X2 λB E=>A3 (C=[Y (.ref t),Y (.ref a),B,E]) (g a=Y (.lst (hN (jo D.prog N)))) (Ext H g)
 refine IL (xs:=[.int 0,.int 1,.int 2,.int 3]) bl ?_ ?_ ?_ ?_
 .exact⟨O,O,S,M,bk⟩
 .rintro N C g _ _;exact ab _
 .rintro N v C g e ⟨B,E,rfl,n,h⟩;have bm:N<4/\v=.int (N:Nat):=by
   match N,e with
   |0,e=>exists by decide,(aS e).symm
   |1,e=>exists by decide,(aS e).symm
   |2,e=>exists by decide,(aS e).symm
   |3,e=>exists by decide,(aS e).symm
  let⟨cs,rfl⟩:=bm;exists _,S,t,q,al,_,_,S,h _ _ an,k.cl,k.program,S,_,S,am,D.prog,N,S,x.ext h,λw ct j W i=>?_;have ap:=W.ext _ _ n
  have c0:=FE D.prog N;have bn:ew j=(mf D.prog N).length:=by rw [tj];exact xr f i
  exists _,S,.inl ⟨S,_,av.of ap⟩,_,S,w,j,S,W.at,i.nodup f,by have:=QD f i;lia,λX G=>?_;exists a,_,_,S,S,G _ _ ap,by unfold hN;rw [z];lia,?_;have R:Ext H (upd X a (.lst (hN (jo D.prog N)++[.int (ew j:Nat)]))):=((h.trans W.ext).trans G).upd y
  have bs:TabAt m p K (upd X a (.lst (hN (jo D.prog N)++[.int (ew j:Nat)]))) w j:=((W.on G).both (b:=a) (.inl ⟨_,n,λ_=>⟨(λV=>by cases V),λ_ V=>by cases V⟩⟩)).at
  have as:upd X a (.lst (hN (jo D.prog N)++[.int (ew j:Nat)])) a=Y (.lst (hN (jo D.prog N)++[.int (ew j:Nat)])):=M;generalize upd X a (.lst (hN (jo D.prog N)++[.int (ew j:Nat)]))=c1 at*;exists _,S,.inl ⟨S,_,av.of as⟩,_,S,t,q,al,_,_,S,R _ _ an,k.cl,k.program,S,_,S,am,D.prog,w,j,S,x.ext R,bs,Fz f i,λbt c2 a0 c3 ⟨c4,bv,a1⟩=>?_;have ca:(hJ (infos O D.prog) λc=>eV (hr D.prog ((ba j (0,c)).getD [])))=hJ (infos O D.prog) λc=>eV (((bp D.prog).filter (gr D.prog N (.node c))).map a6):=Fy f i
  rw [ca]at a1;exists bt,_,S,.inl bv,a,_,_,S,S,a0 _ _ as,by rw [br];unfold hN;rw [z];show _+1<_;lia,_,_,S,?_,(R.trans a0).upd y;rw [M,FD,z,bO a1,Qt f N,bn];unfold hN;rw [aT,ck];rfl
 .rintro C g ⟨B,E,rfl,n,h⟩;exists _,S,?_;exact f7.tell (l:=jo D.prog 4) u ad h (by rw [FE];decide) (by rw [<-t9];exact n)
def QF(j:a9 K "tell_size" "Ladder.tell_size" (ef 13) Q pc)(N:g0 K q)(D:eE K d pp)(T:L "len"=O):k_ 1 Q pc ["self"] (jU K q d pp Xn .size):=by
 refine j.et ["self","program"] λe R V W H X ab ad al k l _ _=>?_;let⟨f,w,rfl,g,U⟩:=k;exists _,ar (bj 1 l (aF 0)) (ay (aQ (de (A (cR ej (by rfl) T dE (A (aF 1) aC)) (A (cR ej (by rfl) T dE (A (aF 1) aC)) (A (cR ej (by rfl) T dE (A (aF 1) aC)) (A (cR ej (by rfl) T dE (A (aF 0) aC)) aC))))))),?_;let⟨h,a,lk,am,i,n,o,G,_⟩:=g.ex;let⟨b,an,CL,ap,r,s,c,_,⟨t,u,_,v,_⟩,_,⟨as,x,y⟩,a0,B,E⟩:=n.ex;unfold fF at U;dsimp only at U;exists _,S,f,q,h,_,_,S,i,N.cl,N.program,S,?_;exists _,S,a,d,b,_,_,S,c,D.p.c,D.p.nodes,S,CL,_,S,.inl (av.of u),_,S,a,d,b,_,_,S,c,D.p.c,D.p.places,S,s,_,S,.inl B,_,S,a,d,b,_,_,S,c,D.p.c,D.p.sorts,S,r,_,S,.inl x,_,S,f,q,h,_,_,S,i,N.cl,N.kept,S,lk,_,S,.inl (av.of o),(by show 4<=aU;decide),λa1 F=>?_;refine f7.tell U g (Ext.one F) (by show 4<=5000;decide) ?_;have C:t.length=(bJ w.prog).length:=by have:=bD cN v;rw [z,eU]at this;rw [this,gX]
 rw [M,z,z,z,z,C,bO E,bO y,bO G,z,z];rfl
def QG(ad:a9 K "tell_asked" "Ladder.tell_asked" (ef 8) s3 pc)(c:g0 K d)(C:kN K Q)(al:L "len"=O)(an:L "NODE_PLACE"=Y (.int 0 wT))(ap:r_ 2 d "check_node" ["self","label"] (nA K d q pp (Xn 3)))(as:g_ 6 "ask_alone" ["program","place"] (t8 m p K Q q pp)) (a0:g_ 1 "sorts_at" ["program","table","place"] (tI m p K q)) (a1:g_ 1 "counted_twos" ["twos"] (pD K)):k_ 7 s3 pc ["self","label"] (jV K d q pp Xn .ask):=by
 refine ad.et ["self","label","place","asked"] λc5 c6 c7 c8 H c9 db dd g a2 t _ sz=>?_;let⟨e,U,h,rfl,i,N⟩:=a2;have u:=g.mo 1
 exists _,ar (cM (eL (T 0) ap (g.mo 2) dw (aJ 1))) (ar (bj 2 t (b6 (A (b7 an) (aJ 1)))) (ar (bj 3 t (bI as g (A (aF 0) (aJ 2)))) (ay (aQ (hg lu (bI a1 u (A (bI a0 u (A (aF 0) (A (aF 3) (aJ 2)))) aC)) (de (A (cR oE (by rfl) al dE (A (aF 3) aC)) aC))))))),?_;let⟨j,v,lk,dl,k,l,_⟩:=i.ex;have r:=l.ok
 have dp:=r.bL;unfold fF at N;dsimp only at N;exists _,S,e,j,_,S,k,S,_,S,e,U,h,S,i,λn=>?_,λn=>?_
 .obtain⟨a,a3,a4,a5⟩:=pH r n;rw [a5]at N;have bd:=gm a3
  exists _,S,cD,λb be=>?_;have s:∀{o},Ext H (upd H b o):=Ext.one be
  have x:ax K (upd H b (.tup [.int 0,.int h])) b (b4 (D (b5 a))):=by rw [a4];exact ax.of M
  exists _,S,e,d,j,_,_,S,s _ _ k,c.cl,c.program,S,_,S,v,b,U.prog,b5 a,S,l.ext s,bd,x,λy ds B bi=>?_;let⟨E,dx,bk,bl,F,bm,bn,bs,w,bt,bv,ca,cd,dK,ce,ch,G⟩:=bi.ex;have CL:=(s (o:=.tup [.int 0,.int h])).trans B
  let⟨ci,dL,dT,dX,cl,d0,cn,_,_,_,co,_⟩:=(l.ext CL).ex;have d1:=lK U.prog
  exists _,S,e,d,j,_,_,S,CL _ _ k,c.cl,c.program,S,_,S,y,Q,E,_,_,S,w,C.cl,C.found,S,_,S,v,bl,b,cl,_,bn,D (b5 a),bs,S,⟨ci,_,cn,S⟩,co,by rw [z];lia,cd,B.aP x,ch,λcr em cs eq R _=>?_;rw [G]at R;have es:((ke U.prog (b5 a)).map a6).length<=31:=by rw [<-G];exact cu (iX _ _) (by rw [z];lia)
  exists cr,_,S,R,by lia,λct V c0 ev W=>?_;rw [<-told_set]at W;have f:=cs.trans c0
  exists _,S,y,Q,E,_,_,S,f _ _ w,C.cl,C.looked,S,bk,F,S,f _ _ bt,f.keys bv,eN,λX c1=>?_;have c2:=bD cN (told_set (ke U.prog (b5 a)))
  rw [z,rq]at c2;have ab:∀{o},Ext V (upd V X o):=Ext.one c1
  exists ct,X,_,_,S,S,ab _ _ W,M,by rw [z,z];show _+1<=_;lia,λex c3=>?_;refine f7.tell N i ((CL.trans (f.trans ab)).new c3) (by rw [br];show _+1<=_;lia) ?_;have c4:F.length=bm.length:=by have:=bD cN ca;rwa [z,z,z]at this
  rw [M,c4,ce];unfold nI;rw [aT,aT];rfl
 .rw [pI r n]at N;exact N H (Ext.refl H)
def QH(bm:a9 K "tell_funs" "Ladder.tell_funs" (ef 9) s3 pc)(w:g0 K d)(k:kN K pp)(R:L "len"=O)(bn:L "NoCall"=Y (.ref (Xn 5)))(bs:gP K (Xn 5) fV "Exception.__new__"=I)(bt:r_ 2 d "check_node" ["self","label"] (nA K d q Q (Xn 3)))(bv:h_ 1 q "is_call" ["self","label"] (Ed K q Q)) (ca:h_ 1 q "first_part_of" ["self","label"] (tQ K q Q)) (cd:g_ 6 "ask_alone" ["program","place"] (t8 m p K pp q Q)) (ce:g_ 2 "functions_at" ["program","table","place"] (yu m p K q Q)):k_ 7 s3 pc ["self","label"] (jV K d q Q Xn .funs):=by
 refine bm.et ["self","label","place","asked","funs"] λdT dX d0 d1 H em ch ci l cl G _ sz=>?_;let⟨a,N,cn,rfl,CL,D⟩:=cl;have X:=l.mo 1
 have ab:=l.mo 2;exists _,ar (cM (eL (T 0) bt ab dw (aJ 1))) (ar (bK (r7 (kn (eL (E:=E0) (aF 0) bv X cx (aJ 1)))) (ay (jH j8 (by decide) bs S bn l.hd)) bQ) (ar (bj 2 G (eL (E:=E0) (aF 0) ca X cx (aJ 1))) (ar (bj 3 G (bI cd l (A (aF 0) (aJ 2)))) (ar (bj 4 G (bI ce ab (A (aF 0) (A (aF 3) (aJ 2))))) (ay (aQ (hg lu (hg lu (de (A (cR ej (by rfl) R dE (aJ 4)) aC)) (T 4)) (de (A (cR oE (by rfl) R dE (A (aF 3) aC)) aC))))))))),?_;let⟨h,e,lk,eq,i,f,_⟩:=CL.ex;let⟨ad,es,ev,ex,fa,fd,al,_⟩:=f.ex;have r:=f.ok
 have fl:=r.bL;unfold fF at D;dsimp only at D;exists _,S,a,h,_,S,i,S,_,S,a,N,cn,S,CL,λs=>?_,λs=>?_
 .obtain⟨b,t,am,co⟩:=pH r s;rw [co]at D;exists _,S,a,d,h,_,_,S,i,w.cl,w.program,S,e,ad,_,S,al,S,_,S,e,N.prog,b,by rw [am];rfl,f,t,_,S,?_;by_cases c:aB b=.call
  .rw [cq c];obtain⟨j,U,g,rfl⟩:∃j U g,b=.app j U g:=by
    cases b with
    |app j U g=>exists _,_,_,S
    |var fm y=>simp only [aB]at c;split at c<;>cases c
    |_=>cases c
   dsimp only at D;have cr:b5 U∈aq N.prog:=jK t (by simp [kids])
   refine b1 ⟨_,S,a,d,h,_,_,S,i,w.cl,w.program,S,e,ad,_,S,al,S,_,S,e,N.prog,.app j U g,U,[g],by rw [am];rfl,f,t,S,λan fn u fr ap=>?_⟩;exists _,S,a,d,h,_,_,S,u _ _ i,w.cl,w.program,S,_,S,e,an,N.prog,b5 U,S,f.ext u,cr,ap,λas fT a0 cs=>?_;let⟨a1,f0,ct,c0,a2,c1,c2,a3,a4,c3,c4,c5,c6,f1,c7,c8,a5⟩:=cs.ex;have v:=u.trans a0
   exists _,S,a,d,h,_,_,S,v _ _ i,w.cl,w.program,S,_,S,as,pp,a1,_,_,S,a4,k.cl,k.found,S,_,S,e,N.prog,c0,c2,an,_,a3,S,f.ext v,c6,a0.aP ap,c8,λbd C c9 f2 x=>?_;have db:hr N.prog a3=(ke N.prog (b5 U)).map a6:=a5
   rw [db,CP]at x;have f4:=lK N.prog
   have be:((ke N.prog (b5 U)).map a6).length<=31:=by rw [<-a5];exact cu (iX _ _) (by rw [z];lia)
   have f8:((ke N.prog (b5 U)).filterMap λa=>match a with
    |.fn D=>Y D
    |_=>O).length<=31:=by
    rw [z]at be;exact cu (iU _ _) be
   generalize ((ke N.prog (b5 U)).filterMap λa=>match a with
    |.fn D=>Y D
    |_=>O)=fs at*
   exists _,S,bd,_,S,.inl (av.of x),eN,λB dd=>?_;have bi:∀{o},Ext C (upd C B o):=Ext.one dd
   exists _,S,B,bd,_,_,S,S,M,bi _ _ x,by rw [z];show 1+_<=_;lia,λbk dl=>?_;have dp:∀{o},Ext C (upd (upd C B (.lst [.int ((fs.map λb=>V.int (b:Nat)).length:Nat)])) bk o):=bi.new dl
   have n:=c9.trans (dp (o:=.lst ([.int ((fs.map λb=>V.int (b:Nat)).length:Nat)]++fs.map λb=>V.int (b:Nat))));exists _,S,as,pp,a1,_,_,S,n _ _ a4,k.cl,k.looked,S,ct,a2,S,n _ _ c3,n.keys c4,eN,λds bl=>?_;exists bk,ds,_,_,S,S,(Ext.one bl) _ _ M,M,by rw [br,z];show 1+_+1<=_;lia,λga dx=>?_;refine f7.tell D CL (((v.trans n).new bl).new dx) (by rw [br];show fs.length+1+1<=_;lia) ?_;have dK:a2.length=c1.length:=by have:=bD cN c5;rwa [z,z,z]at this
   rw [M,dK,c7,z];unfold nI Vacfaa.toldNats;rw [aT,aT,aZ,aZ,d6];rfl
  .rw [bU c];have ge:D=D:=rfl
   have dL:f7 K d q Q Xn H a ch ci (.error 5):=by
    cases b with
    |app j U g=>exact absurd rfl c
    |_=>exact D
   exact cf (dL H (Ext.refl H))
 .rw [pI r s]at D;exact D H (Ext.refl H)
def QI(bt:a9 K "tell_looked" "Ladder.tell_looked" (ef 10) s3 pc)(n:g0 K q)(am:kN K pp)(an:eE K d Q)(ca:L "NODE_PLACE"=Y (.int 0 wT))(cd:r_ 2 q "check_node" ["self","label"] (nA K q d Q (Xn 3)))(ce:g_ 6 "ask_alone" ["program","place"] (t8 m p K pp d Q)) (ch:g_ 1 "counted_twos" ["twos"] (pD K)):k_ 7 s3 pc ["self","label"] (jV K q d Q Xn .looked):=by
 refine bt.et ["self","label","asked","place"] λd1 em eq es H ev ex fa s l t x sz=>?_;let⟨CN,b,y,rfl,B,i⟩:=l;exists _,ar (cM (eL (T 0) cd (s.mo 2) dw (aJ 1))) (ar (bj 2 t (bI ce s (A (aF 0) (A (b6 (A (b7 ca) (aJ 1))) aC)))) (ay (aQ (bI ch (s.mo 1) (A (fU (own:=[("place",3)]) S t (dC (fQ (aF 0) S)) (e3 S) (λb H d ap as=>bX 3 t) (λb H d ap as=>kv (i0 (Dj m p K x (T 3) (xH K (T 2) S)) S)) (λb H d ap as=>T 3)) aC))))),?_;let⟨E,a0,lk,fd,F,w,_⟩:=B.ex;have C:=w.ok
 unfold fF at i;dsimp only at i;exists _,S,CN,E,_,S,F,S,_,S,CN,b,y,S,B,λR=>?_,λR=>?_
 .obtain⟨a,ci,cl,cn⟩:=pH C R;rw [cn]at i;have co:=gm ci
  exists _,S,CN,q,E,_,_,S,F,n.cl,n.program,S,_,S,cD,λCA cr=>?_;have a1:∀{o},Ext H (upd H CA o):=Ext.one cr
  have cs:ax K (upd H CA (.tup [.int 0,.int y])) CA (b4 (D (b5 a))):=cl▸ax.of M;exists a0,CA,b.prog,b5 a,S,w.ext a1,co,cs,λct c0 c1 c2=>?_;let⟨c3,fl,c4,fm,c5,g,fn,fr,c6,c7,c8,c9,fs,db,fT,f0,f1⟩:=c2.ex;have W:=(a1 (o:=.tup [.int 0,.int y])).trans c1
  let⟨dd,dl,dp,ds,dx,dK,a2,a3⟩:=(w.ext W).places;exists _,S,CN,q,E,_,_,S,W _ _ F,n.cl,n.program,S,a0,d,dd,dl,_,S,dx,an.p.c,an.p.places,dK,dp,S,⟨_,a2⟩,λr a4=>?_;have a5:=nt C
  let bd:VCx:=λj e=>(∃f,e r=Y (.lst (f.map V.ref))/\fJ K e f ((((aq b.prog).map D).take j).filter λa=>decide (a∈g.map D))/\f.length<=j)/\Ext c0 e;refine hC (xs:=ds.map V.ref) bd ?_ ?_ ?_ ?_
  .exact⟨⟨[],M,.nil,aR _⟩,Ext.one a4⟩
  .rintro j e dL ⟨_,dT⟩;exact dT.ee a2
  .rintro j v e be ⟨⟨f,CL,k,X⟩,G⟩;rw [bh]at be;let⟨c,dX,rfl⟩:=cv.mp be;let⟨h,bi,bk⟩:=ey a3 dX;have dL:=(cF.mp bi).1
   exists S,_,S,_,S,ct,pp,c3,_,_,S,G _ _ c6,am.cl,am.looked,S,c4,_,S,⟨c5,pk h,c,G _ _ c7,G.keys c8,S,G.aP bk,S⟩,_,S,?_;rw [kJ c9];have bl:((((aq b.prog).map D).take (j+1)).filter λa=>decide (a∈g.map D))=((((aq b.prog).map D).take j).filter λa=>decide (a∈g.map D))++(if decide (h∈g.map D)=I then [h]else []):=by
    rw [dq,bi,nV];congr 1;show TR _ [h]=_
    rw [ig,vg]
   dsimp only [bd];rw [bl];refine eb (λab=>?_) (λab=>?_)
   .rw [ai ab];have bm:cX (e r)\/e r=O:=.inl (CL▸trivial)
    exists _,S,_,CL,by rw [z];lia,⟨f++[c],?_,fL (Paired.b9 k λ_ _=>bF bm) (bF bm (G.aP bk)),br▸qj X 1⟩,G.upd a4;rw [M,aT];rfl
   .rw [N ab,b0];exists ⟨f,CL,k,HA X⟩,G
  .rintro e ⟨⟨f,CL,k,X⟩,G⟩;rw [z,bO a3,dB,rM]at k;have bn:(aq b.prog).filter ((λa=>decide (a∈g.map D))∘D)=ju b.prog (b5 a):=by
    rw [<-db];refine kY λh _=>?_;show decide (D h∈g.map D)=decide (h∈g)
    rw [hb,bH];exists λ⟨u,x,l⟩=>d4 l▸x,λl=>⟨_,l,S⟩
   rw [bn]at k;have bl:((ju b.prog (b5 a)).map D).length<=90:=by rw [<-bn,z];refine cu (iX _ _) ?_;rw [z]at a5;exact a5
   exists r,_,S,⟨f,av.of CL,k⟩,by lia,λf2 f4 d0 f8 bs=>?_;rw [<-tp]at bs;refine f7.tell i B ((W.trans G).trans d0) ?_ bs;have:=bD cN (tp (ju b.prog (b5 a)))
   rw [z,rq]at this
   lia
 .rw [pI C R]at i;exact i H (Ext.refl H)
def FF:hT [48]=Y (.num 0 0):=by decide+kernel
def cg.len{H:U}(a:cg K q Q H d pi):∃N A D T,H d=Y (.ins q N A)/\A.lookup ("nodes":aa)=Y (.ref D)/\H D=Y (.lst T)/\T.length=(bJ pi).length:=by let⟨N,A,D,f,_,_,b,c,M,e,_⟩:=a.node (gW pi);exact⟨N,A,D,_,b,c,M,by rw [z,e,gX]⟩
inductive FG (K:af) (d q Q:Z) (A:List V) (H:U) (D:VK) (M:XK):Prop
 |mk(a b:_)(_:A=[.ref a])(_:H a=Y (.ins d b []))(_:∀z,bN a H z->eG K d q Q z a Hy->D .bw z)
def QJ(u:a9 K "__init__" "Ladder.__init__" (ef 0) Q pc)(a:g0 K d)(v:L "ord"=O)(x:iu m p K L P (bA m p) 9 "Program" q ["self","text"] (tP K q pp s3)):k_ 11 Q pc ["self"] (FG K d q pp):=by
 refine u.et ["self"] λab ad al am H an ap as y b _ _ _=>?_;let⟨z,D,rfl,B,E⟩:=b;exists _,ar (dQ (T 0) (iv x y dw (A (de (A (cR Ai (by rfl) v (by decide+kernel) (A dP aC)) aC)) aC)) S) (ay (dQ (T 0) (de aC) S)),?_;exists _,S,S,eN,λi F N j k w C=>?_;have l:Ext H (upd H i (.lst (cJ [48]))):=Ext.one F
 have g:=((Ext.one (o:=.own N) w).new (o:=.ins q j []) ((ah C.symm).trans k))
 exists N,j,i,[48],S,M,g _ _ M,by decide,(λb=>by rw [FF]at b;cases b),λU n G R V=>⟨S,?_⟩;rw [FF]at n;obtain rfl:=aS n;have h:Ext H G:=λc o U=>R c o (g _ _ (l _ _ U)) (cB (l _ _ U) k)
 have t:=h _ _ B;exists _,S,z,d,D,_,S,t,a.cl,a.program,by decide,?_;have W:bN z G (upd G z (.ins d D (aO "program" (.ref N) []))):=(bN.refl z G).gZ
 exists cP _,λe f=>?_;have r:e≠z:=by rintro rfl;rw [M]at f;cases f
 exists _,S,z,d,D,_,S,(ah r.symm).trans M,a.cl,a.kept,(by show 1<1000;decide),?_;have s:=((W.ext (Ext.one (o:=.lst []) f)).gZ (o:=.ins d D (dc N e)))
 refine E _ (λc o U X=>s c o (h _ _ U) X) ⟨D,N,e,[],M,V.but s t (by decide),(ah r).trans M,.nil,cP _⟩
inductive FH (K:af) (d q Q:Z) (ww:Nat->Z) (z:List V) (H:U) (A:VK) (D:XK):Prop
 |mk(a lt s:_)(t:aj)(_:z=[.ref a,.ref lt])(_:eG K d q Q H a s)(_:H lt=Y (.lst (cJ t)))(_:t.length<=2000)(_:f7 K d q Q ww H a A D (fF s (.program t)))
def QK(x:a9 K "replace_program" "Ladder.replace_program" (ef 1) pp pc)(G:g0 K d)(k:eE K q Q)(y:L "len"=O)(B:iu m p K L P (bA m p) 9 "Program" q ["self","text"] (tP K q Q (Xn 1))):k_ 11 pp pc ["self","text"] (FH K d q Q Xn):=by
 refine x.et ["self","text"] λbi bk bl bm H bn bs bt E F _ _ _=>?_;let⟨z,C,bv,w,rfl,R,V,ca,e⟩:=F;exists _,ar (dQ (T 0) (iv B E dw (aJ 1)) S) (ar (dQ (T 0) (de aC) S) (ay (aQ (de (A (cR ej (by rfl) y dE (A (fQ (aF 0) S) aC)) aC))))),?_;let⟨D,cd,lk,ce,W,_⟩:=R.ex;unfold fF at e;dsimp only at e;exists _,S,λN n h X ab=>?_;have i:=((Ext.one (o:=.own N) X).new (o:=.ins q n []) ((ah ab.symm).trans h))
 exists N,n,C,w,S,M,i _ _ V,by lia,λad a j=>?_,λb al a j am=>⟨S,?_⟩
 .rw [ad]at e;exact e a λc o b=>j c o (i _ _ b) (cB b h)
 .rw [al]at e;have l:Ext H a:=λc o b=>j c o (i _ _ b) (cB b h)
  have CL:=l _ _ W;exists _,S,z,d,D,_,S,CL,G.cl,G.program,(by show 2<1000;decide),?_;have an:bN z a (upd a z (.ins d D (dc N lk))):=(bN.refl z a).gZ
  exists cP _,λU f=>?_;have f:=f
  have r:U≠z:=by rintro rfl;rw [M]at f;cases f
  exists _,S,z,d,D,_,S,(ah r.symm).trans M,G.cl,G.kept,(by show 2<1000;decide),?_;have s:=((an.ext (Ext.one (o:=.lst []) f)).gZ (o:=.ins d D (dc N U)))
  have t:=am.but s CL (by show 2<5;decide);have u:upd (upd (upd a z (.ins d D (dc N lk))) U (.lst [])) z (.ins d D (dc N U)) z=Y (.ins d D (dc N U)):=M
  have ap:upd (upd (upd a z (.ins d D (dc N lk))) U (.lst [])) z (.ins d D (dc N U)) U=Y (.lst []):=(ah r).trans M;let⟨as,a0,a1,ch,a2,a3,a4,a5⟩:=t.len;exists _,S,z,d,D,_,_,S,u,G.cl,G.program,S,N,q,as,a0,_,S,a2,k.p.c,k.p.nodes,a3,a1,_,S,.inl (av.of a4),eN,λv bd=>?_;have g:∀{o},Ext (upd (upd (upd a z (.ins d D (dc N lk))) U (.lst [])) z (.ins d D (dc N U))) (upd (upd (upd (upd a z (.ins d D (dc N lk))) U (.lst [])) z (.ins d D (dc N U))) v o):=Ext.one bd
  refine e v _ (λc o b be=>g _ _ (s c o (l _ _ b) be)) ⟨D,N,U,[],g _ _ u,t.ext g,g _ _ ap,.nil,cP _⟩ ?_ (by show 1<=5000;decide);rw [M,a5];rfl
theorem FI{G:sK->AC->Prop}:∀(z:Nat) {M:List sK} {N:List AC},cE G M N->cE G (M.take z) (N.take z)
 |0,_,_,_=>by rw [mi,mi];exact .nil
 |_+1,_,_,.nil=>.nil
 |z+1,_,_,.cons a b=>.cons a (FI z b)
inductive FJ (K:af) (d q Q:Z) (ww:Nat->Z) (A:List V) (H:U) (D:VK) (M:XK):Prop
 |mk(a lt s z:_)(t:aj)(_:A=[.ref a,.int z,.ref lt])(_:eG K d q Q H a s)(_:H lt=Y (.lst (cJ t)))(_:t.length<=2000)(_:f7 K d q Q ww H a D M (fF s (.change z t)))
def QL(be:a9 K "change_program" "Ladder.change_program" (ef 11) pp pc)(e:g0 K d)(ab:eE K q Q)(bi:L "len"=O)(bl:L "MOST_KEPT"=Y (.int 8 wT))(bm:r_ 2 d "check_node" ["self","label"] (nA K d q Q (Xn 3)))(bn:q_ 11 "changed_program" ["program","label","text"] (Fj K q Q (Xn 1))) (bs:g_ 6 "kept_gone_and_new" ["old","new","label"] (Fs K q Q)):k_ 12 pp pc ["self","label","text"] (FJ K d q Q Xn):=by
 refine be.et ["self","label","text","before"] λev ex fa fd H fl fm fn t bt bv _ sz=>?_;let⟨D,ca,g,i,cd,rfl,ad,ce,ch,h⟩:=bt;have ci:=t.mo 2
 have cl:=t.mo 6;exists _,ar (cM (eL (T 0) bm ci dw (aJ 1))) (ar (bj 3 bv (aF 0)) (ar (dQ (T 0) (gI bn t dw (A (T 3) (A (T 1) (aJ 2)))) S) (ar (dQ (T 0) (qx qz (hg lu (de (aJ 3)) (aF 0)) sl (oq (b7 bl))) S) (ay (aQ (hg lu (de (A (cR ej (by rfl) bi dE (A (fQ (aF 0) S) aC)) aC)) (bI bs cl (A (T 3) (A (aF 0) (aJ 1)))))))))),?_;let⟨N,a,lk,b,u,v,cn,al,co⟩:=ad.ex;have am:=v.ok
 unfold fF at h;dsimp only at h;exists _,S,D,N,_,S,u,S,_,S,D,g,i,S,ad,λx=>?_,λx=>?_
 .obtain⟨k,an,ap,cr⟩:=pH am x;rw [cr]at h;exists _,S,D,d,N,_,_,S,u,e.cl,e.program,S,?_;exists _,S,_,S,_,S,a,ca,g.prog,k,cd,by rw [ap];rfl,v,an,ce,ch,λcs ct c0=>?_,λCL y c1 c2 c3 U G l c4=>?_
  .rw [cs]at h;exact h ct c0
  .rw [c1]at h;have W:=l _ _ u
   have as:=l _ _ cn;exists _,S,D,d,N,_,S,W,e.cl,e.program,(by show 2<1000;decide),?_;have a0:bN D G (upd G D (.ins d N (dc U lk))):=(bN.refl D G).gZ
   have B:upd G D (.ins d N (dc U lk)) D=Y (.ins d N (dc U lk)):=M;exists _,S,eN,λj E=>?_;have E:upd G D (.ins d N (dc U lk)) j=O:=E
   have F:∀{o},Ext (upd G D (.ins d N (dc U lk))) (upd (upd G D (.ins d N (dc U lk))) j o):=Ext.one E;have c5:=a0 _ _ as (cW as W (by intro i;cases i))
   have fr:b.length<=8:=by rw [bO al];exact co
   exists _,S,D,d,N,_,_,S,F _ _ B,e.cl,e.kept,S,j,lk,_,_,S,S,M,F _ _ c5,by rw [z];show 1+_<=_;lia,λn c6=>?_;have a1:∀{o},Ext (upd G D (.ins d N (dc U lk))) (upd (upd (upd G D (.ins d N (dc U lk))) j (.lst [.ref a])) n o):=F.new c6
   exists _,S,n,_,S,av.of M,λf a2=>?_;have c7:gH ([V.ref a]++b.map V.ref) O (Y 8)=((a::b).take 8).map V.ref:=by show gH ((a::b).map V.ref) O (Y ((8:Nat):Int))=_;rw [Fh,TQ]
   rw [c7];have a3:∀{o},Ext (upd G D (.ins d N (dc U lk))) (upd (upd (upd (upd G D (.ins d N (dc U lk))) j (.lst [.ref a])) n (.lst ([.ref a]++b.map V.ref))) f o):=a1.new a2
   exists _,S,D,d,N,_,S,a3 _ _ B,e.cl,e.kept,(by show 2<1000;decide),?_;have c8:f≠D:=(cB (a1 _ _ B) a2).symm
   have r:=(a0.ext (a3 (o:=.lst (((a::b).take 8).map V.ref)))).gZ (o:=.ins d N (dc U f));have w:upd (upd (upd (upd (upd G D (.ins d N (dc U lk))) j (.lst [.ref a])) n (.lst ([.ref a]++b.map V.ref))) f (.lst (((a::b).take 8).map V.ref))) D (.ins d N (dc U f)) D=Y (.ins d N (dc U f)):=M
   have c9:upd (upd (upd (upd (upd G D (.ins d N (dc U lk))) j (.lst [.ref a])) n (.lst ([.ref a]++b.map V.ref))) f (.lst (((a::b).take 8).map V.ref))) D (.ins d N (dc U f)) f=Y (.lst (((a::b).take 8).map V.ref)):=(ah c8).trans M;have C:=c4.but r W (by show 2<5;decide)
   have a4:=(v.ext l).but r W (by show 2<5;decide);have db:cE (cg K q Q _) b g.past:=Paired.b9 al λ_ _ i=>(i.ext l).but r W (by show 2<5;decide)
   let⟨dd,dl,dp,a5,ds,dx,dK,dL⟩:=C.len;exists _,S,D,d,N,_,_,S,w,e.cl,e.program,S,U,q,dd,dl,_,S,ds,ab.p.c,ab.p.nodes,dx,dp,_,S,.inl (av.of dK),eN,λdT dX=>?_;have s:=Ext.one (o:=.lst [.int (a5.length:Nat)]) dX
   exists _,S,_,S,D,d,N,_,_,S,s _ _ w,e.cl,e.program,S,_,S,a,U,g.prog,CL,k,y,by rw [ap];rfl,a4.ext s,C.ext s,an,c2,c3,λd0 fs bd fT d1=>?_;exists dT,d0,_,_,S,S,bd _ _ M,d1,by rw [z];show 1+3<=_;lia,λem eq=>?_;have X:=(s.trans bd).new (o:=.lst ([.int (a5.length:Nat)]++[(chg g.prog CL k).kept,(chg g.prog CL k).gone,(chg g.prog CL k).came].map λR:Nat=>V.int (R:Nat))) eq
   refine h em _ (λc o es R=>X _ _ (r c o (l _ _ es) R)) ⟨N,U,f,(a::b).take 8,X _ _ w,C.ext X,X _ _ c9,Paired.b9 (FI 8 (.cons a4 db)) λ_ _ i=>i.ext X,?_⟩ ?_ (by show 4<=5000;decide)
   .show((g.prog::g.past).take 8).length<=8;rw [dU]
    lia
   .rw [M,dL];rfl
 .rw [pI am x]at h;exact h H (Ext.refl H)
def QM(v:a9 K "undo_change" "Ladder.undo_change" (ef 12) Q pc)(N:g0 K d)(n:eE K q pp)(x:L "len"=O)(y:L "NothingKept"=Y (.ref (Xn 4)))(B:gP K (Xn 4) fV "Exception.__new__"=I):k_ 1 Q pc ["self"] (jU K d q pp Xn .undo):=by
 refine v.et ["self"] λbl bm bn bs H bt bv ca E G _ _ _=>?_;let⟨z,C,rfl,R,e⟩:=G;exists _,ar (bK (r7 (sg (aF 0) (λ_=>S))) (ay (jH j8 (by decide) B S y E.hd)) bQ) (ar (dQ (T 0) (cc dk (aF 0) cL (λ_ _=>S)) S) (ar (dQ (T 0) (qx qz (aF 0) (oq cL) sl) S) (ay (aQ (de (A (cR ej (by rfl) x dE (A (fQ (aF 0) S) aC)) aC)))))),?_;let⟨D,cd,lk,U,b,X,f,w,g⟩:=R.ex;let⟨ce,ab⟩:=C;unfold fF at e;dsimp only at e X w g;exists _,S,z,d,D,_,_,S,b,N.cl,N.kept,S,_,.inl ⟨_,av.of f,S⟩,?_;cases w with
 |nil=>exact cf (e H (Ext.refl H))
 | @cons a ch U ab ad al=>
 refine b1 ⟨_,S,z,d,D,_,_,S,b,N.cl,N.kept,S,lk,_,_,_,S,S,av.of f,e2 (j:=0) S,_,S,z,d,D,_,S,b,N.cl,N.program,(by show 2<1000;decide),?_⟩;have CL:bN z H (upd H z (.ins d D (dc a lk))):=(bN.refl z H).gZ
 have h:upd H z (.ins d D (dc a lk)) z=Y (.ins d D (dc a lk)):=M;have am:=CL _ _ f (cW f b (by intro i;cases i))
 exists _,S,z,d,D,_,_,S,h,N.cl,N.kept,S,_,S,lk,_,S,av.of am,λu c=>?_;have c:upd H z (.ins d D (dc a lk)) u=O:=c
 have an:gH ((a::U).map V.ref) (Y 1) O=U.map V.ref:=Fi _ 1;rw [an];have r:∀{o},Ext (upd H z (.ins d D (dc a lk))) (upd (upd H z (.ins d D (dc a lk))) u o):=Ext.one c
 exists _,S,z,d,D,_,S,r _ _ h,N.cl,N.kept,(by show 2<1000;decide),?_;have ap:u≠z:=by rintro rfl;rw [h]at c;cases c
 have k:=(CL.ext (r (o:=.lst (U.map V.ref)))).gZ (o:=.ins d D (dc a u));have s:upd (upd (upd H z (.ins d D (dc a lk))) u (.lst (U.map V.ref))) z (.ins d D (dc a u)) z=Y (.ins d D (dc a u)):=M
 have as:upd (upd (upd H z (.ins d D (dc a lk))) u (.lst (U.map V.ref))) z (.ins d D (dc a u)) u=Y (.lst (U.map V.ref)):=(ah ap).trans M;have t:=ad.but k b (by show 2<5;decide)
 let⟨a0,a1,a2,a3,a4,a5,bd,be⟩:=t.len;exists _,S,z,d,D,_,_,S,s,N.cl,N.program,S,a,q,a0,a1,_,S,a4,n.p.c,n.p.nodes,a5,a2,_,S,.inl (av.of bd),eN,λbi bk=>?_;have l:=Ext.one (o:=.lst [.int (a3.length:Nat)]) bk
 refine e bi _ (k.ext l) ⟨D,a,u,U,l _ _ s,t.ext l,l _ _ as,Paired.b9 al λ_ _ i=>(i.but k b (by show 2<5;decide)).ext l,?_⟩ ?_ (by show 1<=5000;decide)
 .rw [dn]at g;exact uJ g
 .rw [M,be];rfl
abbrev FK:a8:=top 107
variable{Tk VQ:Prop}
def ua{c:Bool}(D:c=ao)(G:Tk):if c=I then VQ else Tk:=by subst D;exact b1 G
def rr{c:Bool}(D:c=I)(G:Tk):if c=I then Tk else VQ:=by subst D;exact cf G
variable{h:Cx}{wS:a8}
theorem QN:PS h wS (λ_ _ _=>False):=λ_ _ _ _ _ _ D=>D.elim
def yU(z A:Z)(H D:U):Prop:=∀c o,H c=Y o->c≠z->c≠A->D c=Y o
variable{v6:List Int}
theorem gz.but(D:bN a H r)(N:H a=Y (.ins s3 d Go))(S:q≠a)(A:gz K Q H q pp v6 t):gz K Q r q pp v6 t:=
 ⟨let⟨d,T⟩:=A.1;⟨d,D _ _ T S⟩,D.ee N A.2.1,A.2.2⟩
variable{Da:Z}
def yV(A:eG K Q pp s3 H d Do)(D:gz K wl H q Da v6 t):d≠q:=by let⟨S,T,lk,U,M,_⟩:=A.ex;let⟨⟨c,N⟩,_⟩:=D;refine cW M N λz=>?_;injection z with _ _ z;injection z with z _;injection z with z _;exact absurd z (by decide+kernel)
def yW(K:af)(CL C CN CR:Z)(Xn:Nat->Z)(H:U)(a b ln:Z)(l:List Int)(i:Nat)(s:n6)(Q:VK)(E:XK):mj->Prop
 |.ok (c,n)=>∀z r,yU a b H r->eG K CL C CN r a c->gz K CR r b ln l i->r z=Y (.lst (hN n))->n.length<=5000->Q (.ref z) r
 |.error n=>∀r,yU a b H r->eG K CL C CN r a s->gz K CR r b ln l i->E (.ref (Xn n)) O r
def yW.ld{o:mj}(S:yW K d q Q s3 ww H a pp wl v6 t Do KB Db o)(T:bN pp H s0)(z:eG K d q Q s0 a Do)(A:gz K s3 s0 pp wl v6 t):f7 K d q Q ww s0 a KB Db o:=by
 have U:=yV z A;let⟨n,p,lk,b,C,_⟩:=z.ex;cases o with
 |ok y=>exactλg r e h j k=>S g r (λc o D f M=>e c o (T c o D M) f) h (A.but e C U.symm) j k
 |error m=>exactλr N=>S r (λc o D f M=>N c o (T c o D M)) (z.ext N) (A.but (N.but (a:=a)) C U.symm)
structure FN(L:aa->Option J):Prop where
 c0:∃z,L "PROGRAM_CALL"=Y (.int 0 z)
 c1:∃z,L "SHOW_CALL"=Y (.int 1 z)
 c2:∃z,L "SET_CALL"=Y (.int 2 z)
 c3:∃z,L "ARROWS_CALL"=Y (.int 3 z)
 c4:∃z,L "COUNTS_CALL"=Y (.int 4 z)
 c5:∃z,L "CLASS_CALL"=Y (.int 5 z)
 c6:∃z,L "CLASSES_CALL"=Y (.int 6 z)
 c7:∃z,L "ASK_CALL"=Y (.int 7 z)
 c8:∃z,L "FUNS_CALL"=Y (.int 8 z)
 c9:∃z,L "LOOKED_CALL"=Y (.int 9 z)
 QO:∃z,L "CHANGE_CALL"=Y (.int 10 z)
 QP:∃z,L "UNDO_CALL"=Y (.int 11 z)
 QQ:∃z,L "SIZE_CALL"=Y (.int 12 z)
inductive FO (K:af) (Q pp s3 wl:Z) (ww:Nat->Z) (z:List V) (H:U) (KB:VK) (Db:XK):Prop
 |mk(d q Da v6 t Do c r:_)(_:z=[.ref d,.ref q])(_:eG K Q pp s3 H d Do)(_:gz K wl H q Da v6 t)(_:q7 (v6.drop t) c r)(_:yW K Q pp s3 wl ww H d q Da v6 (v6.length-r.length) Do KB Db (fF Do c))
variable{PP:List Int}
def pJ(D:v6.drop t=v0::PP):v6[t]?=Y v0/\v6.drop (t+1)=PP/\t+1+PP.length=v6.length:=by
 have M:(v6.drop t)[0]?=Y v0:=by rw [D];rfl
 rw [HC,j9]at M;have N:(v6.drop t).drop 1=PP:=by rw [D];rfl
 rw [HD]at N;have T:=bD cN D
 rw [l7,dn]at T;exact⟨M,N,by lia⟩
structure QR(m:aw)(p:au)(K:af)(L:aa->Option J)(P:aD)(d q Q pp:Z)(ww:Nat->Z):Prop where
 num:h_ 1 pp "take_number" ["self"] (yK K pp)
 txt:h_ 2 pp "take_text" ["self"] (EU K pp)
 m0:r_ 11 d "replace_program" ["self","text"] (FH K d q Q ww)
 m1:r_ 1 d "tell_text" ["self"] (jU K d q Q ww .show_)
 m2:r_ 8 d "tell_set" ["self","rung","label"] (FA K d q Q ww .set)
 m3:r_ 8 d "tell_arrows" ["self","rung"] (jV K d q Q ww .arrows)
 m4:r_ 8 d "tell_counts" ["self"] (jU K d q Q ww .counts)
 m5:r_ 6 d "tell_class" ["self","label"] (jV K d q Q ww .class_)
 m6:r_ 6 d "tell_classes" ["self"] (jU K d q Q ww .classes)
 m7:r_ 7 d "tell_asked" ["self","label"] (jV K d q Q ww .ask)
 m8:r_ 7 d "tell_funs" ["self","label"] (jV K d q Q ww .funs)
 m9:r_ 7 d "tell_looked" ["self","label"] (jV K d q Q ww .looked)
 QS:r_ 12 d "change_program" ["self","label","text"] (FJ K d q Q ww)
 QT:r_ 1 d "undo_change" ["self"] (jU K d q Q ww .undo)
 QU:r_ 1 d "tell_size" ["self"] (jU K d q Q ww .size)
set_option tactic.hygienic true
def QV(bm:a9 K "carry_out" "carry_out" FK d pc)(C:FN L)(D:QR m p K L P q Q pp s3 ww):k_ 13 d pc ["ladder","row"] (FO K q Q pp s3 ww):=by
 let⟨db,bn⟩:=C.c0;let⟨dd,bs⟩:=C.c1;let⟨dl,bt⟩:=C.c2;let⟨dp,bv⟩:=C.c3;let⟨ds,ca⟩:=C.c4;let⟨dx,cd⟩:=C.c5;let⟨dK,ce⟩:=C.c6;let⟨dL,ch⟩:=C.c7;let⟨dT,ci⟩:=C.c8;let⟨dX,cl⟩:=C.c9;let⟨d0,cn⟩:=C.QO;let⟨d1,co⟩:=C.QP;let⟨em,cr⟩:=C.QQ;refine bm.et ["ladder","row","call","rung","label"] λeq es ev fa H fd fl fm CL cs V _ _=>?_;let⟨k,b,bd,N,M,B,c,e,rfl,be,W,U,l⟩:=cs;have g:=CL.mo 1
 have bi:=CL.mo 2;have bk:=CL.mo 6
 have X:=CL.mo 7;have ab:=CL.mo 8
 exists _,ar (bj 2 V (dR (E:=E0) (T 1) D.num g cx)) (ar (bK (bS cT (T 2) (b7 bn) (bV _)) (ay (aQ (eL (T 0) D.m0 (CL.mo 11) dw (A (dR (E:=E0) (T 1) D.txt bi cx) aC)))) bQ) (ar (bK (bS cT (T 2) (b7 bs) (bV _)) (ay (aQ (dR (T 0) D.m1 g dw))) bQ) (ar (bK (bS cT (T 2) (b7 bt) (bV _)) (ar (bj 3 V (dR (E:=E0) (T 1) D.num g cx)) (ay (aQ (eL (T 0) D.m2 ab dw (A (T 3) (A (dR (E:=E0) (T 1) D.num g cx) aC)))))) bQ) (ar (bK (bS cT (T 2) (b7 bv) (bV _)) (ay (aQ (eL (T 0) D.m3 ab dw (A (dR (E:=E0) (T 1) D.num g cx) aC)))) bQ) (ar (bK (bS cT (T 2) (b7 ca) (bV _)) (ay (aQ (dR (T 0) D.m4 ab dw))) bQ) (ar (bK (bS cT (T 2) (b7 cd) (bV _)) (ay (aQ (eL (T 0) D.m5 bk dw (A (dR (E:=E0) (T 1) D.num g cx) aC)))) bQ) (ar (bK (bS cT (T 2) (b7 ce) (bV _)) (ay (aQ (dR (T 0) D.m6 bk dw))) bQ) (ar (bK (bS cT (T 2) (b7 ch) (bV _)) (ay (aQ (eL (T 0) D.m7 X dw (A (dR (E:=E0) (T 1) D.num g cx) aC)))) bQ) (ar (bK (bS cT (T 2) (b7 ci) (bV _)) (ay (aQ (eL (T 0) D.m8 X dw (A (dR (E:=E0) (T 1) D.num g cx) aC)))) bQ) (ar (bK (bS cT (T 2) (b7 cl) (bV _)) (ay (aQ (eL (T 0) D.m9 X dw (A (dR (E:=E0) (T 1) D.num g cx) aC)))) bQ) (ar (bK (bS cT (T 2) (b7 cn) (bV _)) (ar (bj 4 V (dR (E:=E0) (T 1) D.num g cx)) (ay (aQ (eL (T 0) D.QS CL dw (A (T 4) (A (dR (E:=E0) (T 1) D.txt bi cx) aC)))))) bQ) (ar (bK (bS cT (T 2) (b7 co) (bV _)) (ay (aQ (dR (T 0) D.QT g dw))) bQ) (ar (bK (bS cT (T 2) (b7 cr) (bV _)) (ay (aQ (dR (T 0) D.QU g dw))) bQ) (ay QN)))))))))))))),?_;let⟨⟨ct,bl⟩,_⟩:=id W;have h:=yV be W
 have i:(nv bd M).length<5:=by show 2<5;decide
 obtain⟨fn,fr,r⟩:∃j c0,N.drop M=j::c0:=by cases c<;>first|exact⟨_,_,U⟩|exists _,_,U.1
 exists _,S,b,ct,_,S,bl,S,b,bd,N,M,_,S,W,(pJ r).1,λfs s x fT=>?_;have a5:=be.but x bl i h
 let⟨_,w,c1⟩:=pJ r;let⟨ad,f0,lk,f1,al,_⟩:=a5.ex;let⟨⟨G,n⟩,_⟩:=id s;have h:=yV a5 s
 cases c
 case program a=>
  obtain⟨U,am⟩:N.drop M=0::(a.length:Int)::(gu a++e)/\a.length<=2000:=U;cases r.symm.trans U;have c2:M+1+1+a.length+e.length=N.length:=by rw [<-c1,dn,br,show(gu a).length=a.length from z _];lia
  rw [show N.length-e.length=M+1+1+a.length by lia]at l;exists _,S,S,_,S,rr S ⟨_,S,k,ad,_,S,al,S,_,S,b,G,_,S,n,S,b,bd,N,M+1,a,e,S,s,w,λu an o f ap _ _ as=>⟨k,u,B,a,S,a5.but f n i h,as,am,l.ld (x.trans f) (a5.but f n i h) o⟩⟩
 case set y j=>
  obtain⟨U,_,_⟩:N.drop M=2::y::j::e/\inR y/\inR j:=U;cases r.symm.trans U
  iterate 2 exists _,S,S,_,S,ua S ?_
  let⟨F,R,a0⟩:=pJ w;let⟨c3,f2,f4⟩:=pJ R;rw [show N.length-e.length=M+1+1+1 by lia]at l;exists _,S,S,_,S,rr S ⟨_,S,b,G,_,S,n,S,b,bd,N,M+1,y,S,s,F,λan o f ap=>?_⟩;have L2:=a5.but f n i h
  let⟨a1,c4,c5,c6,a2,_⟩:=L2.ex;let⟨⟨a3,t⟩,_⟩:=id o;exists _,S,k,a1,_,S,a2,S,_,S,_,S,b,a3,_,S,t,S,b,bd,N,M+1+1,j,S,o,c3,λc7 a4 v c8=>⟨k,B,y,j,S,L2.but v t i h,l.ld ((x.trans f).trans v) (L2.but v t i h) a4⟩
 case change j a=>
  obtain⟨U,_,am⟩:N.drop M=10::j::(a.length:Int)::(gu a++e)/\inR j/\a.length<=2000:=U;cases r.symm.trans U
  iterate 10 exists _,S,S,_,S,ua S ?_
  let⟨F,R,a0⟩:=pJ w;have c2:M+1+1+1+a.length+e.length=N.length:=by rw [<-a0,dn,br,show(gu a).length=a.length from z _];lia
  rw [show N.length-e.length=M+1+1+1+a.length by lia]at l;exists _,S,S,_,S,rr S ⟨_,S,b,G,_,S,n,S,b,bd,N,M+1,j,S,s,F,λan o f ap=>?_⟩;have L2:=a5.but f n i h
  let⟨a1,c4,c5,c6,a2,_⟩:=L2.ex;let⟨⟨a3,t⟩,_⟩:=id o;exists _,S,k,a1,_,S,a2,S,_,S,_,S,b,a3,_,S,t,S,b,bd,N,M+1+1,a,e,S,o,R,λu c7 a4 v c8 _ _ as=>⟨k,u,B,j,a,S,L2.but v t i h,as,am,l.ld ((x.trans f).trans v) (L2.but v t i h) a4⟩
 all_goals first
  |have U:=U
   let⟨rfl,c9⟩:=p7 (r.symm.trans U);rw [show N.length-e.length=M+1 by rw [<-c9];lia]at l
   repeat first
    |exists _,rfl,rfl,_,rfl,rr rfl ⟨_,rfl,k,ad,_,rfl,al,rfl,k,B,rfl,a5,l.ld x a5 s⟩
    |exists _,rfl,rfl,_,rfl,ua rfl ?_
  |obtain⟨U,_⟩:N.drop M=_::_::e/\_:=U
   cases r.symm.trans U;let⟨F,R,a0⟩:=pJ w;rw [show N.length-e.length=M+1+1 by lia]at l
   repeat first
    |exists _,rfl,rfl,_,rfl,rr rfl ⟨_,rfl,k,ad,_,rfl,al,rfl,_,rfl,b,G,_,rfl,n,rfl,b,bd,N,M+1,_,rfl,s,F,λan o f ap=>⟨k,B,_,rfl,a5.but f n i h,l.ld (x.trans f) (a5.but f n i h) o⟩⟩
    |exists _,rfl,rfl,_,rfl,ua rfl ?_
set_option tactic.hygienic false
abbrev FP:a8:=top 108
structure yX(K:af)(G:aa->Option J)(z:Nat->Z):Prop where
 x1:G "NoProgram"=Y (.ref (z 1))
 x2:G "NoRung"=Y (.ref (z 2))
 x3:G "NoNode"=Y (.ref (z 3))
 x4:G "NothingKept"=Y (.ref (z 4))
 x5:G "NoCall"=Y (.ref (z 5))
 fW:∀n,n∈[1,2,3,4,5]->gP K (z n) fV "Exception.__new__"=I/\mroIn K (z n)=I
 nd:[z 1,z 2,z 3,z 4,z 5].Nodup
 n1:∃A,G "NO_PROGRAM"=Y (.int (-1) A)
 n2:∃A,G "NO_RUNG"=Y (.int (-2) A)
 n3:∃A,G "NO_NODE"=Y (.int (-3) A)
 n4:∃A,G "NOTHING_KEPT"=Y (.int (-4) A)
 n5:∃A,G "NO_CALL"=Y (.int (-5) A)
inductive FQ (K:af) (d q Q pp:Z) (D:List V) (H:U) (M:VK) (N:XK):Prop
 |mk(a b ln l i s c r:_)(_:D=[.ref a,.ref b])(_:eG K d q Q H a s)(_:gz K pp H b ln l i)(_:q7 (l.drop i) c r)(_:∀A z,yU a b H z->eG K d q Q z a (iW s c).1->gz K pp z b ln l (l.length-r.length)->z A=Y (.lst ((toldOf (iW s c).2).map V.int))->(toldOf (iW s c).2).length<=5000->M (.ref A) z)
def QW(Xn:a9 K "answer_or_refusal" "answer_or_refusal" FP d pc)(D:yX K L ww)(r:q_ 13 "carry_out" ["ladder","row"] (FO K q Q pp s3 ww)):f_ 14 d pc ["ladder","row"] (FQ K q Q pp s3):=by
 let⟨c0,s⟩:=D.n1;let⟨c1,t⟩:=D.n2;let⟨c2,B⟩:=D.n3;let⟨c3,E⟩:=D.n4;let⟨c4,F⟩:=D.n5;let⟨w,G⟩:=D.fW 1 (by decide);let⟨R,V⟩:=D.fW 2 (by decide);let⟨W,X⟩:=D.fW 3 (by decide);let⟨ab,ad⟩:=D.fW 4 (by decide);let⟨al,am⟩:=D.fW 5 (by decide);refine Xn.go ["ladder","row"] λc5 c6 c7 c8 H c9 an ap as j _ _ _=>?_;let⟨a0,a1,a2,a3,a4,a,c,a5,rfl,bd,be,bi,b⟩:=j;exists _,ay (K7 S rfl (λn db ap bk=>ay (aQ (gI r as bk (A (T 0) (aJ 1))))) (PH.cons S D.x1 w G (by decide) (λg n=>ay (aQ (de (A (ei (v:=.int (-1)) S s ⟨_,S⟩) aC)))) (PH.cons S D.x2 R V (by decide) (λg n=>ay (aQ (de (A (ei (v:=.int (-2)) S t ⟨_,S⟩) aC)))) (PH.cons S D.x3 W X (by decide) (λg n=>ay (aQ (de (A (ei (v:=.int (-3)) S B ⟨_,S⟩) aC)))) (PH.cons S D.x4 ab ad (by decide) (λg n=>ay (aQ (de (A (ei (v:=.int (-4)) S E ⟨_,S⟩) aC)))) (PH.cons S D.x5 al am (by decide) (λg n=>ay (aQ (de (A (ei (v:=.int (-5)) S F ⟨_,S⟩) aC)))) PH.nil)))))),?_;dsimp;exists _,S,_,S,a0,a1,a2,a3,a4,a,c,a5,S,bd,be,bi,?_;have bl:iW a c=match fF a c with
  |.ok x=>(x.1,.told x.2)
  |.error U=>(a,.refused U):=rfl
 rw [bl]at b;cases hd:fF a c with
 |ok y=>
  let⟨dd,U⟩:=y;rw [hd]at b;intro bm h k l e bn dl;refine b bm h k l e ?_ ?_
  .rw [bn,t9];rfl
  .show(nI U).length<=5000;unfold nI;rwa [z]
 |error U=>
  rw [hd]at b;intro h k l e;exists ww U,S,?_;have C:=D.nd
  simp only [eh,bg,gR,g8,p3]at C;let⟨⟨bs,bt,bv,ca⟩,⟨cd,ce,ch⟩,⟨ci,cl⟩,cn,_⟩:=C;have f:∀u,h u=O->an (.ref u) (upd h u (.lst [.int (-(U:Int))])):=λu i=>b u _ (λc o co cr cs=>(Ext.one i) _ _ (k c o co cr cs)) (l.ext (Ext.one i)) ⟨let⟨ct,j⟩:=e.1;⟨ct,(Ext.one i) _ _ j⟩,(Ext.one i).ee e.2.1,e.2.2⟩ M (by show 1<=5000;decide)
  unfold catchR;rcases Qv hd with rfl|rfl|rfl|rfl|rfl
  .rw [ai S];exists eN,f
  .rw [N (eP bs)];unfold catchR;rw [ai S];exists eN,f
  .rw [N (eP bt)];unfold catchR;rw [N (eP cd)];unfold catchR;rw [ai S];exists eN,f
  .rw [N (eP bv)];unfold catchR;rw [N (eP ce)];unfold catchR;rw [N (eP ci)];unfold catchR;rw [ai S];exists eN,f
  .rw [N (eP ca)];unfold catchR;rw [N (eP ch)];unfold catchR;rw [N (eP cl)];unfold catchR;rw [N (eP cn)];unfold catchR;rw [ai S];exists eN,f
abbrev ub:a8:=top 109
def QX{c:k7}(z:q7 v6 c PP):∃y G,v6=y::G/\∃M,v6=M++PP:=by
 cases c with
 |program b=>exact⟨_,_,z.1,0::(b.length:Int)::gu b,by rw [z.1];rfl⟩
 |show_=>exists _,_,z,[1],z
 |set y a=>exists _,_,z.1,[2,y,a],z.1
 |arrows a=>exists _,_,z.1,[3,a],z.1
 |counts=>exists _,_,z,[4],z
 |class_ a=>exists _,_,z.1,[5,a],z.1
 |classes=>exists _,_,z,[6],z
 |ask a=>exists _,_,z.1,[7,a],z.1
 |funs a=>exists _,_,z.1,[8,a],z.1
 |looked a=>exists _,_,z.1,[9,a],z.1
 |change a b=>exact⟨_,_,z.1,10::a::(b.length:Int)::gu b,by rw [z.1];rfl⟩
 |undo=>exists _,_,z,[11],z
 |size=>exists _,_,z,[12],z
variable{SL:aL}
def cg.off{H:U}(N:bN d H r)(T:H d=Y (.bP SL (.lst (v6.map V.int))))(t:cg K Q pp H q pi):cg K Q pp r q pi:=by
 let⟨v,x,y,B,E,F,L,M,R,⟨W,X,ab,ad,al⟩,j,⟨am,an,k⟩,ap,as,l⟩:=t;have b:∀{c a},H c=Y (.lst a)->r c=Y (.lst a):=λz=>N _ _ z (cW z T (by intro A;cases A))
 have m:∀{c n o p},H c=Y (.ins n o p)->r c=Y (.ins n o p):=λz=>N _ _ z (cW z T (by intro A;cases A));have g:∀{c a},ax K H c a->ax K r c a:=λz=>by
  rcases z with(z|⟨u,z⟩)|z
  .exact .inl (.inl (N _ _ z (cW z T (by intro A;cases A))))
  .exact .inl (.inr ⟨u,N _ _ z (cW z T (by intro A;cases A))⟩)
  .exact .inr z
 have h:∀{c:Z} {e:List Z} {f:List Pr},av K H c (e.map V.ref)->fJ K H e f->f≠[]->av K r c (e.map V.ref):=λ{c e f} z a0 a1=>by
  rcases z with(z|⟨u,z⟩)|z
  .exact .inl (.inl (b z))
  .refine .inl (.inr ⟨u,N _ _ z (cW z T λA=>?_)⟩);injection A with _ A;injection A with A;cases a0 with
   |nil=>exact a1 S
   |cons _ _=>
    cases v6 with
    |nil=>cases A
    |cons _ _=>injection A with A _;cases A
  .exact .inr z
 have a2:(aq pi).map D≠[]:=λA=>by have:=dY (f:=D) (gm (gW pi));rw [A]at this;cases this
 exists v,x,y,B,E,F,L,m M,b R,⟨W,b X,λa3 a4=>let⟨⟨a5,bd⟩,be⟩:=ab a3 a4;⟨⟨a5,m bd⟩,b be⟩,ad,al⟩,N _ _ j (cW j T (by intro A;cases A)),⟨am,h an k (by unfold bp;intro A;cases A),Paired.b9 k λ_ _=>g⟩,ap,h as l a2,Paired.b9 l λ_ _=>g
def eG.off{H:U}{c:aL}(z:bN d H r)(A:H d=Y (.bP c (.lst (v6.map V.int))))(e:eG K Q pp s3 H q Do):eG K Q pp s3 r q Do:=by let⟨f,g,lk,h,a,i,b,j,k⟩:=e.ex;exists f,g,lk,h,z _ _ a (cW a A (by intro D;cases D)),i.off z A,z _ _ b (cW b A (by intro D;cases D)),Paired.b9 j λ_ _ l=>l.off z A,k
theorem QY:Passes (bA m p) h E0:=λ_ _ _ _ _ _ _ A=>by let⟨_,_,_,_,_,_,_,_,_,_,_,_,D⟩:=A;exact D.elim
inductive uc (K:af) (A:List V) (H:U) (D:VK) (M:XK):Prop
 |mk(ln l:_)(_:A=[.ref ln])(_:av K H ln (l.map V.int))(_:l.length<=17000)(_:Hx l=I)(_:∀(z:U) (p:Z),z p=Y (.lst ((vl l).map V.int))->D (.ref p) z)
def QZ(c0:a9 K "answers" "answers" ub s3 pc)(c1:L "len"=O)(c2:iu m p K L P (bA m p) 11 "Ladder" q ["self"] (FG K q Q pp))(c3:iu m p K L P aE 1 "Row" d ["self","numbers"] (EW d))(c4:h_ 1 d "has_more" ["self"] (ES K d))(c5:g_ 14 "answer_or_refusal" ["ladder","row"] (FQ K q Q pp d)):f_ 15 s3 pc ["calls"] (uc K):=by
 refine c0.go ["calls","ladder","row","told","answer"] λf1 f2 f4 f8 H ga ge gl B a w _ _=>?_;let⟨C,b,rfl,CN,go,c6,c7⟩:=a;have sz:(200000:Nat)<aU:=by decide
 have c8:=B.mo 1;have c9:=B.mo 2
 have db:=B.mo 12;exists _,ar (bj 1 w (Ln (E:=E0) c2 db QY)) (ar (bj 2 w (iv (E:=E0) c3 c9 cx (aJ 0))) (ar (bj 3 w (de aC)) (ar (oh dZ (kn (dR (E:=E0) (T 2) c4 c8 cx)) (ar (mB (bj 4 w (bI c5 B (A (T 1) (aJ 2))))) (ar (cM (fe fu gb gF fR (T 3) (A (cR ej (by rfl) c1 dE (aJ 4)) aC))) (ay (cM (fe fu ze HB vZ (T 3) (aJ 4))))))) (ay (aQ (T 3)))))),?_;let⟨g,dd,gt,dl,g1⟩:=NG c6;intro CR W a1 dp ds;have dx:Ext H (upd (upd H W (.own CR)) CR (.ins q W [])):=(Ext.one dp).new ((ah ds.symm).trans a1)
 exists CR,W,S,M,λn dK a2=>⟨S,?_⟩;have a3:Ext H n:=λc o s=>dK c o (dx _ _ s) (cB s a1)
 exists _,S,λN e a4 a5 bd=>?_;have g2:Ext n (upd (upd n e (.own N)) N (.ins d e [])):=(Ext.one a5).new ((ah bd.symm).trans a4)
 exists N,e,C,S,M,S,?_;have G:Ext n (upd (upd (upd n e (.own N)) N (.ins d e [])) N (.ins d e (nv C 0))):=by rw [gS];exact(Ext.one a5).new ((ah bd.symm).trans a4)
 have be:upd (upd (upd n e (.own N)) N (.ins d e [])) N (.ins d e (nv C 0)) N=Y (.ins d e (nv C 0)):=M;generalize upd (upd (upd n e (.own N)) N (.ins d e [])) N (.ins d e (nv C 0))=bi at*;exists cP _,λD t=>?_;have X:∀{o},Ext bi (upd bi D o):=Ext.one t
 have dL:∀{h r:U},av K h C (b.map V.int)->bN D h r->av K r C (b.map V.int):=by
  rcases CN with CN|CN
  .have bk:C≠D:=by
    rcases(a3.trans G).rd CN with a|⟨u,a⟩
    .exact cB a t
    .exact cB a t
   intro h r a v;rcases a with(a|⟨u,a⟩)|a
   .exact .inl (.inl (v _ _ a bk))
   .exact .inl (.inr ⟨u,v _ _ a bk⟩)
   .exact .inr a
  .exactλ_ _=>.inr CN
 have dT:∀(h:U) o bl,bN D (upd h D o) (upd h D bl):=λh o bl c u s ab=>by rw [ah ab]at s⊢;exact s
 have bm:∀{h r:U} {f:Nat},gz K d h N C b f->bN D h r->N≠D->gz K d r N C b f:=λi v ab=>⟨let⟨dX,a⟩:=i.1;⟨dX,v _ _ a ab⟩,dL i.2.1 v,i.2.2⟩
 have d0:CR≠D:=let⟨_,_,_,_,l,_,_,_,_⟩:=a2.ex;cB (G _ _ l) t
 have bn:N≠D:=cB be t;let d1:VLx:=λbs bt k=>X5 λbv f CL g j=>A8 (bt=[Y (.ref C),Y (.ref CR),Y (.ref N),Y (.ref D),bv]) (eG K q Q pp (upd k D (.ins 0 0 [])) CR CL) (gz K d k N C b f) (k D=Y (.lst (j.map V.int))) (Calls (b.drop f) g) (j++tD CL g=vl b) (j.length+5001*g.length<=150030) (bs=g.length)
 exists d1,⟨_,O,0,Hy,g,[],S,by rw [gS];exact a2.ext (G.trans X),⟨⟨e,X _ _ be⟩,((a3.trans G).trans X).ee CN,cP _,by lia⟩,M,dd,dl.symm,by show 0+_<=_;lia,S⟩,?_;rintro bs bt k ⟨bv,f,CL,g,j,rfl,em,ad,hw,ca,cd,eq,rfl⟩;let⟨⟨es,ev⟩,_⟩:=id ad;exists _,S,N,es,_,S,ev,S,N,C,b,f,S,ad,_,S,?_;generalize x:b.drop f=ld at ca;cases ca with
 |nil=>
  have al:¬f<b.length:=λl=>by
   have:=bD cN x;rw [l7]at this;simp only [iP]at this
   lia
  rw [bU al];refine b1 ⟨_,S,c7 k D ?_⟩;rw [hw,<-cd];show _=Y (HO.lst ((j++[]).map V.int))
  rw [b0]
 | @cons _ c i g ce ex=>
  let⟨y,g3,fa,ch,ci⟩:=QX ce;have al:f<b.length:=by
   have:=bD cN (x.trans fa);rw [l7,dn]at this
   lia
  rw [cq al];refine cf ⟨_,(λhd he a=>a),?_⟩;exists D,_,hw,trivial,λcl=>?_;have fd:bN D k (upd k D (.bP cl (.lst (j.map V.int)))):=(bN.refl D k).gZ
  have cn:=em.but (dT k _ (.bP cl (.lst (j.map V.int)))) M (by decide) d0;have co:=bm ad fd bn
  let⟨_,_,_,_,fl,_⟩:=cn.ex;let⟨⟨_,fm⟩,_⟩:=id co;exists _,S,_,S,CR,N,C,b,f,CL,c,i,S,cn,co,by rw [x];exact ce,λR am fn fr fs an hf=>?_;have ap:=fn _ _ M (cW M fl (by intro l;cases l)) (cW M fm (by intro l;cases l))
  have cr:R≠D:=cW an ap (by intro l;cases l);have hi:j.length<=150030:=by lia
  exists ap,?_;exists _,S,.inl ⟨S,_,av.of M⟩,_,S,R,_,S,.inl (av.of ((ah cr).trans an)),D,_,_,S,S,M,by rw [z];lia,?_;rw [gS];exists _,S,.inl ⟨S,_,av.of M⟩,_,S,D,R,_,_,S,S,M,(ah cr).trans an,by rw [br,z,z];show j.length+1+_<=_;lia,?_;rw [gS];have cs:∀o,bN D am (upd am D o):=λo=>(bN.refl D am).gZ
  have fT:b.drop (b.length-i.length)=i:=by
   have ct:(b.drop f).drop ch.length=i:=by rw [x,ci,List.drop_left]
   rw [HD]at ct;have f0:=bD cN (x.trans ci)
   rw [l7,br]at f0;rw [show b.length-i.length=f+ch.length by lia];exact ct
  exists g.length,by show _<g.length+1;lia,Y (.ref R),b.length-i.length,(iW CL c).1,g,j++((toldOf (iW CL c).2).length:Int)::toldOf (iW CL c).2,S,by rw [gS];exact fr.off (cs _) ap,bm fs (cs _) bn,?_,by rw [fT];exact ex,?_,?_,S
  .rw [M,z,aT,aZ,ck];rfl
  .rw [<-cd];rw [ck];rfl
  .rw [br,dn];rw [dn]at eq
   lia
def GF(K:af)(G:aa->Option J)(x:aa)(st:a8)(ps:List aa):Prop:=∃z A,a9 K x x st z A/\Binds K A ps []/\G x=Y (.ref z)
def MF(K:af)(C:Z)(m q:aa)(st:a8)(ps:List aa):Prop:=∃z A,a9 K m q st z A/\Binds K A ps []/\Meth K C m z
def NF(K:af)(G:aa->Option J)(x:aa)(C:Z)(q:aa)(st:a8)(ps:List aa):Prop:=∃z A,a9 K "__init__" q st z A/\Binds K A ps []/\Mk K C z/\G x=Y (.ref C)
structure Q0(L:aa->Option J):Prop where
 Q1:L "len"=O
 Q2:L "min"=O
 FR:L "ord"=O
 FT:L "range"=O
 Q3:L "enumerate"=O
 FU:L "list"=O
 FV:L "dict"=O
 FW:L "sum"=O
 Q4:L "max"=O
variable{nw:aa}{tz:List aa}{Fk:gj}{AT:Sp}
theorem GF.to(T:GF K L nw wS tz)(D:aw)(M:au)(N:aD)(U:∀z A,a9 K nw nw wS z A->aV D M K L N Fk t z A tz AT):bz D M K L N Fk t nw tz AT:=let⟨z,A,S,a,b⟩:=T;⟨z,A,U z A S,a,b,S.kp⟩
variable{FS:aa}
theorem MF.to(c:fc K d)(S:MF K d nw FS wS tz)(D:aw)(M:au)(G:aa->Option J)(N:aD)(T:∀z A,a9 K nw FS wS z A->aV D M K G N Fk t z A tz AT):cC D M K G N Fk t d nw tz AT:=let⟨z,A,U,a,b⟩:=S;⟨⟨z,A,T z A U,a,b⟩,c⟩
theorem NF.to(S:NF K L nw d FS wS tz)(D:aw)(M:au)(N:aD)(T:∀z A,a9 K "__init__" FS wS z A->aV D M K L N Fk t z A tz AT):iu D M K L N Fk t nw d tz AT:=let⟨z,A,U,a,b,c⟩:=S;⟨⟨z,A,T z A U,a,b⟩,c⟩
variable{Id KM:Z}
def join{K:af}{o f1:Z}(a:yX K L ww)(g3:FN L)(h:Gs L)(f2:Gk L)(c:kH K q)(N:eE K Q s3)(f:kN K o)(rw:rp K pp)(S:g0 K d)(e:Q0 L) (E:L "PARTS"=Y (.ref wl)) (F:KD K m p wl gK) (f4:L "BINDERS"=Y (.ref Da)) (f8:∀H,ax K H Da [.str "fun",.str "let"]) (bi:L "NUMBERS"=Y (.ref Id)) (bk:∀H,ax K H Id (b4 (0,0))) (ga:L "KIND_OF_MAKER"=Y (.ref KM)) (ge:KD K m p KM lU) (gl:L "RUNGS"=Y (.ref f1)) (go:∀H,ax K H f1 [.int 0,.int 1,.int 2,.int 3])(hd:∃U,L "MOST_DIGITS"=Y (.int 2 U)) (he:∃U,L "MOST_LETTERS"=Y (.int 4 U)) (hf:∃U,L "MOST_NODES"=Y (.int 30 U)) (hi:∃U,L "MOST_AROUND"=Y (.int 8 U)) (hm:∃U,L "MOST_KEPT"=Y (.int 8 U)) (hz:∃U,L "EVERYTHING"=Y (.int 0 U)) (h0:∃U,L "BY_KINDS"=Y (.int 1 U)) (h1:∃U,L "BOTH_WAYS"=Y (.int 2 U))(h2:∃U,L "SIGNS"=Y (.str " ()0123456789abcdefghijklmnopqrstuvwxyz" U)) (id:∃U,L "NO_SIGN"=Y (.str "?" U)) (ii:∃U,L "NUMBER"=Y (.str "a number" U)) (im:∃U,L "GIVEN"=Y (.str "in" U))(bl:GF K L "is_number" C0 ["word"])(A:GF K L "is_name" C1 ["word"])(bm:GF K L "signs_of" Dg ["text"])(bn:GF K L "words_of" C8 ["signs"])(P:GF K L "read_expression" DI ["text"])(G:GF K L "labels_of" DS ["nodes","forms"])(bs:GF K L "binders_of" DU ["nodes"])(bt:GF K L "binder_of" DV ["nodes","label"])(bv:GF K L "sorts_of" DW ["nodes"])(ca:GF K L "places_of" DX ["nodes"])(D:GF K L "empty_table" Ee ["program"])(b:GF K L "own_table" Ef ["program"])(n:GF K L "ways_of" DO ["program","table"])(cd:GF K L "standing_ways" Dn ["program","label"])(ce:GF K L "ways_by_facts" x9 ["program","label","table"])(ch:GF K L "call_ways" DK ["program","label","table"])(R:GF K L "labels_at" Dl ["table","label","kind"])(ci:GF K L "places_that_steer" EI ["program","place"])(r:GF K L "ask_alone" Fe ["program","place"])(s:GF K L "last_classes" yI ["program"])(cn:GF K L "put_together" yA ["classes","kept","lost"])(V:GF K L "table_of_classes" yG ["program","classes"])(X:GF K L "members" yB ["program","classes","place"])(co:GF K L "class_sizes" yC ["program","classes"])(t:GF K L "table_of_rung" EH ["program","rung"])(cr:GF K L "everything_table" Et ["program"])(cs:GF K L "kinds_table" Eu ["program"])(u:GF K L "least_table" Ei ["program"])(ab:GF K L "as_keys" Di ["sorts"])(v:GF K L "sorts_at" Dk ["program","table","place"])(ad:GF K L "how_many_facts" El ["table"])(al:GF K L "functions_at" Em ["program","table","place"])(am:GF K L "arrows_of" En ["program","table"])(ct:GF K L "changed_program" Fg ["program","label","text"])(c0:GF K L "moved_labels" Fl ["old","new","label"])(an:GF K L "moved_two" EX ["two","moved"])(c1:GF K L "moved_sort" yM ["sort","moved"])(c2:GF K L "how_many_kept" Fo ["old_table","new_table","moved"])(c3:GF K L "kept_gone_and_new" Fq ["old","new","label"])(ap:GF K L "check_rung" EV ["rung"])(l:GF K L "counted_twos" ER ["twos"])(c4:GF K L "carry_out" FK ["ladder","row"])(c5:GF K L "answer_or_refusal" FP ["ladder","row"])(io:GF K L "answers" ub ["calls"])(as:MF K q "peek" "Reading.peek" Dc ["self"])(w:MF K q "take" "Reading.take" Dd ["self"])(a0:MF K q "pass_over" "Reading.pass_over" De ["self","word"])(a1:MF K q "begin_node" "Reading.begin_node" DB ["self"])(c6:MF K q "read_head" "Reading.read_head" Du ["self"])(c7:MF K q "read_bracketed_head" "Reading.read_bracketed_head" Dv ["self"])(c8:MF K q "read_on" "Reading.read_on" DC ["self"])(c9:MF K Q "has_node" "Program.has_node" D7 ["self","label"])(db:MF K Q "is_call" "Program.is_call" D8 ["self","label"])(a2:MF K Q "calls_within" "Program.calls_within" D9 ["self"])(first:MF K Q "first_part_of" "Program.first_part_of" Ea ["self","label"])(dd:MF K o "look_further" "Asking.look_further" yT ["self"])(dl:MF K o "find_facts" "Asking.find_facts" Fc ["self"])(dp:MF K o "how_much" "Asking.how_much" E7 ["self"])(ds:MF K pp "has_more" "Row.has_more" EM ["self"])(a3:MF K pp "take_number" "Row.take_number" EN ["self"])(dx:MF K pp "take_text" "Row.take_text" EO ["self"])(replace:MF K d "replace_program" "Ladder.replace_program" (ef 1) ["self","text"])(dK:MF K d "tell_text" "Ladder.tell_text" (ef 2) ["self"])(dL:MF K d "tell_set" "Ladder.tell_set" (ef 3) ["self","rung","label"])(dT:MF K d "tell_arrows" "Ladder.tell_arrows" (ef 4) ["self","rung"])(dX:MF K d "tell_counts" "Ladder.tell_counts" (ef 5) ["self"])(d0:MF K d "tell_class" "Ladder.tell_class" (ef 6) ["self","label"])(d1:MF K d "tell_classes" "Ladder.tell_classes" (ef 7) ["self"])(em:MF K d "tell_asked" "Ladder.tell_asked" (ef 8) ["self","label"])(eq:MF K d "tell_funs" "Ladder.tell_funs" (ef 9) ["self","label"])(es:MF K d "tell_looked" "Ladder.tell_looked" (ef 10) ["self","label"])(change:MF K d "change_program" "Ladder.change_program" (ef 11) ["self","label","text"])(ev:MF K d "undo_change" "Ladder.undo_change" (ef 12) ["self"])(ex:MF K d "tell_size" "Ladder.tell_size" (ef 13) ["self"])(i:MF K d "check_node" "Ladder.check_node" (ef 14) ["self","label"])(a4:NF K L "Node" s3 "Node.__init__" Ds ["self","form","word"])(fa:NF K L "Reading" q "Reading.__init__" DH ["self","words"])(x:NF K L "Program" Q "Program.__init__" D6 ["self","text"])(fd:NF K L "Asking" o "Asking.__init__" yR ["self","program","place"])(fl:NF K L "Row" pp "Row.__init__" EL ["self","numbers"])(fm:NF K L "Ladder" d "Ladder.__init__" (ef 0) ["self"]):∃y a5,L "answers"=Y (.ref y)/\a9 K "answers" "answers" ub y a5/\∀M:aD,aV m p K L M aE 15 y a5 ["calls"] (uc K):=by
 let⟨_,is⟩:=hd;let⟨_,it⟩:=he;let⟨_,ix⟩:=hf;let⟨_,jp⟩:=hi;let⟨_,kk⟩:=hm;let⟨_,kp⟩:=hz;let⟨_,ks⟩:=h0;let⟨_,kt⟩:=h1;let⟨_,kw⟩:=h2;let⟨_,kP⟩:=id;let⟨_,gt⟩:=ii;let⟨_,fn⟩:=im;let⟨_,g1⟩:=h.used;let⟨_,B⟩:=h.call;let⟨_,j⟩:=h.node;let⟨_,kV⟩:=h.name;let⟨_,k0⟩:=h.inside;let⟨_,g2⟩:=f2.fn;have T:=e.Q1
 have bd:=e.Q3;let⟨y,a5,z,k2,k1⟩:=io;exists y,a5,k1,z,λM=>?_;have bl:=bl.to m p M λ_ _ z=>NL z T is
 have A:=A.to m p M λ_ _ z=>NO z T it E F;have bm:=bm.to m p M λ_ _ z=>N1 z e.FR kw kP
 have bn:=bn.to m p M λ_ _ z=>NS z;have a4:=a4.to m p M λ_ _ z=>N9 z N.n
 have fa:=fa.to m p M λ_ _ z=>Ow z c;have as:=MF.to c.cl as m p L M λ_ _ z=>NV z c T
 have w:=MF.to c.cl w m p L M λ_ _ z=>NW z c T e.Q2 as;have a0:=MF.to c.cl a0 m p L M λ_ _ z=>NX z w a.x1 (a.fW 1 (by decide)).1
 have c7:=MF.to c.cl c7 m p L M λ_ _ z=>Oe z c a.x1 (a.fW 1 (by decide)).1 E F f4 f8 B fn as w a0 a4 A;have c6:=MF.to c.cl c6 m p L M λ_ _ z=>Oh z c a.x1 (a.fW 1 (by decide)).1 gt fn g1 w c7 a4 A bl
 have a1:=MF.to c.cl a1 m p L M λ_ _ z=>Oj z c N.n a.x1 (a.fW 1 (by decide)).1 E F T ix jp c6;have c8:=MF.to c.cl c8 m p L M λ_ _ z=>Ot z c N.n E F T B a0 a1
 have P:=P.to m p M λ_ _ z=>Ox z c a.x1 (a.fW 1 (by decide)).1 T bm bn fa a1 c8;have G:=G.to m p M λ_ _ z=>OH z N.n.cl N.n.aK bd
 have bt:=bt.to m p M λ_ _ z=>OI z N.n a.x1 (a.fW 1 (by decide)).1;have bs:=bs.to m p M λ_ _ z=>OM z g1 G bt
 have bv:=bv.to m p M λ_ _ z=>OP z N.n bd bi bk ga ge;have ca:=ca.to m p M λ_ _ z=>OX z h T e.FT f4 f8 G
 have x:=x.to m p M λ_ _ z=>OY z N e.FU P bs bv ca;have c9:=MF.to N.p.c c9 m p L M λ_ _ z=>OZ z N T
 have db:=MF.to N.p.c db m p L M λ_ _ z=>O0 z N B;have a2:=MF.to N.p.c a2 m p L M λ_ _ z=>O1 z N B G
 have first:=MF.to N.p.c first m p L M λ_ _ z=>O2 z N j
 have D:=D.to m p M λ_ _ z=>O3 z N;have b:=b.to m p M λ_ _ z=>O8 z N bd bi bk ga ge j gt fn D
 have R:=R.to m p M λ_ _ z=>N4 z j;have cd:=cd.to m p M λ_ _ z=>N8 z N.p h
 have ch:=ch.to m p M λ_ _ z=>Oy z N.p h g2 R;have ce:=ce.to m p M λ_ _ z=>OA z N.p h f2 R ch
 have n:=n.to m p M λ_ _ z=>OD z N.p T e.FT cd ce;have ab:=ab.to m p M λ_ _ z=>N2 z
 have v:=v.to m p M λ_ _ z=>N3 z N.p.c N.p.sorts;have u:=u.to m p M λ_ _ z=>Pa z N T b n
 have ad:=ad.to m p M λ_ _ z=>Pe z T e.FW;have al:=al.to m p M λ_ _ z=>Pf z N g2 v
 have am:=am.to m p M λ_ _ z=>Ph z N a2 first al
 have cr:=cr.to m p M λ_ _ z=>Pj z N ab;have cs:=cs.to m p M λ_ _ z=>Pk z N ab u
 have cn:=cn.to m p M λ_ _ z=>Pn z e.FU;have X:=X.to m p M λ_ _ z=>Po z N
 have co:=co.to m p M λ_ _ z=>Pq z N T X;have V:=V.to m p M λ_ _ z=>Py z N e.FV b
 have s:=s.to m p M λ_ _ z=>PB z N V n cn;have t:=t.to m p M λ_ _ z=>PD z kp ks kt cr cs V s u
 have ci:=ci.to m p M λ_ _ z=>PJ z N j kV k0 B a2 first G
 have fd:=fd.to m p M λ_ _ z=>P8 z f D;have dp:=MF.to f.cl dp m p L M λ_ _ z=>P9 (C:=Q) (CN:=s3) z f T e.FW
 have dd:=MF.to f.cl dd m p L M λ_ _ z=>Qa z f e.FV ci n;have dl:=MF.to f.cl dl m p L M λ_ _ z=>Qb z f b n
 have r:=r.to m p M λ_ _ z=>Qe z f fd dp dd dl;have ct:=ct.to m p M λ_ _ z=>Qn z N P x
 have c0:=c0.to m p M λ_ _ z=>Qp z N T bd;have an:=an.to m p M λ_ _ z=>PV z
 have c1:=c1.to m p M λ_ _ z=>PX z bi bk an;have c2:=c2.to m p M λ_ _ z=>Qq z T an c1
 have c3:=c3.to m p M λ_ _ z=>Qr z u c2 c0 ad;have fl:=fl.to m p M λ_ _ z=>PR z rw
 have ds:=MF.to rw.cl ds m p L M λ_ _ z=>PK z rw T;have a3:=MF.to rw.cl a3 m p L M λ_ _ z=>PL z rw
 have dx:=MF.to rw.cl dx m p L M λ_ _ z=>PQ z rw a3;have ap:=ap.to m p M λ_ _ z=>PU z a.x2 (a.fW 2 (by decide)).1 gl go
 have l:=l.to m p M λ_ _ z=>PM z T;have fm:=fm.to m p M λ_ _ z=>QJ z S e.FR x
 have i:=MF.to S.cl i m p L M λ_ _ z=>Qw z S a.x3 (a.fW 3 (by decide)).1 c9;have replace:=MF.to S.cl replace m p L M λ_ _ z=>QK (Xn:=ww) z S N T x
 have dK:=MF.to S.cl dK m p L M λ_ _ z=>Qx (Xn:=ww) z S N T;have dL:=MF.to S.cl dL m p L M λ_ _ z=>Qy (Xn:=ww) z S j ap i t v l
 have dT:=MF.to S.cl dT m p L M λ_ _ z=>QA (Xn:=ww) z S ap t am l;have dX:=MF.to S.cl dX m p L M λ_ _ z=>QE (Xn:=ww) z S T gl go t am ad
 have d0:=MF.to S.cl d0 m p L M λ_ _ z=>QB (Xn:=ww) z S j i s X l;have d1:=MF.to S.cl d1 m p L M λ_ _ z=>QC (Xn:=ww) z S T e.Q4 s co
 have em:=MF.to S.cl em m p L M λ_ _ z=>QG (Xn:=ww) z S f T j i r v l;have eq:=MF.to S.cl eq m p L M λ_ _ z=>QH (Xn:=ww) z S f T a.x5 (a.fW 5 (by decide)).1 i db first r al
 have es:=MF.to S.cl es m p L M λ_ _ z=>QI (Xn:=ww) z S f N j i r l;have change:=MF.to S.cl change m p L M λ_ _ z=>QL (Xn:=ww) z S N T kk i ct c3
 have ev:=MF.to S.cl ev m p L M λ_ _ z=>QM (Xn:=ww) z S N T a.x4 (a.fW 4 (by decide)).1;have ex:=MF.to S.cl ex m p L M λ_ _ z=>QF (Xn:=ww) z S N T
 have c4:=c4.to m p M λ_ _ z=>QV z g3 ⟨a3,dx,replace,dK,dL,dT,dX,d0,d1,em,eq,es,change,ev,ex⟩;have c5:=c5.to m p M λ_ _ z=>QW z a c4
 exact QZ z T fm fl ds c5
end Cf
namespace L2
open PySem.W (WData Codec OpenSpec Well WellAll ReadsW ReadsAllW)
mutual
inductive Dw (K:af) (H:U):V->eJ->Prop
 |bw:Dw K H .bw .none
 |bl (b:Bool):Dw K H (.bl b) (.bool b)
 |int (i:Int):Dw K H (.int i) (.int i)
 |str (x:aa):Dw K H (.str x) (.str x)
 |fP (b:Array UInt8):Dw K H (.fP b) (.bytes b.toList)
 |lst {a:Z} {xs:List V} {ds:List eJ}:av K H a xs->iH K H xs ds->Dw K H (.ref a) (.list ds)
 |tup {a:Z} {xs:List V} {ds:List eJ}:ax K H a xs->iH K H xs ds->Dw K H (.ref a) (.tuple ds)
inductive iH (K:af) (H:U):List V->List eJ->Prop
 |nil:iH K H [] []
 |cons {v:V} {c:List V} {d:eJ} {ds:List eJ}:Dw K H v d->iH K H c ds->iH K H (v::c) (d::ds)
end
theorem Q5{K:af}{H:U}:∀z:List Int,iH K H (z.map V.int) (z.map zw)
 |[]=>.nil
 |n::a=>.cons (.int n) (Q5 a)
theorem Q6{K:af}{H:U}:∀(A:List Int) (z:List V),iH K H z (A.map zw)->z=A.map V.int
 |[],z,a=>by cases a;rfl
 |n::b,z,a=>by
  cases a with
  |cons c d=>
   cases c;rw [Q6 b _ d]<;>rfl
variable{P:aD}{d:Z}{ul:List V}{m:aw}{p:au}{K:af}{H:U}
def Q7(U:dv m p H P)(a:K.In P)(M:av K H d ul):∃(z:List J) (o:aL) (A:Nat),Vals ul z/\P.get? d=Y o/\o.cls=.type "list"/\o.data=.seq z.toArray A:=by
 rcases M with M|⟨o,z,A,N,b,_,hd,_,T⟩
 .obtain⟨_,z,A,T,N⟩:=(show d2 m p H P d (.lst ul)from M.ok U)
  exists z,_,A,T,N,S,S
 .exact⟨z.toList,o,A,T,a _ _ N,b,by simp [hd]⟩
def Q8(a:dv m p H P)(b:K.In P)(M:ax K H d ul):∃(z:List J) (o:aL) (A:Nat),Vals ul z/\P.get? d=Y o/\o.cls=.type "tuple"/\o.data=.seq z.toArray A:=by
 rcases M with M|⟨o,z,A,N,S,T,_,U⟩
 .obtain⟨_,z,U,o,N,S,A,T⟩:=(show d2 m p H P d (.tup ul)from M.ok a)
  exists z,o,A,U,N,S,T
 .exact⟨z.toList,o,A,U,b _ _ N,S,by simp [T]⟩
variable{R:T4}{cl:aa->Option Z}
mutual
theorem Dw.reads(bf:dv m p H P)(a:K.In P):∀(d:eJ) (v:V) (u:J),Dw K H v d->RelV v u->∃A,ReadsW R cl P u d A
 |.none,_,_,x,r=>by
  cases x
  cases r
  exists _,ReadsW.none
 |.bool b,_,_,x,r=>by
  cases x
  cases r
  exists _,ReadsW.bool b
 |.int i,_,_,x,r=>by
  cases x
  let⟨D,rfl⟩:=r
  exists _,ReadsW.int i D
 |.str s,_,_,x,r=>by
  cases x
  let⟨D,rfl⟩:=r
  exists _,ReadsW.str s D
 |.bytes b,_,_,x,r=>by
  cases x
  let⟨D,rfl⟩:=r
  exists _,ReadsW.bytes _ D
 |.list z,_,_,x,r=>by
  cases x with
  |lst c e=>
   cases r
   let⟨G,o,n,M,N,T,hd⟩:=Q7 bf a c
   let⟨A,U⟩:=Dw.readsAll bf a z _ G e M
   exists _,ReadsW.list N T hd U
 |.tuple z,_,_,x,r=>by
  cases x with
  |tup c e=>
   cases r
   let⟨G,o,n,M,N,T,hd⟩:=Q8 bf a c
   let⟨A,U⟩:=Dw.readsAll bf a z _ G e M
   exists _,ReadsW.tuple N T hd U
 |.float _,_,_,x,_=>by cases x
 |.dict _,_,_,x,_=>by cases x
 |.bytearray _,_,_,x,_=>by cases x
 |.set _,_,_,x,_=>by cases x
 |.frozenset _,_,_,x,_=>by cases x
 |.obj _ _,_,_,x,_=>by cases x
theorem Dw.readsAll(bf:dv m p H P)(a:K.In P):∀(z:List eJ) (f:List V) (g:List J),iH K H f z->Vals f g->∃A,ReadsAllW R cl P g z A
 |[],_,_,x,r=>by
  cases x
  cases r
  exists _,VJ
 |d::z,_,_,x,r=>by
  cases x with
  |cons j k=>
   cases r with
   |cons l h=>
    let⟨A,w⟩:=Dw.reads bf a d _ _ j l
    let⟨bs,q⟩:=Dw.readsAll bf a z _ _ k h
    exists _,VL w q
end
mutual
def iI:eJ->Bool
 |.none=>I
 |.bool _=>I
 |.int _=>I
 |.str _=>I
 |.bytes _=>I
 |.list xs=>jW xs
 |.tuple xs=>jW xs
 |_=>ao
def jW:List eJ->Bool
 |[]=>I
 |x::r=>iI x&&jW r
end
variable{sK:Type}
theorem FX{z:sK->eJ}(D:∀G,iI (z G)=I):∀M:List sK,jW (M.map z)=I
 |[]=>rfl
 |x::a=>by show(iI (z x)&&jW (a.map z))=I;rw [D x,FX D a]<;>rfl
theorem lX:∀(c:Codec) (z:c.denote),iI (c.enc z)=I
 |.unit,_=>rfl
 |.bool,_=>rfl
 |.int _ _,_=>rfl
 |.nat _ _,_=>rfl
 |.u8,_=>rfl
 |.bytes _ _,_=>rfl
 |.text _ _ _ _,_=>rfl
 |.list _ _ c,z=>FX (λA=>lX c A) z
 |.pair c d,z=>by show(iI (c.enc z.1)&&(iI (d.enc z.2)&&I))=I;rw [lX c z.1,lX d z.2]<;>rfl
 |.triple c d a,z=>by show(iI (c.enc z.1)&&(iI (d.enc z.2.1)&&(iI (a.enc z.2.2)&&I)))=I;rw [lX c z.1,lX d z.2.1,lX a z.2.2]<;>rfl
 |.option c,O=>rfl
 |.option c,Y A=>lX c A
theorem FY:∀(A:List Codec) (z:z2 A),jW (r0 A z)=I
 |[],_=>rfl
 |c::A,z=>by show(iI (c.enc z.1)&&jW (r0 A z.2))=I;rw [lX c z.1,FY A z.2]<;>rfl
theorem yY:∀{A:List eJ} {z:eJ},z∈A->z.weight<=T5 A
 |[],z,a=>absurd a (by simp)
 |x::b,z,a=>by
  show z.weight<=x.weight+1+T5 b;rcases bg.mp a with D|m
  .rw [D]
   lia
  .have G:=yY m
   lia
def toV:J->V
 |.none=>.bw
 |.bool b=>.bl b
 |.int i _=>.int i
 |.str x _=>.str x
 |.bytes b _=>.fP b
 |.ref a=>.ref a
 |_=>.bw
def ia(z:List Z):J->Prop
 |.none=>True
 |.bool _=>True
 |.int _ _=>True
 |.str _ _=>True
 |.bytes _ _=>True
 |.ref a=>a∈z
 |_=>False
variable{wf VS:List Z}
theorem ia.mono(M:∀z∈wf,z∈VS):∀{u:J},ia wf u->ia VS u:=λ{u} G=>by
 cases u with
 |ref z=>exact M z G
 |none=>trivial
 |bool b=>trivial
 |int i a=>trivial
 |str c a=>trivial
 |bytes b a=>trivial
 |_=>exact g5 G
def Q9{u:J}(A:ia wf u):RelV (toV u) u:=by
 cases u with
 |ref a=>rfl
 |none=>rfl
 |bool c=>rfl
 |int i b=>exists b,S
 |str d b=>exists b,S
 |bytes c b=>exists b,S
 |_=>exact g5 A
theorem pK:∀{z:List J},(∀u∈z,ia wf u)->Vals (z.map toV) z
 |[],_=>.nil
 |u::b,a=>.cons (Q9 (a u (bE ..))) (pK λD G=>a D (bC _ G))
def iJ(A:aD)(G:List Z)(D:Z):Prop:=∃z:List J,z.length<=aU/\(∀u∈z,ia G u)/\
 (A.get? D=Y {cls:=.type "list",data:=.seq z.toArray}\/A.get? D=Y {cls:=.type "tuple",data:=.seq z.toArray})
def iJ.mono(M:∀d∈wf,d∈VS)(N:iJ P wf d):iJ P VS d:=by let⟨S,T,U,a⟩:=N;exists S,T,λu b=>(U u b).mono M,a
variable{SZ:j7}
theorem ud:∀{z:List J} {A:List eJ},kW SZ P z A->z.length=A.length
 |_,_,.nil=>rfl
 |_,_,.cons _ a=>by show _+1=_+1;rw [ud a]
variable{Rs:List eJ}
def FZ{v:J}(N:Well SZ P v (.list Rs)):∃(G:Z) (M:List J),v=.ref G/\P.get? G=Y {cls:=.type "list",data:=.seq M.toArray}/\kW SZ P M Rs:=by
 cases N with
 |list a b=>exists _,_,S,a,b
def F0{v:J}(N:Well SZ P v (.tuple Rs)):∃(G:Z) (M:List J),v=.ref G/\P.get? G=Y {cls:=.type "tuple",data:=.seq M.toArray}/\kW SZ P M Rs:=by
 cases N with
 |tuple a b=>exists _,_,S,a,b
variable{t1:List J}
def F1{G:eJ}(T:kW SZ P t1 (G::Rs)):∃(v:J) (N:List J),t1=v::N/\Well SZ P v G/\kW SZ P N Rs:=by
 cases T with
 |cons a b=>exists _,_,S,a,b
variable{t:Nat}
theorem F2(A:t<=1048576):t<=aU:=cu A (by decide)
mutual
theorem Ra:∀(d:eJ) (v:J),Well SZ P v d->iI d=I->d.weight<=1048576->∃A:List Z,ia A v/\∀a∈A,iJ P A a
 |.none,_,x,_,_=>by
  cases x
  exists [],trivial,λa m=>absurd m (by simp)
 |.bool D,_,x,_,_=>by
  cases x
  exists [],trivial,λa m=>absurd m (by simp)
 |.int i,_,x,_,_=>by
  cases x
  exists [],trivial,λa m=>absurd m (by simp)
 |.str s,_,x,_,_=>by
  cases x
  exists [],trivial,λa m=>absurd m (by simp)
 |.bytes D,_,x,_,_=>by
  cases x
  exists [],trivial,λa m=>absurd m (by simp)
 |.list M,_,x,p,z=>by
  let⟨a,N,rfl,f,U⟩:=FZ x
  have b:=z
  let⟨A,g,j⟩:=ue M _ U p λd hd=>cu (yY hd) b
  have k:∀D∈A,D∈a::A:=λD G=>bC _ G
  exists a::A,bE ..,λD G=>?_
  rcases bg.mp G with T|m
  .rw [T]
   exists N,F2 (ud U▸cu (T6 M) b),λu c=>(g u c).mono k,.inl f
  .exact(j D m).mono k
 |.tuple M,_,x,p,z=>by
  let⟨a,N,rfl,f,U⟩:=F0 x
  have b:=z
  let⟨A,g,j⟩:=ue M _ U p λd hd=>cu (yY hd) b
  have k:∀D∈A,D∈a::A:=λD G=>bC _ G
  exists a::A,bE ..,λD G=>?_
  rcases bg.mp G with T|m
  .rw [T]
   exists N,F2 (ud U▸cu (T6 M) b),λu c=>(g u c).mono k,.inr f
  .exact(j D m).mono k
 |.float _,_,_,p,_=>ih (show ao=I from p)
 |.dict _,_,_,p,_=>ih (show ao=I from p)
 |.bytearray _,_,_,p,_=>ih (show ao=I from p)
 |.set _,_,_,p,_=>ih (show ao=I from p)
 |.frozenset _,_,_,p,_=>ih (show ao=I from p)
 |.obj _ _,_,_,p,_=>ih (show ao=I from p)
theorem ue:∀(M:List eJ) (N:List J),kW SZ P N M->jW M=I->(∀d∈M,d.weight<=1048576)->∃A:List Z,(∀u∈N,ia A u)/\∀a∈A,iJ P A a
 |[],_,x,_,_=>by
  cases x
  exists [],λu m=>absurd m (by simp),λa m=>absurd m (by simp)
 |d::M,_,x,p,z=>by
  let⟨v,N,rfl,x1,x2⟩:=F1 x
  have l:=T7.mp p
  let⟨A,q,r⟩:=Ra d v x1 l.1 (z d (bE ..))
  let⟨e,t,w⟩:=ue M N x2 l.2 λT y=>z T (bC _ y)
  have n:∀D∈A,D∈A++e:=λD G=>bR.mpr (.inl G)
  have o:∀D∈e,D∈A++e:=λD G=>bR.mpr (.inr G)
  exists A++e,λu c=>?_,λD G=>?_
  .rcases bg.mp c with T|m
   .rw [T]
    exact q.mono n
   .exact(t u m).mono o
  .rcases bR.mp G with m|m
   .exact(r D m).mono n
   .exact(w D m).mono o
end
def uf(o:aL):Option HO:=match o.data with
 |.seq a _=>if(o.cls==pN "list")=I then Y (.bP o (.lst (a.toList.map toV)))else Y (.bP o (.tup (a.toList.map toV)))
 |_=>O
def f9(K:af)(A:aD)(D:List Z):U:=λz=>if z∈D then(if(K.lookup z).isNone=I then(A.get? z).bind uf else O)else O
def ru(H:U):Prop:=∀z,H z=O\/∃o u,H z=Y (.bP o u)
def F3(z:List J):uf {cls:=.type "list",data:=.seq z.toArray}=Y (.bP {cls:=.type "list",data:=.seq z.toArray} (.lst (z.map toV))):=by show(if(pN "list"==pN "list")=I then Y (HO.bP {cls:=.type "list",data:=.seq z.toArray} (.lst (z.toArray.toList.map toV)))else Y (HO.bP {cls:=.type "list",data:=.seq z.toArray} (.tup (z.toArray.toList.map toV))))=_;rw [ai (G4 _)]
def F4(z:List J):uf {cls:=.type "tuple",data:=.seq z.toArray}=Y (.bP {cls:=.type "tuple",data:=.seq z.toArray} (.tup (z.map toV))):=by show(if(pN "tuple"==pN "list")=I then Y (HO.bP {cls:=.type "tuple",data:=.seq z.toArray} (.lst (z.toArray.toList.map toV)))else Y (HO.bP {cls:=.type "tuple",data:=.seq z.toArray} (.tup (z.toArray.toList.map toV))))=_;rw [N (by decide)]
def ug{o:aL}(D:d∈wf)(G:K.lookup d=O)(M:P.get? d=Y o):f9 K P wf d=uf o:=by unfold f9;rw [ai D,G,ai (show(O:Option aL).isNone=I from rfl),M]<;>rfl
def Rb{u:HO}(z:f9 K P wf d=Y u):d∈wf/\K.lookup d=O:=by
 unfold f9 at z;by_cases G:d∈wf
 .rw [ai G]at z;cases a:K.lookup d with
  |none=>exists G,S
  |some o=>
   rw [a,N (by simp)]at z;cases z
 .rw [N G]at z;cases z
def uh(T:∀U∈wf,iJ P wf U){u:HO}(G:f9 K P wf d=Y u):K.lookup d=O/\∃z:List J,z.length<=aU/\(∀u∈z,ia wf u)/\ ((P.get? d=Y {cls:=.type "list",data:=.seq z.toArray}/\u=.bP {cls:=.type "list",data:=.seq z.toArray} (.lst (z.map toV)))\/(P.get? d=Y {cls:=.type "tuple",data:=.seq z.toArray}/\u=.bP {cls:=.type "tuple",data:=.seq z.toArray} (.tup (z.map toV)))):=by
 let⟨N,S⟩:=Rb G;let⟨z,a,b,c⟩:=T d N;exists S,z,a,b,?_;rcases c with M|M
 .rw [ug N S M,F3]at G;exact .inl ⟨M,(aS G).symm⟩
 .rw [ug N S M,F4]at G;exact .inr ⟨M,(aS G).symm⟩
theorem Rc(D:∀G∈wf,iJ P wf G):ru (f9 K P wf):=λM=>by
 cases a:f9 K P wf M with
 |none=>exact .inl S
 |some u=>
  obtain⟨_,N,_,_,⟨_,z⟩|⟨_,z⟩⟩:=uh D a
  .exact .inr ⟨_,_,by rw [z]⟩
  .exact .inr ⟨_,_,by rw [z]⟩
theorem Rf(N:∀T∈wf,iJ P wf T):dv m p (f9 K P wf) P:=λa u U=>by
 obtain⟨_,G,b,M,⟨D,rfl⟩|⟨D,rfl⟩⟩:=uh N U
 .exact⟨D,by rwa [z],G,_,pK M,D⟩
 .exact⟨D,by rwa [z],G,pK M,_,D,S,_,S⟩
variable{wp:J}{We:List J}
def ui{c:J}(N:(Y {cls:=c,data:=.seq t1.toArray}:Option aL)=Y {cls:=wp,data:=.seq We.toArray}):c=wp/\t1=We:=by
 have M:=aS N;have S:=bD Obj.cls M
 have T:=bD Obj.data M;injection T with a;exists S,?_;simpa using(bD Gd a)
def Rg(c:K.In P)(z:∀d∈wf,iJ P wf d)(N:d∈wf)(M:P.get? d=Y {cls:=.type "list",data:=.seq t1.toArray}):(∀u∈t1,ia wf u)/\av K (f9 K P wf) d (t1.map toV):=by
 let⟨T,e,U,f⟩:=z d N;have g:T=t1:=by
  rcases f with D|D
  .rw [M]at D;exact(ui D).2.symm
  .rw [M]at D;exact absurd (T8 (ui D).1) (by decide)
 subst g;exists U,?_;cases a:K.lookup d with
 |none=>exact .inl (.inr ⟨_,by rw [ug N a M,F3]⟩)
 |some o=>
  have b:=c d o a;rw [M]at b;obtain rfl:=aS b;exact .inr ⟨_,T.toArray,_,a,S,S,S,eZ▸e,by simpa using pK U⟩
def Rh(c:K.In P)(z:∀d∈wf,iJ P wf d)(N:d∈wf)(M:P.get? d=Y {cls:=.type "tuple",data:=.seq t1.toArray}):(∀u∈t1,ia wf u)/\ax K (f9 K P wf) d (t1.map toV):=by
 let⟨T,e,U,f⟩:=z d N;have g:T=t1:=by
  rcases f with D|D
  .rw [M]at D;exact absurd (T8 (ui D).1) (by decide)
  .rw [M]at D;exact(ui D).2.symm
 subst g;exists U,?_;cases a:K.lookup d with
 |none=>exact .inl (.inr ⟨_,by rw [ug N a M,F4]⟩)
 |some o=>
  have b:=c d o a;rw [M]at b;obtain rfl:=aS b;exact .inr ⟨_,T.toArray,_,a,S,S,eZ▸e,by simpa using pK U⟩
mutual
theorem Ri{g:j7}(c:K.In P)(e:∀a∈wf,iJ P wf a):∀(d:eJ) (v:J),Well g P v d->iI d=I->ia wf v->Dw K (f9 K P wf) (toV v) d
 |.none,_,x,_,_=>by
  cases x
  exact .bw
 |.bool b,_,x,_,_=>by
  cases x
  exact .bl b
 |.int i,_,x,_,_=>by
  cases x
  exact .int i
 |.str s,_,x,_,_=>by
  cases x
  exact .str s
 |.bytes b,_,x,_,_=>by
  cases x
  have j:=Dw.fP (K:=K) (H:=f9 K P wf) b.toArray
  exact j
 |.list z,_,x,p,f=>by
  let⟨a,D,rfl,G,M⟩:=FZ x
  let⟨N,T⟩:=Rg c e f G
  exact .lst T (uj c e z _ M p N)
 |.tuple z,_,x,p,f=>by
  let⟨a,D,rfl,G,M⟩:=F0 x
  let⟨N,T⟩:=Rh c e f G
  exact .tup T (uj c e z _ M p N)
 |.float _,_,_,p,_=>ih (show ao=I from p)
 |.dict _,_,_,p,_=>ih (show ao=I from p)
 |.bytearray _,_,_,p,_=>ih (show ao=I from p)
 |.set _,_,_,p,_=>ih (show ao=I from p)
 |.frozenset _,_,_,p,_=>ih (show ao=I from p)
 |.obj _ _,_,_,p,_=>ih (show ao=I from p)
theorem uj{g:j7}(c:K.In P)(e:∀a∈wf,iJ P wf a):∀(z:List eJ) (D:List J),kW g P D z->jW z=I->(∀u∈D,ia wf u)->iH K (f9 K P wf) (D.map toV) z
 |[],_,x,_,_=>by
  cases x
  exact .nil
 |d::z,_,x,p,f=>by
  let⟨v,D,rfl,x1,x2⟩:=F1 x
  have U:=T7.mp p
  exact .cons (Ri c e d v x1 U.1 (f _ (bE ..))) (uj c e z D x2 U.2 λu m=>f u (bC _ m))
end
variable{B:ak}{L WF:aa->Option J}{tz:List aa}{Fk:gj}{pc:bc}{AT:Sp}
def Rj{K:af}{R:T4}{cl:aa->Option Z}{d0:eJ}(q:K.In B.heap) (ab:B.heap.Ns fo L) (r:B.heap.Ns F8 WF) (bi:∀N:aa,N≠"__name__"->WF N=uo N) (bk:B.heap.NoLimit) (bl:B.gens= #[])(s:kW p.params B.heap t1 Rs) (ad:jW Rs=I) (bm:∀a∈Rs,a.weight<=1048576) (bn:dj t p6)(bs:∀e:aD,K.In e->e.Ns fo L->aV m p K L e Fk t d pc tz AT) (bt:∀(bv:ak) (w:List J),w.length=tz.length->rA bv pc ⟨w,[]⟩ (tz.zip w)) (ca:Rs.length=tz.length)(cd:∀(H:U) (al:List V),ru H->iH K H al Rs->AT al H (λv am=>Dw K am v d0) λ_ _ _=>False)(ce:∀H D G,Fk [] H B (λ_ _ _=>False) D G->False):pV (aM m p) p6 (.call (.ref d) ⟨t1,[]⟩) (λh G=>∃u x,h=.ok (.ret u)/\ReadsW R cl G.heap u d0 x/\OldK B.heap G.heap/\G.os=B.os/\jZ G.gens) B:=by
 let⟨M,an,i⟩:=ue Rs t1 s ad bm;have y:ru (f9 K B.heap M):=Rc i
 have A:dv m p (f9 K B.heap M) B.heap:=Rf i;have ap:=uj q i Rs t1 s ad an
 have as:∀z u,f9 K B.heap M z=Y u->K.lookup z=O:=λz u b=>(uh i b).1;have a0:∀{z:Z} {o:aL} {l:Array g6} {T:Nat},B.heap.get? z=Y o->o.data=.dict l T->f9 K B.heap M z=O:=λ{z o l T} D a=>by
  cases b:f9 K B.heap M z with
  |none=>rfl
  |some u=>
   obtain⟨_,c7,_,_,⟨j,_⟩|⟨j,_⟩⟩:=uh i b
   .rw [j]at D;cases D;have C:=a
    cases C
   .rw [j]at D;cases D;have C:=a
    cases C
 generalize f9 K B.heap M=H at y A ap as a0;have a1:∀{z:Z} {o:aL},B.heap.get? z=Y o->H z=O->(kl B.heap H).get? z=Y o:=λD ch=>HR D ch
 have n:∀{z:Z} {E:aa->Option J},B.heap.Ns z E->(kl B.heap H).Ns z E:=λ{z E} ⟨o,l,T,D,a,h⟩=>⟨o,l,T,a1 D (a0 D a),a,h⟩
 have ci:∀z o,K.lookup z=Y o->H z=O:=λz o D=>by
  cases b:H z with
  |none=>rfl
  |some u=>
   rw [as z u b]at D;cases D
 have a2:K.In (kl B.heap H):=λz o D=>a1 (q z o D) (ci z o D);have cn:Mod K L (kl B.heap H):=⟨a2,n ab,⟨WF,n r,bi⟩,let⟨co,cr,cs⟩:=bk;⟨co,n cr,cs⟩⟩
 have ct:mx m p K L (kl B.heap H) p6 [] B H:=⟨S,cn,λz o D=>HS D,uz (HQ _ _),trivial,λz r=>absurd (show z∈([]:List Z)from r) (by simp),A,.of_eq bl⟩
 have c0:t1.length=tz.length:=by rw [ud s];exact ca
 refine za ((bs _ a2 (n ab)).run p6 [] B H ⟨t1,[]⟩ t1 (t1.map toV) _ _ bn ct (bt B t1 c0) (pK an) (cd H _ y ap)) λh G N=>?_;cases h with
 |error D=>exact(ce H D G N).elim
 |ok fl=>
  cases fl with
  |next=>exact g5 N
  |brk=>exact g5 N
  |cont=>exact g5 N
  |ret u=>
   let⟨v,am,c1,c2,a3,a4,c3,b⟩:=N;have a5:∀z o,B.heap.get? z=Y o->G.heap.get? z=Y o:=λz o D=>by
    cases bd:H z with
    |none=>exact a3.keep z o D bd (by intro c;exact absurd (show z∈([]:List Z)from c) (by simp)) (by simp)
    |some c8=>
     rcases y z with c|⟨c4,c9,c⟩
     .rw [bd]at c;cases c
     .obtain⟨be,_⟩:=A z _ c;let⟨j,_⟩:=a4 z _ (a3.iZ z c4 _ c);rw [D]at be;cases be;exact j
   have c5:K.In G.heap:=λz o D=>a5 z o (q z o D);let⟨x,c6⟩:=Dw.reads (R:=R) (cl:=cl) a4 c5 d0 v u b c3;exists u,x,S,c6,OldK.of_keep a5,c1,c2
theorem Rk(D:WData.layableAll Rs=I):∀z∈Rs,z.weight<=1048576:=λz G=>
 (PySem.W.layableW_iff.mp (js.mp D z G)).2.2
theorem F5:∀(z:List Codec) (A:z2 z),(r0 z A).length=z.length
 |[],_=>rfl
 |c::z,A=>by show(r0 z A.2).length+1=z.length+1;rw [F5 z A.2]
variable{VY:au->aD->Prop}{Sc:List aa}{Wd:(aa->Option J)->aD->Prop}
def Rl{A:OpenSpec}{e:DefRec}{K:j7->af}{CX:au->gj}{sp:au->Sp}(s:A.wellSaid=I) (bl:e.params.defaults=[]) (bm:A.args.length=tz.length) (d:dj t p6)(w:∀(z:au) (G:aD),VY z G->(K z.params).In G)(x:∀(z:au) (M:aa->Option J) (a:Z) (G:aD),VY z G->(K z.params).In G->G.Ns fo M->M e.name=Y (.ref a)->∃f:bc,(∀(g:ak) (h:List J),h.length=tz.length->rA g f ⟨h,[]⟩ (tz.zip h))/\ ∀i:aD,(K z.params).In i->i.Ns fo M->aV A.prog z (K z.params) M i (CX z) t a f tz (sp z))(y:∀(z:au) (H:U) (b:List V) (D:z2 A.args),ru H->T9 A.args D=I->vn A.args A.asked D=I->iH (K z.params) H b (r0 A.args D)->sp z b H (λv B=>Dw (K z.params) B v (A.ret.enc (vn A.args A.f D))) λ_ _ _=>False)(C:∀(z:au) (H:U) (g:ak) (j:J) (c:ak),CX z [] H g (λ_ _ _=>False) j c->False):Ua m Sc Wd VY A e [] (λE F=>gO E F):=by
 intro z L P M bn N l a o bs bt bv ca cd ce ch ci cn Q X args co cr ab ad cs al ct;let⟨D,am,an⟩:=PySem.W.os_pre_some ab;let⟨ap,T⟩:=Codec.encAll_of_decAll A.args args D am;subst ap;have n:=w z _ l
 let⟨f,as,a0⟩:=x z M a _ l n N.T.g Q;refine SD (za (Rj (R:=[]) (cl:=classAt L.heap) (d0:=A.ret.enc (vn A.args A.f D)) n N.T.g N.T.b N.T.builtins N.T.nolimit X al (FY _ _) (Rk ad) d a0 as (by rwa [F5]) (λH b a1 a2=>y z H b D a1 T an a2) λH j c=>C z H P j c) λc0 c a3=>?_);let⟨u,a4,rfl,a5,bd,be,bi⟩:=a3;exists .inl ⟨u,_,a4,S,λ_=>S,a5,(OpenSpec.post_iff s T _ _).mpr S,λbk=>ih (show ao=I from bk)⟩,bd,be,bi
theorem Ug{A:OpenSpec}{b:DefRec}{K:j7->af}{c:gj}{d:af->Sp}(o:A.wellSaid=I) (p:b.params.defaults=[]) (q:A.args.length=tz.length) (r:dj t p6)(s:∀(z:au) (D:aD),VY z D->(K z.params).In D)(N:∀(z:au) (S:aa->Option J) (j:Z) (D:aD),VY z D->(K z.params).In D->D.Ns fo S->S b.name=Y (.ref j)->∃k:bc,(∀(M:ak) (e:List J),e.length=tz.length->rA M k ⟨e,[]⟩ (tz.zip e))/\ ∀f:aD,(K z.params).In f->f.Ns fo S->aV A.prog z (K z.params) S f c t j k tz (d (K z.params)))(u:∀(K:af) (H:U) (T:List V) (G:z2 A.args),ru H->T9 A.args G=I->vn A.args A.asked G=I->iH K H T (r0 A.args G)->d K T H (λv w=>Dw K w v (A.ret.enc (vn A.args A.f G))) λ_ _ _=>False)(x:∀(H:U) (M:ak) (g:J) (h:ak),c [] H M (λ_ _ _=>False) g h->False):Ua m Sc Wd VY A b [] (λy B=>gO y B):=
 Rl (K:=K) (CX:=λ_=>c) (sp:=λz=>d (K z.params)) o p q r s N (λz H T G C E F L=>u (K z.params) H T G C E F L) λ_ H M g h=>x H M g h
end L2
namespace Cf
abbrev FL(K:af)(x q:aa)(st:a8)(f:Z)(oc:J)(od an:Option Z)(pL:Array (Option J))(kV lY pm jq ct:J):Prop:=K.lookup f=Y ⟨oc,od,.func (nH x q (oB st) (jG st) (eg st) .none kV lY pm an jq ct),pL⟩
variable{wp Pv VN VO VP:J}{P3:Option Z}
abbrev BA(x q:aa)(st:a8)(ps:List aa):Prop:=∀(wp Pv VN:J) (P3:Option Z) (VO VP:J) (z:List J),z.length=ps.length->y9 (nH x q (oB st) (jG st) (eg st) .none wp Pv VN P3 VO VP) ⟨z,[]⟩=dA (ps.zip z)
variable{d:Z}
def Rm{p:List J->Prop}(h:∀d,p [d])(z:List J)(A:z.length=1):p z:=by let⟨d,rfl⟩:=TK.mp A;exact h d
def Rn{p:List J->Prop}(h:∀d M,p [d,M])(z:List J)(D:z.length=2):p z:=by
 cases z with
 |nil=>cases D
 |cons d A=>exact Rm (p:=λA=>p (d::A)) (h d) A (Ub D)
def Uh{z:List J->Prop}(h:∀d N c,z [d,N,c])(A:List J)(M:A.length=3):z A:=by
 cases A with
 |nil=>cases M
 |cons d D=>exact Rn (p:=λD=>z (d::D)) (h d) D (Ub M)
variable{nw:aa}{wS:a8}{P:aD}{L:aa->Option J}{tz:List aa}{V0:J}{VX:Option Z}{V3:Array (Option J)}{K:af}
theorem GF.mk(D:K.In P)(M:P.Ns fo L)(N:ml K fo nw=Y (Y (.ref d)))(z:FL K nw nw wS d Pv P3 VX V3 VN VO VP wp V0)(c:rC K wp nw=I)(A:kT K (.ref d)=I)(S:BA nw nw wS tz):GF K L nw wS tz:=⟨d,_,oC z c A,(oC z c A).binds S,mm D M N⟩
variable{FS:aa}{q:Z}
theorem MF.mk(D:j1 K (.ref q) nw=Y (Y (.ref d)))(M:uy K (.ref d)=I)(A:FL K nw FS wS d Pv P3 VX V3 VN VO VP wp V0)(c:rC K wp FS=I)(z:kT K (.ref d)=I)(N:BA nw FS wS tz):MF K q nw FS wS tz:=⟨d,_,oC A c z,(oC A c z).binds N,⟨D,M,z⟩⟩
theorem NF.mk(D:K.In P)(M:P.Ns fo L)(N:ml K fo FS=Y (Y (.ref d)))(mk:Gj K d=I)(S:kT K (.ref d)=I)(T:j1 K (.ref d) "__init__"=Y (Y (.ref q)))(U:uy K (.ref q)=I)(z:FL K "__init__" nw wS q Pv P3 VX V3 VN VO VP wp V0)(c:rC K wp nw=I)(A:kT K (.ref q)=I)(b:BA "__init__" nw wS tz):NF K L FS d nw wS tz:=
 ⟨q,_,oC z c A,(oC z c A).binds b,⟨mk,T,U,S⟩,mm D M N⟩
variable{wT:dD}{v0:Int}
theorem int_mk(D:K.In P)(M:P.Ns fo L)(N:ml K fo nw=Y (Y (.int v0 wT))):∃wT,L nw=Y (.int v0 wT):=⟨wT,mm D M N⟩
theorem str_mk(D:K.In P)(M:P.Ns fo L)(N:ml K fo FS=Y (Y (.str nw wT))):∃wT,L FS=Y (.str nw wT):=⟨wT,mm D M N⟩
def xn(a1 a2 a3 a4 a5:Z):Nat->Z
 |1=>a1|2=>a2|3=>a3|4=>a4|_=>a5
abbrev rv(K:af)(a:Z):Prop:=gP K a fV "Exception.__new__"=I/\mroIn K a=I
variable{Q pp s3:Z}
def Ui(A:K.In P)(D:P.Ns fo L)(N:ml K fo "NoProgram"=Y (Y (.ref d)))(T:ml K fo "NoRung"=Y (Y (.ref q)))(U:ml K fo "NoNode"=Y (Y (.ref Q)))(b:ml K fo "NothingKept"=Y (Y (.ref pp)))(c:ml K fo "NoCall"=Y (Y (.ref s3)))(l:rv K d) (n:rv K q) (o:rv K Q) (p:rv K pp) (r:rv K s3) (G:[d,q,Q,pp,s3].Nodup) (e:∃z,L "NO_PROGRAM"=Y (.int (-1) z)) (g:∃z,L "NO_RUNG"=Y (.int (-2) z)) (i:∃z,L "NO_NODE"=Y (.int (-3) z)) (j:∃z,L "NOTHING_KEPT"=Y (.int (-4) z)) (k:∃z,L "NO_CALL"=Y (.int (-5) z)):yX K L (xn d q Q pp s3):=by exists mm A D N,mm A D T,mm A D U,mm A D b,mm A D c,λs M=>?_,G,e,g,i,j,k;simp only [bg,gR,g8]at M;rcases M with rfl|rfl|rfl|rfl|rfl<;>assumption
variable{t1:List J}{t:Nat}{ul:List V}
theorem Uj(M:K.lookup d=Y {cls:=.type "tuple",data:=.seq t1.toArray t})(N:t1.length<=9)(v:Vals ul t1):∀H,ax K H d ul:=λH=>.inr ⟨_,t1.toArray,t,M,S,S,by rw [eZ];exact cu N (by decide),v⟩
def Ro(w:au)(z:aa×Int×dD×dD):g6:=⟨PyData.keyHash w.params z.1,.str z.1 z.2.2.1,.int z.2.1 z.2.2.2⟩
variable{p:au}{m:aw}
def Uk(A:List (aa×Int×dD×dD))(D:K.lookup d=Y {cls:=.type "dict",data:=.dict (A.map (Ro p)).toArray t})(U:(d==eo)=ao)(M:(A.map (·.1)).Nodup):KD K m p d (A.map λz=>(.inr z.1,.int z.2.1)):=by
 exists λP c=>⟨A.map λz=>(.inr z.1,.int z.2.1 z.2.2.2),?_,_,_,t,c _ _ D,⟨S,S,S⟩,S,λz T=>?_,?_,?_⟩,U
 .clear D M;induction A with
  |nil=>exact .nil
  |cons z a b=>exact .cons ⟨S,_,S⟩ b
 .rw [List.mem_toArray]at T;let⟨y,_,rfl⟩:=bH.mp T;exists .inr y.1,jF ⟨_,S⟩,S
 .clear D M;rw [GS];induction A with
  |nil=>exact .nil
  |cons z a b=>exact .cons (jF (k:=.inr z.1) ⟨_,S⟩) S b
 .rw [d6];have:(A.map ((λnw:Key×J=>nw.1)∘λz=>((.inr z.1:Key),pM z.2.1 z.2.2.2)))=(A.map (·.1)).map kO:=by rw [d6];rfl
  rw [this];exact iD (λ_ _ e=>by injection e) M
def fin(T:L "answers"=Y (.ref q))(U:∃d A,L "answers"=Y (.ref d)/\a9 K "answers" "answers" ub d A/\∀z:aD,aV m p K L z aE 15 d A ["calls"] (uc K)):∃A:bc,(∀(M:ak) (D:List J),D.length=(["calls"]:List aa).length->rA M A ⟨D,[]⟩ ((["calls"]:List aa).zip D))/\∀z:aD,K.In z->z.Ns fo L->aV m p K L z aE 15 q A ["calls"] (uc K):=by let⟨d,A,N,b,c⟩:=U;rw [T]at N;cases N;let⟨wp,P3,Pv,VN,VO,VX,VP,V0,V3,rfl,_⟩:=b.ex;exists _,λM D G=>match D,G with|[_],_=>.of_eq rfl,λz _ _=>c z
end Cf
local macro_rules | `(tactic| trivial) => `(tactic| first | k_is | with_unfolding_all rfl)
open PySem PySem.W PyProof.Rows
namespace PySem.Challenge.cw_coarserflows_s01_answers_holds
def tw12101391358767663327:=0
def tw12737396266598472349:=0
def tw11112327660137075022:=0
def tw14927156787278707558:=0
def tw2658896323594249039:=0
def tw5547120352873130756:=0
def tw11566301386547306383:=0
def tw8294510622803074495:=0
def tw5074644416987687524:=0
def tw8739463106841934285:=0
def tw4594186405097544796:=0
def tw10254891649087495383:=0
def tw9435298080450728484:=0
def tw9412776648312513112:=0
def tw1748173886319641071:=0
def tw14040429031651210891:=0
def tw2414962705422728697:=0
def tw5232368964965894103:=0
def tw14646812317466565058:=0
def tw14445820326624028916:=0
def tw14730557543562894394:=0
def tw9051814535726094777:=0
def tw7968267498791342833:=0
def tw9220193627665138041:=0
def tw2848419131298023069:=0
def tw16476135183210213692:=0
def tw13967208720869816296:=0
def tw9698231069882531072:=0
def tw4455721937986399090:=0
def tw3529119778128531862:=0
def tw3786359820312850366:=0
def tw2219842879604708679:=0
def tw14866929684954292662:=0
def tw18120265225914262423:=0
def tw12122044158957666649:=0
def tw5663154319517524377:=0
def tw4740675122308848143:=0
def tw14996008268832297628:=0
def tw18390867102831555826:=0
def tw1501130961501064098:=0
def tw11903279866967525754:=0
def tw9487124689567857614:=0
def tw14973687123979314142:=0
def tw2306083069944038011:=0
def tw8890962156038870286:=0
def tw316290359281240669:=0
def tw7999718848345585430:=0
def tw15603359122171039996:=0
def tw9189844238296704647:=0
def tw11788759671984827049:=0
def tw4217152813298362027:=0
def tw18002295098070734902:=0
def tw9922717143147286705:=0
def tw8347992477756247099:=0
def tw13107888051278637051:=0
def tw6049318451049981956:=0
def tw6977677088293220060:=0
def tw9199837722177363555:=0
def tw12890699524954394561:=0
def tw13369777348120105565:=0
def tw8383455946608774638:=0
def tw11355353166480583749:=0
def tw4619525728835216694:=0
def tw8585757215944400891:=0
def tw6822942069974123003:=0
def tw8360878044210964581:=0
def tw2907150820967430409:=0
def tw12650860728723298550:=0
def tw16310398933150035712:=0
def tw14717496516881681241:=0
def tw6980072834008547535:=0
def tw12259027869514443327:=0
def tw14847199969804211753:=0
def tw6134609711900866747:=0
def tw10415054916857398090:=0
def tw26306050096775271:=0
def tw17847123386183170874:=0
def tw6657591290507601742:=0
def tw13474311634178445977:=0
def tw1508684018092801597:=0
def tw9413326740705916022:=0
def tw589187667204186085:=0
def tw13539636224232939487:=0
def tw10716751163750072359:=0
def tw2122478978781843548:=0
def tw7323414764674295768:=0
def tw3004820618787374778:=0
def tw17944486888343596246:=0
def tw6571885205498656264:=0
def tw3771216405953391773:=0
def tw13769046226664405992:=0
def tw7111292690187519229:=0
def tw2148249819936821566:=0
def tw5150650775296833520:=0
def tw7689955908990804835:=0
def tw5876006808419401499:=0
def tw11811388627988510029:=0
def tw9536629701789054296:=0
def tw3683045992836141983:=0
def tw11264491013067820179:=0
def tw5097116757635233204:=0
def tw17531140434420332270:=0
def tw3624018047442445209:=0
def tw15479803582485784812:=0
def tw16554027796165597548:=0
def tw7884462566632389021:=0
def tw17332604248203046377:=0
def tw395572215344795475:=0
def tw394018564273757814:=0
def tw12144864446653987344:=0
def tw8250707684259988221:=0
def tw6422512983422992289:=0
def tw6622814894525153209:=0
def tw13735060671472291024:=0
def tw8060165752247542532:=0
def tw9417609920208504454:=0
def tw18218196563795612160:=0
def tw845573294070066399:=0
def tw8191001574265384755:=0
def tw14458166663828790236:=0
def tw10324571100570966316:=0
def tw2306086077640445461:=0
def tw14111300341286175792:=0
def tw2911358361270983191:=0
def tw11221855833705891772:=0
def tw7151804677846883950:=0
def tw10862402388156561:=0
def tw16083037080994306282:=0
def tw9886013513596559539:=0
def tw8193602553398754939:=0
def tw9332308718404990931:=0
def tw5479479762707223930:=0
def tw754574268566928786:=0
def tw2943619841810385649:=0
def tw15238953500396341883:=0
def tw12249950148078403796:=0
def tw14311221335945211443:=0
def tw9247610674455949843:=0
def tw1571473958034960308:=0
def tw16781695080672607543:=0
def tw13510411467965073052:=0
def tw18397258899753027804:=0
def tw9438860400289732727:=0
def tw4469204266230897255:=0
def tw8112883958731107286:=0
def tw1356748201195180181:=0
def tw4369807142145399628:=0
def tw14668425274553900850:=0
def tw6811468821598025969:=0
def tw144661796304923854:=0
def tw12755285061121147552:=0
def tw3709697942884772852:=0
def tw10501444223616897230:=0
def tw10093772302189406215:=0
def tw7579899717521276041:=0
def tw15911675756856155228:=0
def tw12924650155560118711:=0
def tw17854944794900850530:=0
def tw1119764212924647874:=0
def tw11363922399526052509:=0
def tw17598174032235175635:=0
def tw7191345210742806354:=0
def tw341170093482864526:=0
def tw3730214148075126621:=0
def tw15134502595243613256:=0
def tw1571437787571093069:=0
def tw13126063691764930440:=0
def tw12420196012770682360:=0
def tw16756930497613101238:=0
def tw2416763168352795261:=0
def tw7758929877630167159:=0
def tw13612672681472318739:=0
def tw15447471273343099190:=0
def tw12032326386470194193:=0
def tw8706006485967135429:=0
def tw11397035910584845232:=0
def tw6395203778657110775:=0
def tw15623135533921267200:=0
def tw5908115933364005777:=0
def tw18129577551537950411:=0
def tw17105697082361299519:=0
def tw1341382050576421773:=0
def tw7767308441490427256:=0
def tw16582171684905348612:=0
def tw17423248091101618831:=0
def tw3670335892103588105:=0
def tw11528594264738407179:=0
def tw2276054492778745885:=0
def tw7161383450133802607:=0
def tw8349161397462114527:=0
def tw15016596946756686631:=0
def tw1759581935103702047:=0
def tw16383634221058513139:=0
def tw15293026920288839509:=0
def tw14117944210659835347:=0
def tw4421073412566964490:=0
def tw18382074492709844203:=0
def tw15296500940115804130:=0
def tw17473331869998897835:=0
def tw3553705004628862646:=0
def tw3332480901971561064:=0
def tw10246289253914600604:=0
def tw12845599808532693530:=0
def tw1834813000139427223:=0
def tw11167585368169889638:=0
def tw16663779736571308215:=0
def tw15237583610639489011:=0
def tw12148161263795643503:=0
def tw7191046245706469232:=0
def tw9858826653079622633:=0
def tw11671901576589230849:=0
def tw1923997254482311220:=0
def tw196706073275892620:=0
def tw199539069003691633:=0
def tw6409881140386129399:=0
def tw13332299108189894440:=0
def tw7244149371335600513:=0
def tw1146191615586393739:=0
def tw18173382724431561794:=0
def tw6136658742402846244:=0
def tw12214213635955746435:=0
def tw15844107730375004018:=0
def tw343616654854983339:=0
def tw2117081682434390778:=0
def tw1575054811628807539:=0
def tw1162623779085053779:=0
def tw14673943015027866239:=0
def tw14657739889059190487:=0
def tw15997303175870206257:=0
def tw12672928216837646735:=0
def tw18163045518089425596:=0
def tw11473832857754733000:=0
def tw283005521543848411:=0
def tw2443229753453197268:=0
def tw13127772623054254057:=0
def tw3134363297405165718:=0
def tw15389283433195257006:=0
def tw4219852850721131736:=0
def tw7322546660633320971:=0
def tw8581856008537061636:=0
def tw15719019690908845626:=0
def tw4788485471156308824:=0
def tw1019413309758515452:=0
def tw11405927446683892417:=0
def tw17285031755484697748:=0
def tw9635864443757559246:=0
def tw7065960314601607997:=0
def tw15518205582067801305:=0
def tw17050294867827492310:=0
def tw2850854071624873855:=0
def tw4299402200957228316:=0
def tw13591981172636438579:=0
def tw14331971950792396359:=0
def tw12472509700221960102:=0
def tw17055463164214666065:=0
def tw4149075182537546779:=0
def tw16958364003633935169:=0
def tw6156073766072716958:=0
def tw15506255512714099055:=0
def tw12056313250987637265:=0
def tw8510444076152895584:=0
def tw13263719798002313813:=0
def tw5630480269633150964:=0
def tw4938771727742295285:=0
def tw16443393959853209092:=0
def tw14971432544927377277:=0
def tw5174604020571252956:=0
def tw18384084100803464044:=0
def tw14768861193224644414:=0
def tw14527122706600224361:=0
def tw8762022234383157663:=0
def tw7666197353608322491:=0
def tw4729890297487449010:=0
def tw12155082461687950435:=0
def tw18311207239987457970:=0
def tw7116256981681003369:=0
def tw13782576195674938286:=0
def tw16531302207935038875:=0
def tw2415634321976125759:=0
def tw9349997616839110769:=0
def tw6453104779789677792:=0
def tw15283169909492998609:=0
def tw18174146226593112425:=0
def tw1611387337374067354:=0
def tw16098192317058289352:=0
end PySem.Challenge.cw_coarserflows_s01_answers_holds
set_option maxRecDepth 100000 in
set_option maxHeartbeats 0 in
theorem PySem.Challenge.cw_coarserflows_s01_answers_holds : PySem.Challenge.rw_coarserflows_s01_answers.Holds := by
  w_on;k_headS;(case hw=>exact ⟨[.list [.int 1]],by decide +kernel,by decide +kernel⟩)
  k_fillS
  refine L2.Ug (A:=PySem.Challenge.rw_coarserflows_s01_answers) (t:=15) (c:=L2.aE) (tz:=["calls"]) (d:=Cf.uc) (by decide +kernel) rfl rfl ⟨rfl,by decide,by decide⟩ (fun w h Y=>PySem.W.kIn_of Y) ?F ?S (λ_ _ _ _ z=>z)
  case F =>
    intro w mg fa h Y KX G hmg
    refine Cf.fin hmg ?_
    refine' Cf.join ?E ?Z ?G ?Gk ?rd ?pc ?ak ?rw ?ld ?nb ?gP ?kP ?gB ?kB ?gN ?kN ?gM ?kM ?gR ?kR ?c2 ?c4 ?c30 ?c8 ?ck ?e0 ?e1 ?e2 ?s1 ?s2 ?s3 ?s4 ?f0 ?f1 ?f2 ?f3 ?f4 ?f5 ?f6 ?f7 ?f8 ?f9 ?f10 ?f11 ?f12 ?f13 ?f14 ?f15 ?f16 ?f17 ?f18 ?f19 ?f20 ?f21 ?f22 ?f23 ?f24 ?f25 ?f26 ?f27 ?f28 ?f29 ?f30 ?f31 ?f32 ?f33 ?f34 ?f35 ?f36 ?f37 ?f38 ?f39 ?f40 ?f41 ?f42 ?f43 ?m0 ?m1 ?m2 ?m3 ?m4 ?m5 ?m6 ?m7 ?m8 ?m9 ?m10 ?m11 ?m12 ?m13 ?m14 ?m15 ?m16 ?m17 ?m18 ?m19 ?m20 ?m21 ?m22 ?m23 ?m24 ?m25 ?m26 ?m27 ?m28 ?m29 ?m30 ?n0 ?n1 ?n2 ?n3 ?n4 ?n5
    any_goals (refine' Cf.NF.mk KX G ?n ?m ?d ?e ?i ?l ?c ?k ?b;(case n|m=>trivial);(case d|e|i=>trivial);(case l=>with_unfolding_all rfl);(case c|k=>trivial);(case b=>first|(exact λ_ _ _ _ _ _=>Cf.Rm λ_=>rfl)|(exact λ_ _ _ _ _ _=>Cf.Rn λ_ _=>rfl)|exact λ_ _ _ _ _ _=>Cf.Uh λ_ _ _=>rfl))
    any_goals (refine' Cf.MF.mk ?e ?i ?l ?c ?k ?b;(case e|i=>trivial);(case l=>with_unfolding_all rfl);(case c|k=>trivial);(case b=>first|(exact λ_ _ _ _ _ _=>Cf.Rm λ_=>rfl)|(exact λ_ _ _ _ _ _=>Cf.Rn λ_ _=>rfl)|exact λ_ _ _ _ _ _=>Cf.Uh λ_ _ _=>rfl))
    any_goals (refine' Cf.GF.mk KX G ?e ?l ?c ?k ?b;(case e=>trivial);(case l=>with_unfolding_all rfl);(case c|k=>trivial);(case b=>first|(exact λ_ _ _ _ _ _=>Cf.Rm λ_=>rfl)|(exact λ_ _ _ _ _ _=>Cf.Rn λ_ _=>rfl)|exact λ_ _ _ _ _ _=>Cf.Uh λ_ _ _=>rfl))
    (case E=>refine' Cf.Ui KX G ?a1 ?a2 ?a3 ?a4 ?a5 ?b1 ?b2 ?b3 ?b4 ?b5 ?c ?d1 ?d2 ?d3 ?d4 ?d5;(case a1|a2=>trivial);(case a3|a4|a5=>trivial);(case c=>decide);(any_goals exact Cf.int_mk KX G (by trivial));all_goals exact ⟨by with_unfolding_all rfl,by with_unfolding_all rfl⟩)
    any_goals exact PySem.W.mg_of KX G (by trivial)
    (case kP=>exact Cf.Uk [("fun",1,_,_),("let",2,_,_),("if",3,_,_),("pair",2,_,_),("fst",1,_,_),("snd",1,_,_),("new",1,_,_),("get",1,_,_),("set",2,_,_),("add",2,_,_),("a call",2,_,_)] (by trivial) rfl (by decide))
    (case kM=>exact Cf.Uk [("fun",1,_,_),("pair",2,_,_),("new",3,_,_)] (by trivial) rfl (by decide))
    (case kB=>exact Cf.Uj (t1:=[.str _ _,.str _ _]) (by trivial) (by decide) (.cons ⟨_,rfl⟩ (.cons ⟨_,rfl⟩ .nil)))
    (case kN=>exact Cf.Uj (t1:=[.int _ _,.int _ _]) (by trivial) (by decide) (.cons ⟨_,rfl⟩ (.cons ⟨_,rfl⟩ .nil)))
    (case kR=>exact Cf.Uj (t1:=[.int _ _,.int _ _,.int _ _,.int _ _]) (by trivial) (by decide) (.cons ⟨_,rfl⟩ (.cons ⟨_,rfl⟩ (.cons ⟨_,rfl⟩ (.cons ⟨_,rfl⟩ .nil)))))
    all_goals repeat' (first|exact Cf.int_mk KX G (by trivial)|exact Cf.str_mk KX G (by trivial)|exact PySem.W.mg_none_of KX G (by trivial)|(unfold L2.dF;trivial)|trivial|constructor)
  case S =>
    intro K H xs a hO hwi hask hx
    cases hx with
   |cons h1 h2 =>
      cases h2
      cases h1 with
     |lst hs ha =>
        have e:=L2.Q6 a.1 _ ha
        subst e
        have q : ((Codec.inLen 0 17000 a.1 && a.1.all (Codec.inInt (-1000000000000000000) 1000000000000000000)) && true) = true:=hwi
        rw [Bool.and_eq_true,Bool.and_eq_true] at q
        exact ⟨_,a.1,rfl,hs,(Codec.inNat_iff.mp q.1.1).2,hask,fun H' p hp=>.lst (L2.av.of hp) (L2.Q5 _)⟩
