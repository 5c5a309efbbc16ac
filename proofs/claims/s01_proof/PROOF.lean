import PyProof.Rows.All
import Wide.All
import OpenK.AllK
import Wide.FinOn
import PyProof.EqAt
import PyProof.EqKinds
import PyProof.TupleCall
import KE.BitLaws
import KE.KDictList
import Open.SpecLaws
import KE.OsHead
import KE.OsGo
import PySem.Challenge.RW_coarserflows_s01_answers
set_option hygiene false
section
open Lean Parser
def mP:Nat->Syntax->Option Syntax
 |0,_=>none
 |n+1,s=>let N:=`Lean.Parser.Tactic
  if s.isIdent then some (mkNode (N++`rcasesPat.one) #[s])
  else if s.isOfKind ``Term.hole then some (mkNode (N++`rcasesPat.ignore) #[mkAtom "_"])
  else if s.isOfKind ``Term.anonymousCtor then do
   let x<-s[1].getSepArgs.mapM (mP n)
   some (mkNode (N++`rcasesPat.tuple) #[mkAtom "⟨",mkNullNode (mkSepArray (x.map λx=>mkNode (N++`rcasesPatLo) #[mkNode (N++`rcasesPatMed) #[mkNullNode #[x]],mkNullNode]) (mkAtom ",")),mkAtom "⟩"])
  else none
def mN(s:Syntax):Nat:=Id.run do
 let mut n:=0
 for x in s.topDown do if x.isOfKind ``Term.syntheticHole then n:=n+1
 return n
def mF(k:Nat):Nat->Syntax->Option (Syntax×Syntax×Syntax×Syntax)
 |0,_=>none
 |n+1,s=>
  if s.isOfKind ``Term.byTactic then none
  else if s.isOfKind ``Term.fun&&s[1].isOfKind ``Term.basicFun&&mN s==k&&s[1][0].getArgs.any (·.isOfKind ``Term.anonymousCtor) then do
   let c:=s[1][0].getArgs
   let i<-c.findIdx? (·.isOfKind ``Term.anonymousCtor)
   let p<-mP 9 c[i]!
   some (s,p,if i+1==c.size then s[1][3] else s.setArg 1 (s[1].setArg 0 (mkNullNode (c.extract (i+1) c.size))),s.setArg 1 ((s[1].setArg 0 (mkNullNode ((c.extract 0 i).push (mkIdent `hG_)))).setArg 3 (mkNode ``Term.syntheticHole #[mkAtom "?",mkAtom "_"])))
  else s.getArgs.findSome? (mF k n)
def mM(q:Syntax):TSyntax `Lean.Parser.Tactic.rcasesPatMed:=⟨mkNode `Lean.Parser.Tactic.rcasesPatMed #[mkNullNode #[q]]⟩
def mR(w:Bool)(t:Term):MacroM (TSyntax `tactic):=do
 let some (s,p,b,f):=mF (mN t) 99 t|Macro.throwUnsupported
 let t:Term:=⟨<-t.raw.replaceM λx=>pure (if x.isOfKind ``Term.fun&&x.getPos? ==s.getPos? then some f else none)⟩
 let p:=mM p
 let b:Term:=⟨b⟩
 if b.raw.isOfKind ``Term.syntheticHole then `(tactic|(refine $t;obtain $p :=hG_))
 else if w then `(tactic|(refine $t;obtain $p :=hG_;exact $b))
 else `(tactic|(refine $t;obtain $p :=hG_;refine $b))
def mL(p e:Term):MacroM (TSyntax `tactic):=do
 if p.raw.isIdent then Macro.throwUnsupported
 let some q:=mP 9 p|Macro.throwUnsupported
 let p:=mM q
 `(tactic|obtain $p :=$e)
def mC:Nat->Syntax->Nat
 |0,_=>0
 |n+1,s=>
  if s.isOfKind ``Term.paren then mC n s[1]
  else if s.isOfKind ``Term.app&&s[0].getId==`ar then 1+mC n s[1].getArgs.back!
  else 0
def mT(a b:Term):MacroM (TSyntax `tactic):=do
 let v(i:Nat):=mkIdent (.mkSimple s!"T_{i}")
 let n:=mC 99 b
 let x:=v 0
 let mut t:Term<-`((?_ : L2.Ig _ $x _ _ _))
 for i in [0:n] do
  let x:=v i
  let y:=v (i+1)
  t<-`(let $x : L2.TS:=L2.Ig _ $y;$t)
 let x:=v n
 t<-`(let $x : L2.TS:=_;$t)
 `(tactic|(refine⟨_,(L2.ar $a $b), ?_⟩;(try dsimp only [L2.xK,L2.xP,L2.xW]);refine $t))
def mG(s:Syntax):MacroM Syntax:=do
 if s[1][0].getNumArgs !=0 then Macro.throwUnsupported
 let N:=`Lean.Parser.Tactic
 return s.setArg 1 (mkNode (N++`optConfig) #[mkNullNode #[mkNode (N++`configItem) #[mkNode (N++`negConfigItem) #[mkAtom "-",mkIdent `abstractProof]]]])
end
local macro_rules(kind:=Lean.Parser.Tactic.lia)|s=>mG s
local macro_rules(kind:=Lean.Parser.Tactic.grind)|s=>mG s
local macro_rules
 |`(tactic|obtain⟨$a,$b,$c,$ps,*⟩:=$e)=>`(tactic|(refine Classical.byContradiction λnG_=> ?_;rcases $e:term with⟨$a,$b,$c,$ps,*⟩<;>(refine nG_ ?_;clear nG_)))
 |`(tactic|rintro $ps*)=>do
  match ps.back! with
  |`(rintroPat|⟨$a,$b,$c,$qs,*⟩)=>`(tactic|(rintro $(ps.pop)* hG_;obtain⟨$a,$b,$c,$qs,*⟩:=hG_))
  |_=>Lean.Macro.throwUnsupported
 |`(tactic|refine⟨_,ar $a $b, ?_⟩)=>mT a b
 |`(tactic|refine $t)=>mR false t
 |`(tactic|exact $t)=>mR true t
 |`(tactic|let $p:term :=$e)=>mL p e
 |`(tactic|rw [$rs,*]at $k:ident)=>`(tactic|(refine (?_ : _->_) $k;(try clear $k);intro $k:ident;rewrite [$rs,*]at $k:ident;(try (with_reducible rfl))))
 |`(tactic|cases $h:term)=>`(tactic|first|(injection $h;done)|(injection $h with hG_;injection hG_;done))
local macro_rules(kind:=Lean.Parser.Command.declaration)
 |s=>do
  let d:=s[1]
  if d[0].getPos?.isNone then Lean.Macro.throwUnsupported
  let a:=d[0].getAtomVal
  let e:=s.setArg 1 (d.setArg 0 (Lean.mkAtom a))
  if a=="theorem" then return e
  if a !="def"&&a !="abbrev" then return s.rewriteBottomUp (·.setInfo .none)
  if d[1][0].getId==`tw then return Lean.mkNullNode ((Array.range 893).map λi=>s.setArg 1 (d.setArg 1 (d[1].setArg 0 (Lean.mkIdent (.mkSimple s!"tw{(.str `PySem.Challenge.cw_coarserflows_s01_answers_holds s!"o_1_{i}":Lean.Name).hash}")))))
  if d[3][1].isOfKind `Lean.Parser.Term.byTactic then return s.setArg 1 (Lean.mkNode `Lean.Parser.Command.theorem #[Lean.mkAtom "theorem",d[1],Lean.mkNode `Lean.Parser.Command.declSig #[d[2][0],d[2][1][0]],d[3]])
  if s[0][4].getNumArgs !=0 then return e
  return e.setArg 0 (s[0].setArg 4 (Lean.mkNullNode #[Lean.mkNode `Lean.Parser.Command.noncomputable #[Lean.mkAtom "noncomputable"]]))
local macro_rules|`(tactic|exists $e,*)=>`(tactic|refine⟨$e,*⟩)
local macro_rules
 |`(f_ $x*)=>`(aV m p K L P aE $x*)
 |`(g_ $x*)=>`(bz m p K L P aE $x*)
 |`(h_ $x*)=>`(cC m p K L P aE $x*)
 |`(k_ $x*)=>`(aV m p K L P (bA m p) $x*)
 |`(q_ $x*)=>`(bz m p K L P (bA m p) $x*)
 |`(r_ $x*)=>`(cC m p K L P (bA m p) $x*)
noncomputable section
set_option Elab.async false
set_option bootstrap.genMatcherCode false
set_option backward.eqns.nonrecursive false
set_option backward.eqns.deepRecursiveSplit false
set_option tactic.hygienic false
set_option linter.all false
set_option maxRecDepth 100000
set_option maxHeartbeats 8000000
theorem S.{u}{a:Sort u}{x:a}:x=x:=rfl
def N:=@if_neg
def ai:=@if_pos
def bD:=@congrArg
def bU:=@decide_eq_false
def cq:=@decide_eq_true
def d6:=@of_decide_eq_true
def eQ:=@if_true
def g8:=@or_false
def hb:=@decide_eq_decide
def ie:=@if_false
def iK:=@beq_eq_false_iff_ne
def iM:=@beq_iff_eq
def j5:=@decide_eq_true_eq
def nY:=@decide_eq_true_iff
def pZ:=@not_or
def rK:=@or_congr
def u9:=@bne_iff_ne
def vb:=@false_or
def G4:=@beq_self_eq_true
open Array renaming getElem?_eq_getElem->zr,getElem?_eq_none->So,getElem?_toList->R8,isEmpty_iff->SV,length_toList->rv,mem_toList_iff->RO,toList->Gd
open Bool renaming and_assoc->TM,and_eq_true->bx,and_eq_true_iff->T9,and_true->To,eq_iff_iff->ic,false->ao,false_and->ux,false_eq_true->nJ,false_ne_true->d5,false_or->zk,noConfusion->ih,not_true->S3,or_eq_true->zj,true->I,true_and->rW
open Classical renaming byContradiction->GX,propDecidable->Hc
open Eq renaming refl->GW
open False renaming elim->g5
open ForIn renaming forIn->uG
open ForInStep renaming yield->p1
open Iff renaming rfl->rN
open Int renaming ofNat->zS,toNat_natCast->uD
open List renaming all_append->zM,all_cons->iN,all_eq_true->js,all_map->TK,all_nil->Tn,any_cons->uE,any_eq_true->Hl,append_assoc->ck,append_inj->mc,append_nil->b0,append_of_mem->Hq,cons_append->dg,contains_cons->SH,contains_iff_mem->gQ,countP->Ht,countP_append->Tx,countP_eq_length_filter->Tu,countP_le_length->T3,countP_map->vf,drop_drop->HD,drop_eq_getElem_cons->TR,drop_eq_nil_of_le->zY,drop_nil->RB,ext_getElem?->TY,filter->TX,filterMap->TN,filterMap_append->vh,filterMap_cons->kR,filterMap_nil->zU,filter_append->nT,filter_congr->kY,filter_cons->ig,filter_eq_nil_iff->SO,filter_eq_self->Hb,filter_map->rL,filter_nil->vg,filter_sublist->Hk,find?_append->T1,find?_cons->gb,find?_eq_none->nN,find?_some->mb,flatMap_append->k4,flatMap_cons->b3,flatMap_nil->et,flatten_append->uY,foldl_cons->Tq,forIn_cons->GC,forIn_nil->uH,getD_eq_getElem?_getD->Hz,getElem?_append_left->uC,getElem?_append_right->hu,getElem?_drop->HC,getElem?_eq_getElem->gd,getElem?_eq_none->GG,getElem?_eq_some_iff->cF,getElem?_inj->Hi,getElem?_map->bh,getElem?_modify->vm,getElem?_replicate->RV,getElem?_set->TZ,getElem?_set_ne->ur,getElem?_set_self->uq,head?_cons->Tp,length->cN,length_append->br,length_cons->dn,length_drop->l6,length_eq_one_iff->TQ,length_eq_zero_iff->kX,length_filterMap_le->iU,length_filter_le->iX,length_flatMap->Ha,length_map->z,length_modify->rX,length_nil->iP,length_range'->qc,length_range->qj,length_replicate->RW,length_reverse->TU,length_take->dU,lookup->nE,lookup_cons->pY,map->rT,map_append->aT,map_congr_left->gE,map_cons->aZ,map_filterMap->zT,map_flatMap->p9,map_id'->rP,map_id->nU,map_map->d7,map_nil->hP,map_take->TV,mem_append->bR,mem_append_left->gN,mem_append_right->eH,mem_cons->bg,mem_cons_of_mem->bC,mem_cons_self->bE,mem_eraseDups->S9,mem_filter->dz,mem_filterMap->j0,mem_flatMap->di,mem_iff_getElem?->hR,mem_map->bH,mem_map_of_mem->dY,mem_of_find?_eq_some->fq,mem_of_getElem?->cG,mem_range'_1->ve,mem_range->lY,mem_singleton->bb,nil_append->dh,nodup_append->gC,nodup_cons->ej,nodup_nil->gc,nodup_range->Hd,not_mem_nil->gR,of_mem_zip->Gr,perm_ext_iff_of_nodup->vc,range'->cj,range'_append_1->kc,range'_succ->nP,range->eX,range_eq_range'->zK,range_succ->qe,replicate->Gu,reverse_cons->zZ,set_set->n6,size_toArray->eY,sum_append->vd,sum_cons->eC,sum_nil->Hh,take_add_one->dq,take_append_drop->vk,take_append_of_le_length->T2,take_length->dB,take_nil->rr,take_of_length_le->j4,take_zero->qh,toList_toArray->GS
open List.Nodup renaming sublist->Hj
open List.Pairwise renaming nil->Vd
open List.Perm renaming length_eq->VA,of_eq->VF,trans->VE
open List.Sublist renaming refl->Vs
open List.cons renaming inj->p5
open Min renaming min->jw
open Nat renaming add_assoc->qb,add_comm->zJ,add_le_add_right->qi,add_sub_cancel->SS,add_zero->j9,le_of_eq->uz,le_of_lt->y2,le_of_not_lt->GV,le_of_succ_le->uJ,le_refl->aR,le_succ_of_le->HA,le_trans->cu,le_zero->Ti,lt_irrefl->jY,lt_of_lt_of_le->gM,lt_of_not_le->p6,lt_succ_iff_lt_or_eq->kg,lt_succ_of_lt->GD,lt_succ_self->pU,min_eq_left->ik,min_eq_right->n0,ne_of_gt->RM,ne_of_lt->fB,not_lt_zero->k8,strongRecOn->Tf,sub_self->kd,sub_zero->SR,succ_mul->Te,zero_add->uQ,zero_le->cP,zero_lt_one->TB
open Nat.succ renaming inj->Ud
open Ne renaming symm->eP
open NeutralIO renaming bytes->Tz
open Option renaming bind_eq_some_iff->ft,bind_some->gg,getD_none->R3,getD_some->zP,isSome_iff_exists->rA,isSome_map->kU,isSome_some->Sd,map_eq_none_iff->Tt,map_eq_some_iff->cv,map_some->l8,none->O,some->Y,toList_some->Hs
open Option.some renaming inj->aS,injEq->zt
open PUnit renaming unit->nO
open Prod renaming ext->kf
open Prod.mk renaming injEq->uW
open Pure renaming pure->dA
open PyFlat renaming call->qf,calls->zV,played->Hw,row->TC,rows->vj,told->Hv
open PyProof.Rows renaming AllBare->jZ,Constant_none->RE,IntsAre->rD,Subscript_->Gy,callWith_builtin1->UP,callWith_type1->Ge,envOfC->eI,iadd_int->RN,isTrue_plain->RJ,isnot_none_gen->RG,join_list->U9,join_tuple->Va,notIn_str->Vb,subscriptTail->RZ,subscriptTail_builtinR->R0
open PySem renaming Addr->Z,Around->bZ,BindsTo->rz,CmpOp->pM,DictEntry->g6,Env->dS,ExceptHandler->rH,Expr->a8,FuncData->bc,GenState->F9,Heap->aD,Keyword->rC,MeetsIn->G3,Model->kS,NameKind->ht,Obj->aL,Operator->uv,Paired->cE,Params->j7,Pos->b2,Program->aw,PyData->l7,Scope->eh,Sem->fC,Shared->ak,Stmt->a7,Str->aa,Tok->dD,Value->J,Within->F7,World->au,assignEach->pP,atKey->fN,atKey_none_of_get->zB,atKey_of_get->zC,attributeBase->j3,backTo->fp,backToKw->l2,behindInMarks->ru,beq_builtin_none->T4,binaryOp->y6,bindArgs->za,bindC->l5,bindL->l4,bootBuiltins->uo,boot_len->dE,builtinsNs->F8,cLine->cK,call->gO,callWith->ry,call_list_seq->R5,call_meets->GB,call_meetsIn->uL,callerA->p4,cellsFrom->fE,codeAny->pT,codeAny_mono->zb,compEnvC->iO,compPost->GH,compareOp->fD,dictSetDefault->G5,dictSetHashed->G0,entryOfKey->jX,entry_at->zD,eval->iR,evalArgs_none->R6,evalPart_none->RY,excClassObj->zz,firstArgMember->SA,foldedSetIterable->y5,getAttr->Gg,getItem->nG,getMethod->pS,hashInt->F6,holding->nD,inplaceOp->uw,isSubtype_dict_dict->S2,keywordEach->l3,leaving->Gv,letOwnedTupleGo->y3,mainGlobals->fo,mem_of_lookup->hO,model->aM,newFunctionEnv->Sb,not_mem_keys_of_get->SK,notedBy->rF,nums_intItems->Sa,operate->Gz,placesWithHash->T5,pushCells->nH,pushCells_keeps->zh,pyIter->y4,pyNext->pR,rawInt->rx,recursionLimit->RR,sizeLine->aU,sizeLine_eq->y7,size_of_entries->l9,sliceBounds->pW,slot_dict_contains->HE,slot_list_getitem->R1,standAt->pO,starEach->cA,storeName->Ga,storedH->hQ,storedH_new->uO,storedH_old->G1,subscripted->zc,swapsWith->lZ,sysModules->er,tupleKind->iL,tupleKind_room_in1->nL,typeIs_str->zd,typeLookup->Gx,typeOf->ze,valueAt->nK,wpAny->aI,wpAny_Assign_Subscript->Sk,wpAny_Call_Name_kw->uB,wpAny_Call_method->GK,wpAny_Compare1->RH,wpAny_Dict_empty->Sl,wpAny_Name->Gb,wpAny_assign_Name->RL,wpAny_attempt->Sq,wpAny_bind->aH,wpAny_callSpecial?_slot->GP,wpAny_call_entry->rG,wpAny_dictEntries->j6,wpAny_dictEpoch->uM,wpAny_dictFind_heap->SJ,wpAny_execs_cons->RK,wpAny_execs_nil->uu,wpAny_fieldsOf->Su,wpAny_getItem_heap->GI,wpAny_getItem_of->Sh,wpAny_holding->nM,wpAny_isInstance->GQ,wpAny_isOneOf_keyiter->Sw,wpAny_isSubtype_exc->SI,wpAny_isTrue_Compare1->RI,wpAny_loadName_cell->RD,wpAny_loadName_local->RC,wpAny_loadPart_at->GZ,wpAny_mono->g4,wpAny_newObj_type->zi,wpAny_notIn_of->Si,wpAny_notOrdered_dict->zo,wpAny_passesOwn->pQ,wpAny_pure->bu,wpAny_pyIter_enum->SD,wpAny_pyIter_slot->GN,wpAny_rule->uP,wpAny_setField->Sx,wpAny_setItem_heap->Sj,wpAny_specialOf->uK,wpAny_standAt->Sf,wpAny_truthy_bool->pN,wpAny_typeNameOfWhole_keyiter->zp,wpAny_typeNameOf_keyiter->zq,wpAny_typeOf->SX,wpAny_updateDictKeys->SM
open PySem.Around renaming under->Gn
open PySem.Builtin renaming len->Vk
open PySem.Builtin.Dict renaming dictSlotNone->U8,entriesForEmpty->SQ,keyAndDefault->Vl,merge->SY,mergeDict->G2,quietEq->Vf,readDirectly->S1,selfAndRest->SW,showsAll->GO,updateFrom->zE
open PySem.Builtin.Dict_items renaming ownsTuple->Sv
open PySem.Builtin.List renaming listTooLong->GA
open PySem.Builtin.Range renaming rangeSize->Uo
open PySem.Builtin.Tuple renaming tupleHashOf->VL
open PySem.Calls renaming Name_function_global->RF,callWith_builtin->pX,evalArgs_plain->uF,spliced_cons->pV,spliced_nil->uA
open PySem.Challenge renaming pw_coarserflows_s01_answers->VJ
open PySem.Code renaming frames->RT,isFrame->Gp
open PySem.DictEntry renaming refKey->UM
open PySem.EqMixed renaming eq_bool_str->Uu,eq_int_str->Uw,eq_str_bool->Uy,eq_str_int->Uz,ne_bool_str->UG,ne_int_str->UI,ne_str_bool->UK,ne_str_int->UL
open PySem.EqNone renaming eq_bool_none->Ut,eq_int_none->Uv,eq_none_bool->Uq,eq_none_int->Ur,eq_none_none->Up,eq_none_str->Us,eq_str_none->Ux,ne_bool_none->UE,ne_int_none->UH,ne_none_bool->UB,ne_none_int->UC,ne_none_none->UA,ne_none_str->UD,ne_str_none->UJ
open PySem.F renaming args_dict_get_3->Sn,args_dict_keyiterator_iter_1->S8,args_dict_keyiterator_next_1->Ss,entry_dict_get->Sm,entry_dict_keyiterator_iter->S7,entry_dict_keyiterator_next->Sr,excBase_Exception->j8,plainAttrs_dict->GL,plainAttrs_list->fu,plainAttrs_str->SE,slot_dict_get->GJ,slot_dict_getitem->zl,slot_dict_iter->zm,slot_dict_keyiterator_iter->zF,slot_dict_keyiterator_next->p3,slot_dict_len->S5,slot_dict_setdefault->S6,slot_dict_update->S4,slot_list_append->f9,slot_list_extend->zf,slot_list_pop->R9,type_list_append->gF,type_list_extend->HB
open PySem.Heap renaming FlyingW->zy,SameBut->ib,get?_push_of_some->e8,get?_push_size->gB,get?_update_self->uN,lt_size->dN,size_push->jr
open PySem.Heap.DictOf renaming new->U7
open PySem.Heap.DictOfH renaming new->Vj
open PySem.Heap.IsSliceOf renaming new->UQ
open PySem.Heap.SameBut renaming refl->SU,update->iQ
open PySem.Heap.UpToSlots renaming of_keeps->Ve
open PySem.IsL renaming update->U6
open PySem.IsTupleKey renaming typeIs->Vg
open PySem.NameKind renaming cell->Se,free->uI
open PySem.Obj renaming data_mapDict->SN,data_mapDictKeys->rI,data_mapFields->Sz,isFreed_of_dict->zA,mapFields->Sy,mapSeq->R7
open PySem.Paired renaming length->bO,snoc->Sg
open PySem.PassesOwn renaming leaving->z0,never->dZ
open PySem.PyData renaming eqv->zg
open PySem.SeqAt renaming EqAt->R4,shaped->rE
open PySem.SeqAt.EqAt renaming bool_bool->UX,bool_int->UY,bool_none->UW,bool_str->UZ,int_bool->U1,int_int->U2,int_none->U0,int_str->Rw,none_bool->US,none_int->UT,none_str->UU,same->UR,str_bool->U4,str_int->Rx,str_none->U3,str_str->U5
open PySem.Str renaming join->GR,ofString->dO
open PySem.StrLaws renaming found_one->Vc
open PySem.Txt renaming isalpha->zw,isdigit->zv,join->zu
open PySem.Unicode renaming isAlpha->TJ,isDigit->TH
open PySem.Value renaming bool->Ry,bytes->Rz,float->RA,int->pJ,isInt->Ru,isStrOf->Rv,none->kQ,ref->cp,str->y0,type->pK
open PySem.Value.type renaming inj->Ua
open PySem.W renaming Frag->af,OpenLaw->GU,WData->eJ,WRecords->T6,WalkOS->Uc,WellAll->kW,callWith_K->Gq,callWith_K0->RU,cellsFrom_some->Gw,codeIn->rB,emptyDict->l1,enter_call->SG,excIn->gP,findIn->j1,fnOf->nF,funFrames_hide->GY,handedIn->RP,hasDictIn->Gf,hideAll->pL,hideAll_get->uk,hideAll_none->um,instObj->nC,isFn->uy,keepIn->kT,length_le_weightAllW->T8,lookIn->y8,makesIn->Gj,methodCall_KW->Gm,mg_of->mj,nsIn->mi,of_hideAll->y1,plainGet->y9,plainGet_of->Gh,plainOver->RQ,takerIn->Gi
open PySem.W.Codec renaming app->vn,denoteAll->z2,encAll->rZ,withinAll->Ub
open PySem.W.Looks renaming here->UN
open PySem.W.ReadsAllW renaming cons->VN,nil->VM
open PySem.W.WData renaming int->zx,weightAll->T7
open PySem.W.WShape renaming has->SF
open PySem.Within renaming cons->UO
open PyVacfaf renaming answers->vl,answers_asked->Hx,shape->jv,whole->mf
open SizeOf renaming sizeOf->gf
open Std.Legacy.Range renaming forIn_eq_forIn_range'->Vh,size->Vi
open Sum renaming inl->nB,inr->kO
open True renaming intro->j2
open UInt8 renaming le_iff_toNat_le->Tj,ofNat->eZ,ofNat_toNat->zW,toNat->il,toNat_inj->uZ,toNat_lt->zX,toNat_ofNat'->zL
open Vacfaa renaming Abs->cw,Arrow->Tw,Expr->ae,INPUT->du,LONG->Vo,NUMBER->Vp,Name->dr,RESERVED->nX,Text->aj,ascii->az,binderOf->g7,bindersIn->qa,bindersOf->uX,closing->Th,decimal->d9,deepOf->dH,funsOf->zO,gluedBy->Hg,inBrackets->Hf,isClosed->hS,isDigit->iT,isName->gD,isProgram->nW,isSmall->kZ,labelOf->ag,labelsOf->bJ,nodeAt->ma,nodesOf->aG,numberOf->zI,programOf->hT,read->g9,spaced->va,textOf->bq,tokensOf->dt,valueOf->hU
open Vacfaa.Abs renaming fn->G8,pair->Vn,ref->Vm
open Vacfaa.Abs.fn renaming injEq->VB
open Vacfaa.Abs.pair renaming injEq->VC
open Vacfaa.Abs.ref renaming injEq->VD
open Vacfaa.Expr renaming app->Ts,fn->p7,fst->Vv,get->Vx,letE->Tc,new->G7,num->Vq,pair->G6,snd->Vw,var->hV
open Vacfaa.Expr.var renaming injEq->Vr
open Vacfab renaming Fact->hv,Place->aA,Table->iS,Way->ka,arrowsIn->rS,bodyOf->uR,broughtBy->Ta,has->zH,inOrder->zG,labelled->b5,leastOf->d8,mostFacts->p8,neededBy->nR,placesOf->aq,roundsFrom->uU,seedsIn->uT,seedsOf->rJ,setAt->nQ,sortsOf->bp,waysIn->kb,waysOf->uS
open Vacfab.Fact.mk renaming injEq->Td
open Vacfab.Place renaming first->Vy,inside->Vz,name->Tg,node->G9
open Vacfaf renaming Call->k7,Classes->nV,Look->qd,Out_->mh,Shift->md,State->nZ,allOf->nS,aloneAt->ke,askedFor->e9,changedTo->rQ,changesOf->k6,classOf->cH,classesFrom->rO,classesOf->ha,does->fF,exprOf->He,funPlaces->Hn,isTold->bo,joined->ij,lookFor->Tr,lookFrom->zN,lookOn->jt,lookedFor->ju,moved->eu,movedAbs->zR,movedFact->iV,movedPlace->rR,onNode->rY,onRung->z1,putAt->cQ,refPlaces->Ho,roundOf->Hm,rungOf->me,sameKind->uV,shiftOf->e0,sizeAt->zQ,start->Hy,step->iW,tableBy->rM,toldPlaces->Tv,toldSet->Hr
open Vacfaf.Look renaming places->Vt,table->Vu
open VacfafNeutral renaming asked->VI,asked1->TF,callOf->VH,encode->VG,natural->rV,step->qg,text?->Hu,whole60->vi
open PySem PySem.Spec PyProof.Rows
namespace Lake
section
universe u0 u1 u2 u3 u4 u5 u6 u7 u8
end
namespace L2
inductive A3 (a z c:Prop):Prop|mk (_:a) (_:z) (_:c)
inductive A4 (a z c d:Prop):Prop|mk (_:a) (_:z) (_:c) (_:d)
inductive A5 (a z c d A:Prop):Prop|mk (_:a) (_:z) (_:c) (_:d) (_:A)
inductive A6 (a z c d A D:Prop):Prop|mk (_:a) (_:z) (_:c) (_:d) (_:A) (_:D)
inductive A7 (a z c d A D G:Prop):Prop|mk (_:a) (_:z) (_:c) (_:d) (_:A) (_:D) (_:G)
inductive A8 (a z c d A D G M:Prop):Prop|mk (_:a) (_:z) (_:c) (_:d) (_:A) (_:D) (_:G) (_:M)
inductive A9 (a z c d A D G M i:Prop):Prop|mk (_:a) (_:z) (_:c) (_:d) (_:A) (_:D) (_:G) (_:M) (_:i)
inductive A10 (a z c d A D G M i N:Prop):Prop|mk (_:a) (_:z) (_:c) (_:d) (_:A) (_:D) (_:G) (_:M) (_:i) (_:N)
inductive X2 {A:Sort c} {z:Sort d} (p:A->z->Prop):Prop|mk (a:A) (b:z) (_:p a b)
inductive X3 {A:Sort d} {z:Sort e} {D:Sort f} (p:A->z->D->Prop):Prop|mk (a:A) (b:z) (c:D) (_:p a b c)
inductive X4 {A:Sort e} {z:Sort f} {D:Sort g} {G:Sort h} (p:A->z->D->G->Prop):Prop|mk (a:A) (b:z) (c:D) (d:G) (_:p a b c d)
inductive X5 {A:Sort f} {z:Sort g} {D:Sort h} {G:Sort i} {M:Sort j} (p:A->z->D->G->M->Prop):Prop|mk (a:A) (b:z) (c:D) (d:G) (e:M) (_:p a b c d e)
inductive X6 {A:Sort g} {z:Sort h} {D:Sort i} {G:Sort j} {M:Sort k} {N:Sort l} (p:A->z->D->G->M->N->Prop):Prop|mk (a:A) (b:z) (c:D) (d:G) (e:M) (f:N) (_:p a b c d e f)
inductive X8 {A:Sort i} {z:Sort j} {D:Sort k} {G:Sort l} {M:Sort m} {N:Sort n} {S:Sort o} {H:Sort q} (p:A->z->D->G->M->N->S->H->Prop):Prop|mk (a:A) (b:z) (c:D) (d:G) (e:M) (f:N) (g:S) (h:H) (_:p a b c d e f g h)
abbrev Key:=Sum Int aa
def n7:Key->J->Bool
 |.inl k,v=>Ru k v
 |.inr x,v=>Rv x v
def HF(z:au):Key->Int
 |.inl k=>F6 k
 |.inr x=>hashStr z x
theorem kh:∀{D:Key} {v:J},n7 D v=I->(∃i z,D=nB i/\v=pJ i z)\/(∃A z,D=kO A/\v=y0 A z)
 |.inl i,v,a=>by let⟨z,G⟩:=Value.isInt_shape (k:=i) (v:=v) a;exact .inl ⟨i,z,S,G⟩
 |.inr A,v,a=>by let⟨z,G⟩:=Value.isStrOf_shape (x:=A) (v:=v) a;exact .inr ⟨A,z,S,G⟩
def HG(i:Int)(z:dD):n7 (.inl i) (.int i z)=I:=by simp [n7,Ru]
def HH(z:aa)(A:dD):n7 (.inr z) (.str z A)=I:=by simp [n7,Rv]
def HI(z A:Int):decide ((nB z:Key)=nB A)=(z==A):=by
 by_cases D:z=A
 .subst D;simp
 .have G:¬(nB z:Key)=nB A:=λM=>D (Sum.inl.inj M);rw [bU G];exact(iK.mpr D).symm
def HJ(z A:aa):decide ((kO z:Key)=kO A)=decide (z=A):=by
 by_cases D:z=A
 .subst D;simp
 .have G:¬(kO z:Key)=kO A:=λM=>D (Sum.inr.inj M);rw [bU G,bU D]
theorem HK(z:Int)(A:aa):decide ((nB z:Key)=kO A)=ao:=bU (λD=>nomatch D)
theorem HL(z:aa)(A:Int):decide ((kO z:Key)=nB A)=ao:=bU (λD=>nomatch D)
def eK(b:aw)(T:au):PySem.KeyKind b T Key where
 is:=n7
 hash:=HF T
 inj:=λv f g c U=>by
  rcases kh c with⟨i,D,rfl,rfl⟩|⟨G,D,rfl,rfl⟩
  .rcases kh U with⟨M,u,rfl,A⟩|⟨y,u,rfl,A⟩
   .injection A with a _;rw [a]
   .exact nomatch A
  .rcases kh U with⟨M,u,rfl,A⟩|⟨y,u,rfl,A⟩
   .exact nomatch A
   .injection A with a _;rw [a]
 byValue:=λd v z=>by rcases kh z with⟨i,D,rfl,rfl⟩|⟨G,D,rfl,rfl⟩<;>rfl
 pyHash:=λN z=>by
  rcases kh N with⟨i,D,rfl,rfl⟩|⟨G,D,rfl,rfl⟩
  .exact wpAny_pyHash_int z
  .exact wpAny_pyHash_str z
 eqBool:=λe N z=>by
  rcases kh e with⟨i,D,rfl,rfl⟩|⟨G,D,rfl,rfl⟩
  .rcases kh N with⟨M,u,rfl,rfl⟩|⟨y,u,rfl,rfl⟩
   .rw [HI]at z;exact wpAny_eqBool_int z
   .rw [HK]at z;exact Rw i D y u _ _ _ _ z
  .rcases kh N with⟨M,u,rfl,rfl⟩|⟨y,u,rfl,rfl⟩
   .rw [HL]at z;exact Rx G D M u _ _ _ _ z
   .rw [HJ]at z;exact wpAny_eqBool_str z
 «strs»:=λd G D v z=>by
  rcases kh z with⟨i,u,rfl,A⟩|⟨y,u,rfl,A⟩
  .exact nomatch A
  .injection A with a _;subst a;cases v<;>rfl
theorem HM(A:aw)(D:au)(i:Int)(z:dD):(eK A D).is (.inl i) (.int i z)=I:=HG i z
theorem HN(D:aw)(G:au)(z:aa)(A:dD):(eK D G).is (.inr z) (.str z A)=I:=HH z A
inductive V where
 |bw|bl (z:Bool)|int (i:Int)|str (x:aa)|fO (z:Array UInt8)|qk (z:UInt64)|ref (a:Z)|ty (n:String)
 deriving DecidableEq
def RelV:V->J->Prop
 |.bw,u=>u=kQ
 |.bl b,u=>u=Ry b
 |.int i,u=>∃z,u=pJ i z
 |.str x,u=>∃z,u=y0 x z
 |.fO b,u=>∃z,u=Rz b z
 |.qk b,u=>∃z,u=RA b z
 |.ref a,u=>u=cp a
 |.ty n,u=>u=pK n
abbrev Vals:List V->List J->Prop:=cE RelV
variable{t3:List V}{t0:List J}
theorem Vals.length(D:Vals t3 t0):t3.length=t0.length:=bO D
def Vals.get:∀{A:List V} {D:List J} {i:Nat} {G:V},Vals A D->A[i]?=Y G->∃u,D[i]?=Y u/\RelV G u:=by
 intro A D i G M;induction M generalizing i with
 |nil=>intro z;simp at z
 |cons a c b=>
  intro z;cases i with
  |zero=>simp at z;subst z;exists _,S,a
  |succ i=>simpa using b (i:=i) (by simpa using z)
variable{ut:V}
def Vals.set{u:J}(G:RelV ut u):∀{z:List V} {A:List J} (i:Nat),Vals z A->Vals (z.set i ut) (A.set i u):=by
 intro z A i M;induction M generalizing i with
 |nil=>exact .nil
 |cons a b c=>exact match i with
  |0=>.cons G b
  |i+1=>.cons a (c i)
def Vals.append:∀{z A:List V} {D G:List J},Vals z D->Vals A G->Vals (z++A) (D++G):=by
 intro z A D G M N;induction M with
 |nil=>exact N
 |cons a c b=>exact .cons a b
def Vals.take:∀{A:List V} {D:List J} (z:Nat),Vals A D->Vals (A.take z) (D.take z):=by
 intro A D z G;induction G generalizing z with
 |nil=>rw [rr,rr];exact .nil
 |cons a c b=>exact match z with
  |0=>.nil
  |z+1=>.cons a (b z)
def Vals.drop:∀{A:List V} {D:List J} (z:Nat),Vals A D->Vals (A.drop z) (D.drop z):=by
 intro A D z G;induction G generalizing z with
 |nil=>rw [RB,RB];exact .nil
 |cons a b c=>exact match z with
  |0=>.cons a b
  |z+1=>c z
def fv:Option V->Option J->Prop
 |some v,Y u=>RelV v u
 |none,O=>True
 |_,_=>False
variable{sB:Type}
def KV:List (sB×V)->List (sB×J)->Prop:=cE λ(A:sB×V) (D:sB×J)=>A.1=D.1/\RelV A.2 D.2
def kV:Key->V
 |.inl i=>.int i
 |.inr x=>.str x
inductive HO where
 |lst (z:List V)
 |tup (z:List V)
 |dK (A:List (Key×V))|dT (A:List (List Key×V))
 |set (D:Int->Bool) (n:Nat)
 |ins (G M:Z) (fs:List (aa×V))
 |own (x:Z)
 |xd (fs:List (aa×V))
 |met (N x:Z)
 |r0 (S T:Int)
 |bP (o:aL) (u:HO)
 |k9 (ps:Array J)
 |ext (U:aD->Prop)
abbrev U:=Z->Option HO
def upd(H:U)(A:Z)(o:HO):U:=λz=>if z=A then Y o else H z
variable{d:Z}
def M{H:U}{o:HO}:upd H d o d=Y o:=by unfold upd;rw [ai S]
variable{q:Z}
def ah{H:U}{o:HO}(D:d≠q):upd H q o d=H d:=by unfold upd;rw [N D]
def gS{H:U}{o u:HO}:upd (upd H d o) d u=upd H d u:=by funext a;unfold upd;split<;>rfl
def cW{H:U}{o u:HO}(G:H d=Y o)(D:H q=Y u)(M:o≠u):d≠q:=by intro N;subst N;rw [G]at D;exact M (aS D)
def cB{H:U}{o:HO}(G:H d=Y o)(D:H q=O):d≠q:=by intro M;subst M;rw [G]at D;cases D
section
variable (P:aw) (w:au)
def d2(H:U)(A:aD)(z:Z):HO->Prop
 |.lst D=>D.length<=aU/\∃(N:List J) (S:Nat),Vals D N/\A.get? z=Y {cls:=.type "list",data:=.seq N.toArray S}
 |.tup D=>D.length<=aU/\∃N:List J,Vals D N/\IsTup A z N.toArray
 |.dK a=>a.length<=aU/\(z==er)=ao/\∃e,KV a e/\A.DictOf (eK P w) z e
 |.dT a=>a.length<=aU/\(z==er)=ao/\∃D:List (List Key×Z×J),
   cE (λ(T:List Key×V) (c:List Key×Z×J)=>T.1=c.1/\H c.2.1=Y (.tup (T.1.map kV))/\RelV T.2 c.2.2) a D/\
   ∃o f i,A.get? z=Y o/\o.ExactDict/\o.data=.dict f i/\f.toList=D.map (jX (iL (eK P w)))/\(D.map (·.1)).Nodup
 |.set j S=>A.SetOf (intKind P w) z j S
 |.ins k b fs=>H b=Y (.own z)/\fs.length<=1000/\b≠z/\A.get? z=Y (nC k b)/\
   ∃M,A.Ns1 b M/\(∀G,fv (fs.lookup G) (M G))/\F7 M (fs.map (·.1))
 |.own _=>∃o,A.get? z=Y o
 |.xd fs=>∃M,A.Ns1 z M/\∀G,fv (fs.lookup G) (M G)
 |.r0 lo l=>∃m u v,A.get? z=Y {cls:=.type "range",data:=.fields #[.int lo m,.int l u,.int 1 v]}
 |.bP o u=>A.get? z=Y o/\d2 H A z u
 |.k9 ps=>A.get? z=Y {cls:=.none,data:=.fields ps}
 |.met G x=>A.get? z=Y (PySem.W.methodObj (.ref G) (.ref x))
 |.ext d=>d A/\(∃o,A.get? z=Y o)/\∀g h:aD,d g->(∀o,g.get? z=Y o->h.get? z=Y o)->d h
def dv(H:U)(A:aD):Prop:=∀z o,H z=Y o->d2 P w H A z o
end
variable{P:aD}{m:aw}{p:au}{H:U}{o:HO}
def d2.lt(A:d2 m p H P d o):d<P.objs.size:=by
 cases o with
 |lst b=>let⟨_,_,_,_,z⟩:=A;exact dN z
 |tup b=>let⟨_,_,_,D⟩:=A;exact D.lt
 |dK c=>let⟨_,_,_,_,o,_,_,z,_⟩:=A;exact dN z
 |dT c=>let⟨_,_,_,_,o,_,_,z,_⟩:=A;exact dN z
 |set h n=>let⟨o,_,_,_,z,_⟩:=A;exact dN z
 |ins e f fs=>let⟨_,_,_,z,_⟩:=A;exact dN z
 |own y=>let⟨_,z⟩:=A;exact dN z
 |xd fs=>let⟨_,⟨_,_,_,z,_⟩,_⟩:=A;exact dN z
 |r0 lo g=>let⟨_,_,_,z⟩:=A;exact dN z
 |bP i u=>let⟨z,_⟩:=A;exact dN z
 |k9 ps=>exact dN (show P.get? d=Y _ from A)
 |met j y=>exact dN (show P.get? d=Y _ from A)
 |ext k=>let⟨_,⟨_,z⟩,_⟩:=A;exact dN z
variable{At:Type}
def Paired.cb{D G:sB->At->Prop}:∀{M:List sB} {N:List At},cE D M N->(∀d S,D d S->G d S)->cE G M N:=by
 intro U a P T;induction P with
 |nil=>exact .nil
 |cons b e c=>exact .cons (T _ _ b) c
variable{r:U}{KM:aD}
def d2.iY(D:d2 m p H P d o)(A:∀N u,(N=d\/H N=Y (.own d))->P.get? N=Y u->KM.get? N=Y u)(h:∀N,H N=Y (.own d)->r N=Y (.own d)) (q:∀N a,H N=Y (.tup a)->r N=Y (.tup a)):d2 m p r KM d o:=by
 induction o with
 |lst a=>let⟨G,f,k,M,z⟩:=D;exists G,f,k,M,A _ _ (.inl S) z
 |tup a=>let⟨G,f,M,T,z,c⟩:=D;exists G,f,M,T,A _ _ (.inl S) z,c
 |dK H'=>let⟨G,y,s,M,T,U,b,z,c⟩:=D;exists G,y,s,M,T,U,b,A _ _ (.inl S) z,c
 |dT H'=>
  let⟨G,y,a,M,T,U,b,z,c⟩:=D;exists G,y,a,Paired.cb M λl e G=>⟨G.1,q _ _ G.2.1,G.2.2⟩,T,U,b,A _ _ (.inl S) z,c
 |set C k=>let⟨T,U,b,g,z,c⟩:=D;exists T,U,b,g,A _ _ (.inl S) z,c
 |ins E F fs=>
  let⟨w,G,t,z,i,⟨j,U,b,x,c⟩,M⟩:=D;exists h _ w,G,t,A _ _ (.inl S) z,i,⟨j,U,b,A _ _ (.inr w) x,c⟩,M
 |own y=>let⟨T,z⟩:=D;exists T,A _ _ (.inl S) z
 |xd fs=>let⟨i,⟨j,U,b,z,c⟩,M⟩:=D;exists i,⟨j,U,b,A _ _ (.inl S) z,c⟩,M
 |r0 lo K=>let⟨g,u,v,z⟩:=D;exists g,u,v,A _ _ (.inl S) z
 |bP T u B=>let⟨z,e⟩:=D;exists A _ _ (.inl S) z,B e
 |k9 ps=>
  have z:=D;exact A d _ (.inl S) z
 |met L y=>
  have z:=D;exact A d _ (.inl S) z
 |ext Q=>let⟨l,⟨o,z⟩,n⟩:=D;exists n _ _ l λo e=>A _ _ (.inl S) e,⟨o,A _ _ (.inl S) z⟩,n
theorem dv.lt(z:dv m p H P)(A:H d=Y o):d<P.objs.size:=(z d o A).lt
def dv.fresh(z:dv m p H P)(A:P.objs.size<=d):H d=O:=by
 cases b:H d with
 |none=>rfl
 |some u=>exact absurd (gM (z.lt b) A) (jY _)
theorem dv.kept(D:dv m p H P)(G:∀A u,P.get? A=Y u->KM.get? A=Y u):dv m p H KM:=λd o M=>
 (D d o M).iY (λA u _ z=>G A u z) (λ_ z=>z) λ_ _ z=>z
variable{h':aD}{a:Z}
theorem dv.laid(G:dv m p H P)(T:∀A u,P.get? A=Y u->h'.get? A=Y u)(U:P.objs.size<=a)(b:d2 m p (upd H a o) h' a o):dv m p (upd H a o) h':=λA u D=>by
 have N:=G.fresh U;by_cases S:A=a
 .subst S;rw [M]at D;cases D;exact b
 .rw [ah S]at D;exact(G A u D).iY (λc v _ z=>T c v z) (λc z=>ah (cB z N)▸z) λc d z=>ah (cB z N)▸z
def Rd(H:U)(z:Z)(u:HO):Prop:=H z=Y u\/∃o,H z=Y (.bP o u)
def Rd.ok{H:U}{u:HO}(z:Rd H d u)(N:dv m p H P):d2 m p H P d u:=by
 rcases z with z|⟨o,z⟩
 .exact N d u z
 .obtain⟨_,S⟩:=N d _ z;exact S
def cX:Option HO->Prop
 |some (.lst _)=>True
 |some (.dK _)=>True
 |some (.dT _)=>True
 |some (.set _ _)=>True
 |some (.ins _ _ _)=>True
 |some (.ext _)=>True
 |_=>False
variable{Db:HO}{x e:Z}
theorem dv.write(i:dv m p H P)(N:cX (H x))(d:e=x\/H e=Y (.own x))(j:∀D u,D≠e->P.get? D=Y u->h'.get? D=Y u)(k:∃u,h'.get? e=Y u)(l:d2 m p (upd H x Db) h' x Db):dv m p (upd H x Db) h':=λD u G=>by
 have f:∀c y,H c=Y (.own y)->c≠x:=λc y z A=>by subst A;rw [z]at N;exact N
 have w:∀c T,H c=Y (.tup T)->c≠x:=λc T z A=>by subst A;rw [z]at N;exact N
 by_cases U:D=x
 .subst U;rw [M]at G;cases G;exact l
 .rw [ah U]at G;by_cases a:D=e
  .have g:H D=Y (.own x):=by
    rcases d with A|A
    .exact absurd (a.trans A) U
    .rwa [a]
   rw [G]at g;cases g;let⟨v,n⟩:=k;exists v,a▸n
  .refine(i D u G).iY (λc v b z=>j c v ?_ z) (λc z=>ah (f c D z)▸z) λc T z=>ah (w c T z)▸z;rcases b with rfl|b
   .exact a
   .rintro rfl;rcases d with A|A
    .exact f c D b A
    .rw [b]at A;cases A;exact U S
structure Un(fs ex:List Z)(H A:U)(D G:aD):Prop where
 keep:∀z o,D.get? z=Y o->H z=O->z∉fs->z∉ex->G.get? z=Y o
 slot:∀z o,D.get? z=Y o->H z=O->z∈fs->z∉ex->∃N,G.get? z=Y {o with slots:=N}
 free:∀z o,D.get? z=Y o->H z=O->z∉ex->A z=O
 there:∀z o,D.get? z=Y o->z∉ex->∃S,G.get? z=Y S
 ki:∀z M,H z=Y (.tup M)->A z=Y (.tup M)
 iZ:∀z o u,H z=Y (.bP o u)->A z=Y (.bP o u)
 kj:∀z ps,H z=Y (.k9 ps)->∃T,A z=Y (.k9 (ps++T))
variable{Sc:aL}{v2 VT:List Z}
def Un.any(u:Un v2 VT H r P KM)(D:P.get? d=Y Sc)(G:H d=O)(M:d∉VT):∃S,KM.get? d=Y {Sc with slots:=S}:=by
 by_cases N:d∈v2
 .exact u.slot d Sc D G N M
 .exact⟨Sc.slots,u.keep d Sc D G N M⟩
theorem Un.kept(G:∀A u,P.get? A=Y u->KM.get? A=Y u):Un v2 VT H H P KM:=
 ⟨λA D z _ _ _=>G A D z,λA D z _ _ _=>⟨D.slots,G A D z⟩,λ_ _ _ M _=>M,λA D z _=>⟨D,G A D z⟩,λ_ _ z=>z,λ_ _ _ z=>z,λ_ N z=>⟨#[],by rw [z];simp⟩⟩
theorem Un.refl:Un v2 VT H H P P:=Un.kept λ_ _ z=>z
theorem Un.laid(D:∀A u,P.get? A=Y u->h'.get? A=Y u)(M:P.objs.size<=a)(G:H a=O):Un v2 VT H (upd H a o) P h' where
 keep:=λA u z _ _ _=>D A u z
 slot:=λA u z _ _ _=>⟨u.slots,D A u z⟩
 free:=λA u z N _=>ah (fB (gM (dN z) M))▸N
 there:=λA u z _=>⟨u,D A u z⟩
 ki:=λA S z=>ah (cB z G)▸z
 iZ:=λA u S z=>ah (cB z G)▸z
 kj:=λA T z=>⟨#[],by rw [ah (cB z G),z];simp⟩
def Un.write(M:cX (H x))(d:e=x\/H e=Y (.own x))(S:∀z u,z≠e->P.get? z=Y u->h'.get? z=Y u)(f:∃u,h'.get? e=Y u):Un v2 VT H (upd H x o) P h':=by
 have U:∀z,H z=O->z≠x:=λz D G=>by subst G;rw [D]at M;exact M
 have b:∀z,H z=O->z≠e:=λz D G=>by
  subst G;rcases d with N|N
  .exact U z D N
  .rw [D]at N;cases N
 have T:∀z u,H z=Y u->¬cX (Y u)->z≠x:=λz u A g G=>by subst G;rw [A]at M;exact g M
 exists λz u A D _ _=>S z u (b z D) A,λz u A D _ _=>⟨u.slots,S z u (b z D) A⟩,λz u A D _=>ah (U z D)▸D,λz u A _=>?_,λz i A=>by rwa [ah (T z _ A λG=>G)],λz u i A=>by rwa [ah (T z _ A λG=>G)],λz j A=>⟨#[],by rw [ah (T z _ A λG=>G),A];simp⟩;by_cases c:z=e
 .subst c;exact f
 .exact⟨u,S z u c A⟩
def r1(z:aD)(H:U):List Z:=(eX z.objs.size).filter λA=>(H A).isSome
def kl(z:aD)(H:U):aD:=pL z (r1 z H)
theorem HQ(z:aD)(H:U):(kl z H).objs.size=z.objs.size:=PySem.W.hideAll_size _ _
theorem HR{H:U}{o:aL}(G:P.get? d=Y o)(M:H d=O):(kl P H).get? d=Y o:=
 uk _ G λN=>by have D:=(dz.mp N).2;rw [M]at D;simp at D
def HS{H:U}{o:aL}(D:(kl P H).get? d=Y o):P.get? d=Y o/\H d=O:=by
 have G:=y1 (r1 P H) D;exists G,?_;cases a:H d with
 |none=>rfl
 |some x=>
  have M:d∈r1 P H:=dz.mpr ⟨lY.mpr (dN G),by simp [a]⟩;have N:(kl P H).get? d=O:=um (r1 P H) M
  rw [N]at D;cases D
def HU(D A:aD)(G:Z):List (Z×aL):=(eX A.objs.size).filterMap λz=>if z=G\/(D.get? z).isSome=I then O else(A.get? z).map λo=>(z,o)
def rest(z A:aD)(D G:Z):List (Z×aL):=(HU z A D).filter λM=>decide (M.1≠G)
structure Mod(K:af)(G:aa->Option J)(base:aD):Prop where
 ql:K.In base
 glob:base.Ns fo G
 blt:∃z,base.Ns F8 z/\∀x:aa,x≠"__name__"->z x=uo x
 nolimit:base.NoLimit
structure Cx where
 prog:aw
 w:au
 K:af
 G:aa->Option J
 base:aD
 A:bZ
 N:List aa
 ea:ak
 jx:U
 env:dS
 outer:List dS
 stack:List dS
 ex:List Z
 fn:aa->Bool
 calm:Bool
 pn:List (Z×aL)
 xe:J->ak->Prop
def eb(z:List dS):List Z:=z.filterMap (·.frame)
abbrev Cx.fs(z:Cx):List Z:=eb z.outer
def r2(z:eh)(A:aa):Prop:=z.names.lookup A=Y .local\/z.names.lookup A=Y .cell\/z.names.lookup A=Y .free
def Loc(z:eh)(A:aa):Prop:=z.names.lookup A=Y .local\/z.names.lookup A=Y .cell
def Look(A:dS)(D:aD)(G:aa->Option J)(z:aa)(u:J):Prop:=
 (A.kindOf z=Y .local/\G z=Y u)\/((A.kindOf z=Y .cell\/A.kindOf z=Y .free)/\∃c,A.cells.lookup z=Y c/\D.IsCell c (Y u))
structure Cx.Ok(z:Cx):Prop where
 mod:Mod z.K z.G z.base
 kind:z.env.scope.kind=.function
 glob:z.env.globals=fo
 blt:z.env.builtins=F8
 above:z.ea.heap.objs.size<=z.env.locals
 inj:∀x y c,z.env.cells.lookup x=Y c->z.env.cells.lookup y=Y c->x=y
 has:∀x,(z.env.kindOf x=Y .cell\/z.env.kindOf x=Y .free)->∃c,z.env.cells.lookup x=Y c
 ml:∀x c,z.fn x=I->z.env.cells.lookup x=Y c->z.ea.heap.objs.size<=c
 hd:z.calm=I->z.A.handled=O
 frames:z.A.frames=Y z.stack
 n8:z.stack=z.outer\/(z.stack=z.env::z.outer/\z.env.frame=Y z.env.locals)
 n9:∀A∈z.ex,A≠z.env.locals/\∀x c,z.env.cells.lookup x=Y c->c≠A
 bs:∀A o,z.base.get? A=Y o->z.ea.heap.get? A=Y o/\z.jx A=O
 ip:z.base.objs.size<=z.ea.heap.objs.size
 mm:∀A o,z.base.get? A=Y o->A∉z.ex
 mn:∀A∈z.ex,A∉z.fs
 funs:z.ea.heap.FunFrames z.base z.outer
 km:∀A∈z.fs,z.jx A=O
structure Inv(z:Cx)(G:List (Z×aL))(D:List (Option V))(H:U)(A:ak):Prop where
 ok:z.Ok
 os:A.os=z.ea.os
 bare:jZ A.gens
 base:Un z.fs z.ex z.jx H z.ea.heap A.heap
 loc:∃m,A.heap.Ns z.env.locals m/\∀(i:Nat) (x:aa) (v:V),z.N[i]?=Y x->D[i]?=Y (Y v)->r2 z.env.scope x->∃u,RelV v u/\Look z.env A.heap m x u
 cell:∀x c,z.env.cells.lookup x=Y c->∃v,A.heap.IsCell c v
 free:H z.env.locals=O
 gG:∀x c,z.env.cells.lookup x=Y c->H c=O
 pin:∀p∈z.pn++G,A.heap.get? p.1=Y p.2/\H p.1=O/\p.1≠z.env.locals/\p.1∉z.fs/\∀v,p.2.data≠.cell v
 bf:dv z.prog z.w H A.heap
 len:D.length=z.N.length
variable{h:Cx}
theorem Cx.Ok.HV(A:h.Ok){o:aL}(D:h.base.get? d=Y o):d∉h.fs:=λG=>by have:=(A.funs.mem G).1;rw [D]at this;cases this
variable{t:ak}{pr:List (Z×aL)}{Go:List (Option V)}
theorem Inv.bs(A:Inv h pr Go H t):∀z o,h.base.get? z=Y o->t.heap.get? z=Y o/\H z=O:=λz o D=>
 ⟨A.base.keep z o (A.ok.bs z o D).1 (A.ok.bs z o D).2 (A.ok.HV D) (A.ok.mm z o D),A.base.free z o (A.ok.bs z o D).1 (A.ok.bs z o D).2 (A.ok.mm z o D)⟩
theorem Inv.bk(A:Inv h pr Go H t):∀z o,h.base.get? z=Y o->t.heap.get? z=Y o:=λz o D=>(A.bs z o D).1
theorem Inv.mod(z:Inv h pr Go H t):Mod h.K h.G h.base:=z.ok.mod
theorem Inv.fb(z:Inv h pr Go H t):h.K.In t.heap:=z.ok.mod.ql.keeps z.bk
theorem Inv.fr(z:Inv h pr Go H t):∃A,Fr h.base h.env.locals t.heap A:=
 let⟨A,D,_⟩:=z.loc
 ⟨A,D,z.bk,cu z.ok.ip z.ok.above⟩
theorem Inv.lt(z:Inv h pr Go H t):h.env.locals<t.heap.objs.size:=let⟨_,A,_⟩:=z.loc;A.lt
theorem Inv.sz(z:Inv h pr Go H t):h.ea.heap.objs.size<=t.heap.objs.size:=cu z.ok.above (y2 z.lt)
theorem Inv.HW(z:Inv h pr Go H t)(D:t.heap.objs.size<=d):d∉h.fs:=λG=>by let⟨_,o,M,_⟩:=z.ok.funs.mem G;exact absurd (gM (dN M) (cu z.sz D)) (jY _)
theorem Inv.vo(A:Inv h pr Go H t):∀z c,h.env.cells.lookup z=Y c->c≠h.env.locals:=λz c M N=>by let⟨v,o,D,G⟩:=A.cell z c M;let⟨U,⟨a,b,d,S,T,_⟩,_⟩:=A.loc;rw [N,S]at D;cases D;rw [T]at G;cases G
def Inv.funs(D:Inv h pr Go H t):t.heap.FunFrames h.base h.outer:=by
 have U:∀(z:List dS),(∀G∈eb z,G∈h.fs)->h.ea.heap.FunFrames h.base z->t.heap.FunFrames h.base z:=by
  intro z;induction z with
  |nil=>intro _ _;trivial
  |cons env j a=>
   intro T b;let⟨c,⟨A,o,M,d,e,f⟩,g⟩:=b;have N:=T A (by unfold eb;rw [kR,M];exact bE)
   let⟨k,X⟩:=D.base.slot A o e (D.ok.km A N) N λi=>D.ok.mn A i N;exists c,⟨A,_,M,d,X,f⟩,a (λG S=>T G (by unfold eb;rw [kR,M];exact bC _ S)) g
 exact U h.outer (λ_ S=>S) D.ok.funs
def Inv.stack(z:Inv h pr Go H t):t.heap.FunFrames h.base h.stack:=by
 rcases z.ok.n8 with A|⟨A,a⟩
 .rw [A];exact z.funs
 .rw [A];let⟨G,D,_⟩:=z.loc;refine .cons (by rw [z.ok.kind];decide) a D ?_ z.funs;exact Heap.get?_none_of_le (cu z.ok.ip z.ok.above)
theorem Inv.r3(G:Inv h pr Go H t):∀D∈eb h.stack,D∈h.env.locals::h.fs:=λD z=>by
 rcases G.ok.n8 with A|⟨A,a⟩
 .rw [A]at z;exact bC _ z
 .rw [A]at z;unfold eb at z;rw [kR,a]at z;exact z
theorem Inv.r4(z:Inv h pr Go H t):∀A∈eb h.stack,H A=O:=λA D=>by
 rcases bg.mp (z.r3 A D)with G|D
 .rw [G];exact z.free
 .obtain⟨_,o,M,_⟩:=z.ok.funs.mem D;exact z.base.free A o M (z.ok.km A D) λN=>z.ok.mn A N D
variable{B:Nat}
def Inv.step{g':Array F9}{d':Drawn}{ch:List Z}(D:Inv h pr Go H t)(g:∀z∈ch,(z∈h.ex\/h.ea.heap.objs.size<=z)/\z≠h.env.locals/\(∀G c,h.env.cells.lookup G=Y c->c≠z)/\∀T∈h.pn++pr,T.1≠z)(q:∀z o,z≠h.env.locals->z∉h.fs->z∉ch->t.heap.get? z=Y o->H z=O->P.get? z=Y o)(x:∀z o,z≠h.env.locals->z∈h.fs->z∉ch->t.heap.get? z=Y o->H z=O->∃L,P.get? z=Y {o with slots:=L}) (m:∀z o,z∉ch->t.heap.get? z=Y o->H z=O->r z=O)(s:∀z o,z∉ch->t.heap.get? z=Y o->∃σ,P.get? z=Y σ)(Q:∀z b,H z=Y (.tup b)->r z=Y (.tup b)) (R:∀z o u,H z=Y (.bP o u)->r z=Y (.bP o u)) (V:∀z n,H z=Y (.k9 n)->∃W,r z=Y (.k9 (n++W)))(ab:∀e,t.heap.Ns h.env.locals e->P.Ns h.env.locals e) (ad:dv h.prog h.w r P) (al:jZ g'):Inv h pr Go r {t with heap:=P,gens:=g',drawn:=d',toks:=B}:=by
 have y:∀z o,h.ea.heap.get? z=Y o->z≠h.env.locals:=λz o A=>fB (gM (dN A) D.ok.above);have p:∀z o,h.ea.heap.get? z=Y o->z∉h.ex->z∉ch:=λz o A M d=>by
  rcases(g z d).1 with N|N
  .exact M N
  .exact absurd (gM (dN A) N) (jY _)
 have X:∀G c,h.env.cells.lookup G=Y c->∀v,t.heap.IsCell c v->P.IsCell c v:=λG c A v ⟨o,f,h'⟩=>by
  have j:c∉ch:=λN=>(g c N).2.2.1 G c A S;by_cases C:c∈h.fs
  .obtain⟨L,am⟩:=x c o (D.vo G c A) C j f (D.gG G c A);exists _,am,h'
  .exact⟨o,q c o (D.vo G c A) C j f (D.gG G c A),h'⟩
 exists D.ok,D.os,al,⟨λz o A U d M=>?_,λz o A U d M=>?_,λz o A U M=>?_,λz o A M=>?_,λz b A=>Q z b (D.base.ki z b A),λz o b A=>R z o b (D.base.iZ z o b A),λz n A=>?_⟩,?_,λG c A=>?_,?_,λG c A=>?_,λT E=>?_,ad,D.len
 .exact q z o (y z o A) d (p z o A M) (D.base.keep z o A U d M) (D.base.free z o A U M)
 .obtain⟨L,a⟩:=D.base.slot z o A U d M;let⟨an,l⟩:=x z _ (y z o A) d (p z o A M) a (D.base.free z o A U M);exists an,l
 .obtain⟨σ,a⟩:=D.base.there z o A M;exact m z σ (p z o A M) a (D.base.free z o A U M)
 .obtain⟨σ,a⟩:=D.base.there z o A M;exact s z σ (p z o A M) a
 .obtain⟨ap,a⟩:=D.base.kj z n A;let⟨as,l⟩:=V z _ a;exact⟨ap++as,by rw [l,Array.append_assoc]⟩
 .obtain⟨e,a0,a1⟩:=D.loc;exists e,ab e a0,λi G v a l a2=>?_;let⟨u,a3,w⟩:=a1 i G v a l a2;exists u,a3,?_;rcases w with w|⟨k,c,A,N⟩
  .exact .inl w
  .exact .inr ⟨k,c,A,X G c A _ N⟩
 .obtain⟨v,N⟩:=D.cell G c A;exists v,X G c A v N
 .obtain⟨e,⟨o,_,_,f,_⟩,_⟩:=D.loc;exact m _ o (λN=>(g _ N).2.1 rfl) f D.free
 .obtain⟨v,o,f,h'⟩:=D.cell G c A;exact m c o (λN=>(g c N).2.2.1 G c A S) f (D.gG G c A)
 .obtain⟨A,U,F,K,a4⟩:=D.pin T E;have j:T.1∉ch:=λN=>(g T.1 N).2.2.2 T E S
  exists q T.1 T.2 F K j A U,m T.1 T.2 j A U,F,K,a4
def Inv.un{t':Nat}(G:Inv h pr Go H t)(u:Un h.fs [] H r t.heap h')(T:dv h.prog h.w r h'):Inv h pr Go r {t with heap:=h',toks:=t'}:=by
 let⟨f,⟨o,g,X,N,i⟩,_⟩:=id G.loc;let⟨j,U⟩:=u.any N G.free (by simp);exact G.step (g':=t.gens) (d':=t.drawn) (ch:=[]) (λ_ a=>nomatch a) (λz o _ M _ A D=>u.keep z o A D M (by simp)) (λz o _ M _ A D=>u.slot z o A D M (by simp)) (λz o _ A D=>u.free z o A D (by simp)) (λz o _ A=>u.there z o A (by simp)) u.ki u.iZ u.kj (λk b=>by let⟨l,c,d,S,e⟩:=b;rw [N]at S;cases S;exists _,c,d,U,e) T G.bare
def Inv.call{g':Array F9}{t':Nat}{d':Drawn}{ch:List Z}(M:Inv h pr Go H t)(u:Un (eb h.stack) ch H r t.heap h')(d:dv h.prog h.w r h')(e:jZ g')(U:∀z∈ch,(z∈h.ex\/h.ea.heap.objs.size<=z)/\z≠h.env.locals/\(∀f c,h.env.cells.lookup f=Y c->c≠z)/\∀g∈h.pn++pr,g.1≠z):Inv h pr Go r {t with heap:=h',gens:=g',drawn:=d',toks:=t'}:=by
 let⟨m,⟨o,n,p,a,q⟩,_⟩:=id M.loc;let⟨s,N⟩:=u.any a M.free λT=>(U _ T).2.1 rfl;exact M.step (ch:=ch) U (λz o N X A D G=>u.keep z o D G (λT=>(bg.mp (M.r3 z T)).elim N X) A) (λz o _ _ A D G=>u.any D G A) (λz o A D G=>u.free z o D G A) (λz o A D=>u.there z o D A) u.ki u.iZ u.kj (λσ i=>by let⟨v,j,k,b,l⟩:=i;rw [a]at b;cases b;exists _,j,k,N,l) d e
def Inv.turned{t':Nat}(T:Inv h pr Go H t)(N:∀z o,z≠d->t.heap.get? z=Y o->P.get? z=Y o)(b:H d=O)(U:d≠h.env.locals)(G:d∈h.ex\/h.ea.heap.objs.size<=d) (e:∀f c,h.env.cells.lookup f=Y c->c≠d) (g:∀X∈h.pn++pr,X.1≠d):Inv h pr Go H {t with heap:=P,toks:=t'}:=by
 have a:∀z u,H z=Y u->z≠d:=λz u A D=>by rw [D,b]at A;cases A
 refine T.step (g':=t.gens) (d':=t.drawn) (ch:=[d]) (λz i=>?_) (λz o _ _ M A _=>N z o (λD=>M (by simp [D])) A) (λz o _ _ M A _=>⟨o.slots,N z o (λD=>M (by simp [D])) A⟩) (λ_ _ _ _ j=>j)
  (λz o M A=>⟨o,N z o (λD=>M (by simp [D])) A⟩) (λ_ _ A=>A) (λ_ _ _ A=>A) (λz q A=>⟨#[],by rw [A];simp⟩) (λr k=>?_) (λz u A=>?_) T.bare
 .have A:z=d:=by simpa using i
  subst A;exists G,U,e,g
 .obtain⟨o,l,m,n,p⟩:=k;exists o,l,m,N _ o (eP U) n,p
 .refine(T.bf z u A).iY (λc v M S=>N c v ?_ S) (λ_ S=>S) λ_ _ S=>S;rcases M with D|D
  .rw [D];exact a z u A
  .exact a c _ D
theorem Inv.tok(z:Inv h pr Go H t)(A:Nat):Inv h pr Go H {t with toks:=A}:=z.un (h':=t.heap) (t':=A) Un.refl z.bf
theorem Inv.kept{t':Nat}(z:Inv h pr Go H t)(A:∀D u,t.heap.get? D=Y u->P.get? D=Y u):Inv h pr Go H {t with heap:=P,toks:=t'}:=z.un (Un.kept A) (z.bf.kept A)
theorem Inv.laid{a:Z}{o:HO}{t':Nat}(z:Inv h pr Go H t)(D:∀G u,t.heap.get? G=Y u->h'.get? G=Y u)(A:t.heap.objs.size<=a)(M:d2 h.prog h.w (upd H a o) h' a o):Inv h pr Go (upd H a o) {t with heap:=h',toks:=t'}:=z.un (Un.laid D A (z.bf.fresh A)) (z.bf.laid D A M)
theorem Inv.write{x e:Z}{o:HO}{t':Nat}(A:Inv h pr Go H t)(D:cX (H x))(G:e=x\/H e=Y (.own x))(M:∀z u,z≠e->t.heap.get? z=Y u->h'.get? z=Y u)(N:∃u,h'.get? e=Y u)(S:d2 h.prog h.w (upd H x o) h' x o):Inv h pr Go (upd H x o) {t with heap:=h',toks:=t'}:=A.un (Un.write D G M N) (A.bf.write D G M N S)
variable{WE:List (Option V)}
theorem Inv.weak(z:Inv h pr WE H t)(D:Go.length=WE.length)(G:∀(i:Nat) v,Go[i]?=Y (Y v)->WE[i]?=Y (Y v)):Inv h pr Go H t:=
 ⟨z.ok,z.os,z.bare,z.base,let⟨M,N,S⟩:=z.loc;⟨M,N,λi T v U a b=>S i T v U (G i v a) b⟩,z.cell,z.free,z.gG,z.pin,z.bf,D.trans z.len⟩
variable{WF:List (Z×aL)}
theorem Inv.z3(z:Inv h WF Go H t)(G:∀A∈pr,t.heap.get? A.1=Y A.2/\H A.1=O/\A.1≠h.env.locals/\A.1∉h.fs/\∀v,A.2.data≠.cell v):Inv h pr Go H t:=
 ⟨z.ok,z.os,z.bare,z.base,z.loc,z.cell,z.free,z.gG,λA M=>(bR.mp M).elim (λN=>z.pin A (gN _ N)) (G A),z.bf,z.len⟩
variable{s4:List aa}{op:aa}
def vp(G:s4.Nodup){i:Nat}(M:s4[i]?=Y op)(N:s4[B]?=Y op):i=B:=by let⟨U,S⟩:=cF.mp M;let⟨a,T⟩:=cF.mp N;exact(List.getElem_inj G).mp (S.trans T.symm)
variable{KE:Unit->ak->Prop}{Ps:kS}{sc:bZ}{s5:J->ak->Prop}
def z4{i:Nat}{v:V}{u:J}(z:Inv h pr Go H t)(ad:h.N.Nodup)(k:h.N[i]?=Y op)(U:Loc h.env.scope op)(al:RelV v u)(am:∀w,Inv h pr (Go.set i (Y v)) H w->(∃f,ib f t.heap w.heap/\(f=h.env.locals\/h.env.cells.lookup op=Y f))->KE () w) (be:h.fn op=I\/h.env.scope.names.lookup op=Y .local):aI Ps sc (Ga h.env op u) KE s5 t:=by
 let⟨bi,x,an⟩:=id z.loc;have bk:(h.env.scope.kind==.class||(h.env.scope.kind==.module&&h.env.locals !=h.env.globals))=ao:=by rw [z.ok.kind];rfl
 have ap:i<Go.length:=z.len▸(cF.mp k).1;have B:=z.vo
 have as:∀{f:Z} {P:aD},(∃o,t.heap.get? f=Y o/\H f=O)->ib f t.heap P->dv h.prog h.w H P:=λ{f P} bl D G bm A=>by
  let⟨_,_,a0⟩:=bl;refine(z.bf G bm A).iY (λc p T a=>(D.2 c ?_).trans a) (λ_ a=>a) λ_ _ a=>a;rintro rfl;rcases T with rfl|T
  .rw [a0]at A;cases A
  .rw [a0]at T;cases T
 rcases U with g|g
 .refine wpAny_storeName_local g x (λP bn D=>?_) bk;let⟨bs,_,_,bt,_⟩:=id x;refine am _ ⟨z.ok,z.os,z.bare,⟨λG o A b N U=>?_,λG o A b N U=>?_,z.base.free,λG o A U=>?_,z.base.ki,z.base.iZ,z.base.kj⟩,⟨_,bn,λl y C M e E=>?_⟩,λy c A=>?_,z.free,z.gG,λm F=>?_,as ⟨bs,bt,z.free⟩ D,by simpa using z.len⟩ ⟨_,D,.inl S⟩
  .exact(D.2 G (fB (gM (dN A) z.ok.above))).trans (z.base.keep G o A b N U)
  .obtain⟨K,M⟩:=z.base.slot G o A b N U;exists K,(D.2 G (fB (gM (dN A) z.ok.above))).trans M
  .obtain⟨L,M⟩:=z.base.there G o A U;exists L,(D.2 G (fB (gM (dN A) z.ok.above))).trans M
  .by_cases j:l=i
   .subst j;rw [k]at M;cases M;rw [uq ap]at e;cases e;exists u,al,.inl ⟨g,by simp⟩
   .rw [ur (eP j)]at e;let⟨X,Q,a⟩:=an l y C M e E;exists X,Q,?_;rcases a with⟨n,A⟩|⟨n,c,A,d⟩
    .refine .inl ⟨n,?_⟩;have:y≠op:=λA=>j (vp ad M (A▸k))
     simp [this,A]
    .exact .inr ⟨n,c,A,d.sameBut D (B y c A)⟩
  .obtain⟨p,d⟩:=z.cell y c A;exists p,d.sameBut D (B y c A)
  .obtain⟨A,b,q,R,r⟩:=z.pin m F;exists (D.2 m.1 q).trans A,b,q,R,r
 .have W:h.fn op=I:=by
   rcases be with d|d
   .exact d
   .rw [d]at g;cases g
  let⟨c,T⟩:=z.ok.has op (.inl g);let⟨p,d⟩:=z.cell op c T;refine wpAny_storeName_cell z.ok.kind g T d (λP a1 D=>?_);let⟨bv,a2,ca⟩:=id d;refine am {t with heap:=P} ⟨z.ok,z.os,z.bare,⟨λG o A b N U=>?_,λG o A b N U=>?_,z.base.free,λG o A U=>?_,z.base.ki,z.base.iZ,z.base.kj⟩,⟨bi,x.sameBut D (eP (B op c T)),λl y C M e E=>?_⟩,λy s A=>?_,z.free,z.gG,λm F=>?_,as ⟨bv,a2,z.gG op c T⟩ D,by simpa using z.len⟩ ⟨c,D,.inr T⟩
  .exact(D.2 G (fB (gM (dN A) (z.ok.ml op c W T)))).trans (z.base.keep G o A b N U)
  .obtain⟨K,M⟩:=z.base.slot G o A b N U;exists K,(D.2 G (fB (gM (dN A) (z.ok.ml op c W T)))).trans M
  .obtain⟨L,M⟩:=z.base.there G o A U;exists L,(D.2 G (fB (gM (dN A) (z.ok.ml op c W T)))).trans M
  .by_cases j:l=i
   .subst j;rw [k]at M;cases M;rw [uq ap]at e;cases e;exists u,al,.inr ⟨.inl g,c,T,a1⟩
   .rw [ur (eP j)]at e;let⟨X,Q,a⟩:=an l y C M e E;exists X,Q,?_;rcases a with a|⟨n,s,A,cd⟩
    .exact .inl a
    .refine .inr ⟨n,s,A,cd.sameBut D ?_⟩;rintro rfl;exact j (vp ad M (z.ok.inj _ _ _ A T▸k))
  .by_cases a3:s=c
   .subst a3;exists _,a1
   .obtain⟨ce,ch⟩:=z.cell y s A;exists ce,ch.sameBut D a3
  .obtain⟨A,b,q,R,r⟩:=z.pin m F;exists (D.2 m.1 ?_).trans A,b,q,R,r;intro a;rw [a,a2]at A;have ci:=aS A
   exact r p (ci▸ca)
theorem vq{i:Nat}{v:V}{u:J}(S:Inv h pr Go H t)(T:h.N.Nodup)(U:h.N[i]?=Y op)(a:Loc h.env.scope op)(b:RelV v u)(c:∀A,Inv h pr (Go.set i (Y v)) H A->KE () A) (d:h.fn op=I\/h.env.scope.names.lookup op=Y .local):aI Ps sc (Ga h.env op u) KE s5 t:=
 z4 S T U a b (λA e _=>c A e) d
def Inv.qm{s':ak}{ch:List Z}(A:Inv h pr Go H t)(D:s'.os=t.os)(u:Un (eb h.stack) ch H r t.heap s'.heap)(G:dv h.prog h.w r s'.heap)(M:jZ s'.gens)(N:∀z∈ch,(z∈h.ex\/h.ea.heap.objs.size<=z)/\z≠h.env.locals/\(∀S c,h.env.cells.lookup S=Y c->c≠z)/\∀T∈h.pn++pr,T.1≠z):Inv h pr Go r s':=by
 let⟨P,U,a,b,e⟩:=s';have d:=D
 subst d;exact A.call (g':=U) (t':=b) (d':=a) u G M N
abbrev XK:=J->Option Z->U->Prop
abbrev St:=List (Option V)
abbrev VK:=V->U->Prop
abbrev VLx:=Nat->St->U->Prop
abbrev VCx:=Nat->U->Prop
abbrev TE:=St->U->VK->Prop
abbrev TT:=St->U->(Bool->U->Prop)->Prop
abbrev TA:=St->U->(List V->U->Prop)->Prop
structure Ends where
 nx:St->U->Prop
 rt:VK
 bk:St->U->Prop:=λ_ _=>False
 ct:St->U->Prop:=λ_ _=>False
abbrev Ends.aN(z:Ends)(A:St->U->Prop):Ends:={z with nx:=A}
abbrev Ends.lp(z:Ends)(A:St->U->Prop):Ends:={z with nx:=A,ct:=A,bk:=z.nx}
abbrev Ends.fn(z:VK):Ends:=⟨λ_ A=>z .bw A,z,λ_ _=>False,λ_ _=>False⟩
abbrev TS:=Ends->St->U->Prop
inductive EP (z:Cx) (A:List (Z×aL)) (D:St) (G:VK) (u:J) (M:ak):Prop
 |mk(v a:_)(_:Inv z A D a M)(_:RelV v u)(_:G v a)
def TP(A:Cx)(D:List (Z×aL))(G:St)(M:Bool->U->Prop)(N:Bool)(S:ak):Prop:=∃z,Inv A D G z S/\M N z
inductive AP (z:Cx) (A:List (Z×aL)) (D:St) (G:List V->U->Prop) (M:List J) (N:ak):Prop
 |mk(a b:_)(_:Inv z A D b N)(_:Vals a M)(_:G a b)
def SP(D:Cx)(G:List (Z×aL))(M:Ends)(S:Flow)(N:ak):Prop:=
 match S with
 |.next=>∃A z,Inv D G A z N/\M.nx A z
 |.brk=>∃A z,Inv D G A z N/\M.bk A z
 |.cont=>∃A z,Inv D G A z N/\M.ct A z
 |.ret u=>∃v A z,Inv D G A z N/\RelV v u/\M.rt v z
def PE(z:Cx)(N:a8)(S:TE):Prop:=
 ∀(D:List (Z×aL)) (G:ak) (A:St) (H:U) (M:VK),Inv z D A H G->S A H M->aI (aM z.prog z.w) z.A (eval N z.env) (EP z D A M) z.xe G
def PT(z:Cx)(D:a8)(S:TT):Prop:=
 ∀(G:List (Z×aL)) (M:ak) (A:St) (H:U) (N:Bool->U->Prop),Inv z G A H M->S A H N->aI (aM z.prog z.w) z.A (isTrue D z.env (eval D z.env)) (TP z G A N) z.xe M
def PW(z:Cx)(N:a8)(S:TT):Prop:=
 ∀(T:fC J) (D:List (Z×aL)) (G:ak) (A:St) (H:U) (M:Bool->U->Prop),Inv z D A H G->S A H M->aI (aM z.prog z.w) z.A (isTrue N z.env T) (TP z D A M) z.xe G
variable{no:a8}{Id:TT}
theorem PW.pt(G:PW h no Id):PT h no Id:=G _
def PA(z:Cx)(N:List a8)(S:TA):Prop:=
 ∀(T:b2) (D:List (Z×aL)) (G:ak) (A:St) (H:U) (M:List V->U->Prop),Inv z D A H G->S A H M->aI (aM z.prog z.w) z.A (spliced (fp T (cA N z.env))) (AP z D A M) z.xe G
def PS(z:Cx)(N:a7)(S:TS):Prop:=
 ∀(A:List (Z×aL)) (D:ak) (G:St) (H:U) (M:Ends),Inv z A G H D->S M G H->aI (aM z.prog z.w) z.A (exec N z.env) (SP z A M) z.xe D
def gh(z:Cx)(N:List a7)(S:TS):Prop:=
 ∀(A:List (Z×aL)) (D:ak) (G:St) (H:U) (M:Ends),Inv z A G H D->S M G H->aI (aM z.prog z.w) z.A (execs N z.env) (SP z A M) z.xe D
theorem aN{D:fC sB}{G M:sB->ak->Prop}(a:aI Ps sc D G s5 t)(b:∀U t,G U t->M U t):aI Ps sc D M s5 t:=g4 a b λ_ _ c=>c
inductive jy (i:Nat) (z:St) (H:U) (A:VK):Prop
 |mk(v:_)(_:z[i]?=Y (Y v))(_:A v H)
def tC(v:V):TE:=λ_ H z=>z v H
variable{pu:b2}
def HX{i:Nat}(T:h.N[i]?=Y op)(U:r2 h.env.scope op)(G:(op==("__debug__":aa))=ao:=by decide)(d:(op==("__classdict__":aa))=ao:=by decide):PE h (.Name op pu) (jy i):=by
 intro e f g H A D M;let⟨v,j,M⟩:=M;let⟨p,k,l⟩:=D.loc;let⟨u,m,n⟩:=l i op v T j U;have N:EP h e g A u f:=⟨v,H,D,m,M⟩
 rcases n with⟨z,o⟩|⟨z,c,a,b⟩
 .exact Gb (RC D.ok.kind z k o N) G
 .rcases z with z|z
  .exact Gb (RD D.ok.kind z a b N) G
  .exact Gb (wpAny_loadName_free D.ok.kind z a b N d) G
theorem cL{i a b}:PE h (.Constant (.int i) a b) (tC (.int i)):=λ_ _ _ H _ z A=>wpAny_Constant_int ⟨.int i,H,z.tok _,⟨_,S⟩,A⟩
theorem hx{a b c}:PE h (.Constant (.bool a) b c) (tC (.bl a)):=λ_ _ _ H _ z A=>Constant_bool ⟨.bl a,H,z,S,A⟩
theorem vr{a b}:PE h (.Constant .none a b) (tC .bw):=λ_ _ _ H _ z A=>RE ⟨.bw,H,z,S,A⟩
theorem dP{x a b}:PE h (.Constant (.str x) a b) (tC (.str x)):=λ_ _ _ H _ z A=>Calls.Constant_str ⟨.str x,H,z.tok _,⟨_,S⟩,A⟩
def Gl(X:Cx)(z:aa):Prop:=X.env.kindOf z=Y .globalImplicit
variable{IO:J->ak->Prop}{pv:St}
theorem ob{H:U}{u:J}(A:Inv h pr pv H t)(a:Gl h op)(b:h.G op=Y u)(c:s5 u t)(d:(op==("__debug__":aa))=ao:=by decide):aI (aM h.prog h.w) h.A (eval (.Name op pu) h.env) s5 IO t:=
 RF A.ok.kind a (Calls.loadGlobal_global (A.ok.glob▸A.mod.glob.keeps A.bk) b c) d
def r5{H:U}{u:J}(A:Inv h pr pv H t)(a:Gl h op)(b:h.G op=O)(c:uo op=Y u)(d:s5 u t)(e:op≠"__name__":=by decide) (f:(op==("__debug__":aa))=ao:=by decide):aI (aM h.prog h.w) h.A (eval (.Name op pu) h.env) s5 IO t:=by let⟨i,g,z⟩:=A.mod.blt;exact RF A.ok.kind a (Calls.loadGlobal_builtin (A.ok.glob▸A.mod.glob.keeps A.bk) b (A.ok.blt▸g.keeps A.bk) ((z op e).trans c) d) f
theorem ek{v:V}{u:J}(G:Gl h op)(M:h.G op=Y u)(N:RelV v u)(S:(op==("__debug__":aa))=ao:=by decide):PE h (.Name op pu) (tC v):=
 λ_ _ _ H _ A T=>ob A G M ⟨v,H,A,N,T⟩ S
def PC(X:Cx)(M:pM)(a b:a8)(N:TE):Prop:=
 ∀(A:List (Z×aL)) (D:ak) (z:St) (H:U) (G:VK),Inv X A z H D->N z H G->
  aI (aM X.prog X.w) X.A (eval a X.env) (λv S=>aI (aM X.prog X.w) X.A (eval b X.env) (λu T=>aI (aM X.prog X.w) X.A (fD M v u) (EP X A z G) X.xe T) X.xe S) X.xe D
def HY(ta:TE):TE:=λz H A=>ta z H λD G=>A (.bl (!decide (D=.bw))) G
def RelV.HZ{v:J}(z:RelV ut v):(v==kQ)=decide (ut=.bw):=by
 cases ut with
 |bw=>cases z;rfl
 |bl _=>cases z;rfl
 |int _=>let⟨D,rfl⟩:=z;rfl
 |str _=>let⟨D,rfl⟩:=z;rfl
 |fO _=>let⟨D,rfl⟩:=z;rfl
 |qk _=>let⟨D,rfl⟩:=z;rfl
 |ref _=>cases z;rfl
 |ty _=>cases z;rfl
variable{ss:TE}
def H3{c d}(z:PE h no ss):PC h .IsNot no (.Constant .none c d) (HY ss):=by intro A D G H g M N;refine aN (z A D G H _ M N) λv X ⟨i,T,U,e,f⟩=>?_;exact RE (RG ⟨.bl _,T,U,by rw [e.HZ];rfl,f⟩)
inductive H4 (z:Bool->U->Prop) (x:V) (A:U):Prop
 |mk(c:_)(_:x=.bl c)(_:z c A)
def tB(z:TE):TT:=λA H D=>z A H λG M=>H4 D G M
variable{s0:a8}
theorem H5{z:pM}(D:PC h z s0 no ss)(G:ru z no=ao):PE h (.Compare s0 [z] [no] pu) ss:=λM N S H T U hw=>RH (D M N S H T U hw) G
def i0{z:pM}(G:PC h z s0 no ss)(A:ru z no=ao):PT h (.Compare s0 [z] [no] pu) (tB ss):=by intro M N T H j U hw;refine RI (aN (G M N T H _ U hw) λv k A=>aN A λu l d=>aN d λc m ⟨n,e,f,g,b⟩=>?_) A;let⟨o,rfl,i⟩:=b;cases g;exact pN ⟨e,f,i⟩
def kn(G:PE h no ss)(M:∀D,isTrue no h.env D=(do let v<-D;pO no.pos;nD [v] (truthy v)):=by intro _;rfl):PT h no (tB ss):=by intro N T U H i c hw;refine RJ (aN (G N T U H _ c hw) λv j ⟨k,d,e,f,g⟩=>?_) (M _);let⟨l,rfl,z⟩:=g;cases f;exact pN ⟨d,e,z⟩
def H6(G u:TT):TT:=λz H A=>G z H λc D=>if c=I then u z D A else A ao D
def H7(G u:TT):TT:=λz H A=>G z H λc D=>if c=I then A I D else u z D A
def H8(z:TT):TT:=λA H D=>z A H λc G=>D (!c) G
def vt(A:PT h no Id):PW h (.BoolOp .And [no] pu) Id:=by
 intro U D G M H N S T;refine isTrue_and (aN (A D G M H N S T) λc d z=>?_);cases c with
 |true=>exact isTrue_and_nil z
 |false=>exact z
def vu(A:PT h no Id):PW h (.BoolOp .Or [no] pu) Id:=by
 intro U D G M H N S T;refine isTrue_or (aN (A D G M H N S T) λc d z=>?_);cases c with
 |false=>exact isTrue_or_nil z
 |true=>exact z
variable{Ws:TT}{tz:List a8}
def vv(N:PT h no Id)(S:PW h (.BoolOp .And (s0::tz) pu) Ws):PW h (.BoolOp .And (no::s0::tz) pu) (H6 Id Ws):=by
 intro T z U A H d e f;refine isTrue_and (aN (N z U A H _ e f) λc g ⟨D,G,M⟩=>?_);cases c with
 |true=>exact S T z g A D d G M
 |false=>exists D,G,M
def vw(N:PT h no Id)(S:PW h (.BoolOp .Or (s0::tz) pu) Ws):PW h (.BoolOp .Or (no::s0::tz) pu) (H7 Id Ws):=by
 intro T z U A H d e f;refine isTrue_or (aN (N z U A H _ e f) λc g ⟨D,G,M⟩=>?_);cases c with
 |true=>exists D,G,M
 |false=>exact S T z g A D d G M
def r7(z:PT h no Id):PT h (.UnaryOp .Not no pu) (H8 Id):=by intro A D G H M N S;exact isTrue_not (z A D G H (λc T=>M (!c) T) N S)
inductive H9 (ss:TE) (D:St) (z:VK) (x:V) (A:U):Prop
 |mk(c:_)(_:x=.bl c)(_:if c=I then ss D A z else z (.bl ao) A)
def Ia(ta tb:TE):TE:=λz H A=>ta z H λD G=>H9 tb z A D G
theorem z5{c}(A:PE h no ss):PE h (.BoolOp c [no] pu) ss:=λD G M H N S hw=>BoolOp_one (A D G M H N S hw)
variable{xL:TE}
def r8(N:PE h no ss)(T:PE h (.BoolOp .And (s0::tz) pu) xL):PE h (.BoolOp .And (no::s0::tz) pu) (Ia ss xL):=by
 intro A U D H d e f;refine BoolOp_and (aN (N A U D H _ e f) λv g ⟨i,G,M,X,z⟩=>?_);let⟨c,rfl,z⟩:=z;cases X;refine pN ?_;cases c with
 |true=>exact T A g D G d M z
 |false=>exists .bl ao,G,M,S,z
def av(K:af)(H:U)(A:Z)(D:List V):Prop:=
 Rd H A (.lst D)\/
  ∃(o:aL) (z:Array J) (G:Nat),K.lookup A=Y o/\o.cls=.type "list"/\o.dict=O/\o.data=.seq z G/\z.size<=aU/\Vals D z.toList
def ax(K:af)(H:U)(A:Z)(D:List V):Prop:=
 Rd H A (.tup D)\/
  ∃(o:aL) (z:Array J) (G:Nat),K.lookup A=Y o/\o.cls=.type "tuple"/\o.data=.seq z G/\z.size<=aU/\Vals D z.toList
def Ib:J->Option V
 |.none=>Y .bw
 |.bool b=>Y (.bl b)
 |.int i _=>Y (.int i)
 |.str x _=>Y (.str x)
 |.bytes b _=>Y (.fO b)
 |.float b _=>Y (.qk b)
 |.ref a=>Y (.ref a)
 |.type n=>Y (.ty n)
 |_=>O
def RelV.abs{u:J}(z:RelV ut u):Ib u=Y ut:=by
 cases ut with
 |bw=>cases z;rfl
 |bl _=>cases z;rfl
 |int _=>let⟨D,rfl⟩:=z;rfl
 |str _=>let⟨D,rfl⟩:=z;rfl
 |fO _=>let⟨D,rfl⟩:=z;rfl
 |qk _=>let⟨D,rfl⟩:=z;rfl
 |ref _=>cases z;rfl
 |ty _=>cases z;rfl
theorem RelV.inj{y:V}{u:J}(A:RelV ut u)(D:RelV y u):ut=y:=aS (A.abs.symm.trans D.abs)
def Vals.inj:∀{D A:List V} {G:List J},Vals D G->Vals A G->D=A:=by
 intro D A G z;induction z generalizing A with
 |nil=>intro z;cases z;rfl
 |cons a e b=>
  intro z;cases z with
  |cons c d=>rw [a.inj c,b d]
theorem av.of{K:af}(z:H d=Y (.lst t3)):av K H d t3:=.inl (.inl z)
theorem ax.of{K:af}(z:H d=Y (.tup t3)):ax K H d t3:=.inl (.inl z)
def Inv.list(N:Inv h pr pv H t)(D:av h.K H d t3):∃z:List J,Vals t3 z/\PlainL t.heap d z.toArray/\t3.length<=aU:=by
 rcases D with D|⟨o,z,G,b,c,hd,a,e,A⟩
 .obtain⟨T,z,G,A,M⟩:=D.ok N.bf;exists z,A,⟨_,G,M,S,S,S⟩,T
 .refine⟨z.toList,A,⟨o,G,N.fb d o b,c,hd,by simpa using a⟩,?_⟩;have M:=A.length
  simp only [rv]at M
  lia
def Inv.tuple(G:Inv h pr pv H t)(D:ax h.K H d t3):∃z:List J,Vals t3 z/\IsTup t.heap d z.toArray/\t3.length<=aU:=by
 rcases D with D|⟨o,z,n,b,c,a,e,A⟩
 .obtain⟨M,z,A,N⟩:=D.ok G.bf;exists z,A,N,M
 .refine⟨z.toList,A,⟨o,G.fb d o b,c,n,by simpa using a⟩,?_⟩;have S:=A.length
  simp only [rv]at S
  lia
variable{V7:List V}
def Inv.z6(z:Inv h pr pv H t)(G:av h.K H d t3)(M:av h.K H d V7):t3=V7:=by
 let⟨N,S,⟨o,e,T,_,_,U⟩,_⟩:=z.list G;let⟨b,c,⟨f,g,A,_,_,D⟩,_⟩:=z.list M;rw [T]at A;cases A;rw [U]at D;injection D with X _;have:N=b:=by simpa using bD Gd X
 subst this;exact S.inj c
def Inv.Ic(z:Inv h pr pv H t)(G:ax h.K H d t3)(M:ax h.K H d V7):t3=V7:=by
 let⟨N,S,⟨o,T,_,e,U⟩,_⟩:=z.tuple G;let⟨b,c,⟨f,A,_,g,D⟩,_⟩:=z.tuple M;rw [T]at A;cases A;rw [U]at D;injection D with X _;have:N=b:=by simpa using bD Gd X
 subst this;exact S.inj c
abbrev Cx.jz(z:Cx)(A:J->ak->Prop):Cx:={z with xe:=A}
abbrev Cx.qn(z:Cx):Cx:=z.jz λ_ _=>False
theorem Cx.Ok.jz(z:h.Ok)(D:J->ak->Prop):(h.jz D).Ok:=
 ⟨z.mod,z.kind,z.glob,z.blt,z.above,z.inj,z.has,z.ml,z.hd,z.frames,z.n8,z.n9,z.bs,z.ip,z.mm,z.mn,z.funs,z.km⟩
theorem Cx.Ok.lg(z:(h.jz s5).Ok):h.Ok:=
 ⟨z.mod,z.kind,z.glob,z.blt,z.above,z.inj,z.has,z.ml,z.hd,z.frames,z.n8,z.n9,z.bs,z.ip,z.mm,z.mn,z.funs,z.km⟩
theorem Inv.jz(z:Inv h pr pv H t)(E:J->ak->Prop):Inv (h.jz E) pr pv H t:=⟨z.ok.jz E,z.os,z.bare,z.base,z.loc,z.cell,z.free,z.gG,z.pin,z.bf,z.len⟩
theorem Inv.lg(z:Inv (h.jz s5) pr pv H t):Inv h pr pv H t:=⟨z.ok.lg,z.os,z.bare,z.base,z.loc,z.cell,z.free,z.gG,z.pin,z.bf,z.len⟩
variable{Ev:Ends}
def SP.lg{N:Flow}(M:SP (h.jz s5) pr Ev N t):SP h pr Ev N t:=by
 cases N with
 |next=>let⟨z,A,D,G⟩:=M;exists z,A,D.lg,G
 |brk=>let⟨z,A,D,G⟩:=M;exists z,A,D.lg,G
 |cont=>let⟨z,A,D,G⟩:=M;exists z,A,D.lg,G
 |ret u=>let⟨v,z,A,D,U,G⟩:=M;exists v,z,A,D.lg,U,G
variable{On:List a7}{IN:TS}
theorem gh.qn(D:gh h.qn On IN):gh h On IN:=λpr t pv H G M hw=>
 g4 (D pr t pv H G (M.jz _) hw) (λ_ _ N=>N.lg) λ_ _ S=>g5 S
def Ie:TS:=λz A H=>z.nx A H
def Ig(t u:TS):TS:=λz A H=>t (z.aN (u z)) A H
theorem bQ:gh h [] Ie:=λ_ _ z H _ A D=>uu ⟨z,H,A,D⟩
variable{wP:a7}{u:TS}
def ar(G:PS h wP IN)(M:gh h On u):gh h (wP::On) (Ig IN u):=by
 intro D N S H A T U;refine RK (aN (G D N S H (A.aN (u A)) T U) λa b z=>?_);cases a with
 |next=>
  let⟨c,d,f,z⟩:=z;exact M D b c d A f z
 |ret v=>exact z
 |brk=>exact z
 |cont=>exact z
def ay(A:PS h wP IN):gh h [wP] IN:=by
 intro D G M H N S T;refine RK (aN (A D G M H N S T) λU a z=>?_);cases U with
 |next=>exact uu z
 |ret v=>exact z
 |brk=>exact z
 |cont=>exact z
def Ih:TS:=λz A H=>z.ct A H
theorem Ii:PS h (.Continue pu) Ih:=λ_ _ z H _ A D=>wpAny_Continue ⟨z,H,A,D⟩
def Inv.quiet{H:U}(G:Inv h pr pv H t):interactive h.env=ao:=by simp [interactive,G.ok.kind]
def Ij(te:TE):TS:=λA z H=>te z H λ_ D=>A.nx z D
def cM(D:PE h no ss)(G:lZ no O pu.line h.env=dA ao:=by rfl):PS h (.Expr no pu) (Ij ss):=by intro M N z H c A T;exact wpAny_Expr_any (aN (D M N z H _ A T) λv d ⟨f,U,a,g,b⟩=>⟨z,U,a,b⟩) A.quiet G
def Ik(te:TE):TS:=λz A H=>te A H z.rt
def aQ(A:PE h no ss):PS h (.Return (Y no) pu) (Ik ss):=by intro D G z H c M N;exact wpAny_Return_some (aN (A D G z H _ M N) λv d ⟨S,T,U,a,b⟩=>⟨S,z,T,U,a,b⟩)
def Il:TS:=λz _ H=>z.rt .bw H
theorem Im:PS h (.Return O pu) Il:=λ_ _ z H _ A D=>wpAny_Return_none ⟨.bw,z,H,A,S,D⟩
def Io(c:TT)(t u:TS):TS:=λA z H=>c z H λG D=>if G=I then t A z D else u A z D
variable{WG:List a7}
def bK{c:a8}(b:PT h c Id)(d:gh h On IN)(f:gh h WG u):PS h (.If c On WG pu) (Io Id IN u):=by
 intro z g A H N X i;refine wpAny_If (aN (b z g A H _ X i) λj S ⟨T,U,a⟩=>?_);cases j with
 |true=>exact d z S A T N U a
 |false=>exact f z S A T N U a
abbrev TG:=V->St->U->(St->U->Prop)->Prop
abbrev mq:=List V->St->U->(St->U->Prop)->Prop
def PG(z:Cx)(T:a8)(a:TG):Prop:=
 ∀(A:List (Z×aL)) (D:ak) (G:St) (H:U) (v:V) (u:J) (M:St->U->Prop),Inv z A G H D->RelV v u->a v G H M->
  aI (aM z.prog z.w) z.A (assign T z.env u) (λ_ b=>∃N S,Inv z A N S b/\M N S) z.xe D
def qo(z:Cx)(b:List a8)(c:mq):Prop:=
 ∀(A:List (Z×aL)) (D:ak) (G:St) (H:U) (M:List V) (N:List J) (S:St->U->Prop),Inv z A G H D->Vals M N->c M G H S->
  aI (aM z.prog z.w) z.A (assignInOrder ((pP b z.env).map (·.2)) N) (λ_ d=>∃T a,Inv z A T a d/\S T a) z.xe D
abbrev vx:=V->V->U->VK->Prop
def Ip(z:Cx)(S:uv)(T:vx):Prop:=
 ∀(A:List (Z×aL)) (D:ak) (G:St) (H:U) (M y:V) (v u:J) (N:VK),Inv z A G H D->RelV M v->RelV y u->T M y H N->
  aI (aM z.prog z.w) z.A (uw S v u) (EP z A G N) z.xe D
def mr(i:Nat):TG:=λv z H A=>A (z.set i (Y v)) H
def Iq{i:Nat}(A:h.N.Nodup)(D:h.N[i]?=Y op)(G:Loc h.env.scope op)(M:h.fn op=I\/h.env.scope.names.lookup op=Y .local):PG h (.Name op pu) (mr i):=by intro a b c H v u d N S T;exact RL (vq N A D G S (λe U=>⟨_,H,U,T⟩) M)
def Ir:mq:=λz A H D=>z=[]/\D A H
inductive Iu (z:TG) (u:mq) (A:List V) (D:St) (H:U) (G:St->U->Prop):Prop
 |mk(v r:_)(_:A=v::r)(_:z v D H λM N=>u r M N G)
def lh:qo h [] Ir:=by intro N S A H T U a D G z;let⟨M,z⟩:=z;subst M;cases G;exact assignInOrder_nil ⟨A,H,D,z⟩
variable{FM:TG}
def gT{u:mq}(T:PG h no FM)(U:qo h tz u)(a:(pP (no::tz) h.env).map (·.2)=assign no h.env::(pP tz h.env).map (·.2):=by rfl):qo h (no::tz) (Iu FM u):=by
 intro N b c H m n d e D G;let⟨v,o,f,G⟩:=G;subst f;cases D with
 |cons D g=>
  rw [a];refine assignInOrder_cons (aN (T N b c H _ _ _ e D G) λ_ X ⟨i,j,k,l⟩=>?_);exact U N X i j _ _ d k g l
inductive z7 (K:af) (n:Nat) (z:mq) (v:V) (A:St) (H:U) (D:St->U->Prop):Prop
 |mk(a xs:_)(_:v=.ref a)(_:ax K H a xs)(_:xs.length=n)(_:z xs A H D)
variable{wE:Nat}
def lj{D:mq}(U:h.calm=I)(a:qo h tz D)(b:(pP tz h.env).length=B:=by rfl) (c:(pP tz h.env).findIdx? (·.1)=O:=by rfl):PG h (.Tuple tz wE pu) (z7 h.K B D):=by
 intro d e f H v u g A X hw;let⟨r,i,j,k,l,hw⟩:=hw;subst j;cases X;let⟨s,M,m,t⟩:=A.tuple k;refine assign_Tuple_tuple (A.ok.hd U) m (by simp [b,<-l,M.length]) c λw n=>?_;have p:=A.kept (t':=e.toks) λq o N=>n q o (fB (dN N)) N
 exact a d _ f H i _ g p (by simpa using M) hw
def vy(A:TE)(D:TG):TS:=λG z H=>A z H λM N=>D M z N G.nx
variable{v6:b2}
def Iv{i:Nat}(M:h.N.Nodup)(N:h.N[i]?=Y op)(T:Loc h.env.scope op)(U:PE h no ss)(a:lZ no (Y (.Name op pu)) v6.line h.env=dA ao:=by rfl)(b:h.fn op=I\/h.env.scope.names.lookup op=Y .local):PS h (.Assign [.Name op pu] no v6) (vy ss (mr i)):=by intro c d e H n f g;refine wpAny_Assign_Name (aN (U c d e H _ f g) λv o ⟨y,X,j,k,l⟩=>?_) a;exact vq j M N T k (λp m=>⟨_,X,m,l⟩) b
inductive Iw (i:Nat) (A:TE) (D:vx) (G:Ends) (z:St) (H:U):Prop
 |mk(x:_)(_:z[i]?=Y (Y x))(_:A z H λy M=>D x y M λN S=>G.nx (z.set i (Y N)) S)
def z8{i:Nat}{N:uv}{e:vx}(l:h.N.Nodup)(f:h.N[i]?=Y op)(S:Loc h.env.scope op)(m:PE h no ss)(n:Ip h N e)(o:h.fn op=I\/h.env.scope.names.lookup op=Y .local):PS h (.AugAssign (.Name op pu) N no v6) (Iw i ss e):=by
 intro T g X H p G U;let⟨v,q,U⟩:=U;let⟨am,r,s⟩:=G.loc;have t:r2 h.env.scope op:=by rcases S with D|D;exact .inl D;exact .inr (.inl D)
 let⟨u,a,w⟩:=s i op v f q t;refine wpAny_AugAssign_Name ?_;have j:aI (aM h.prog h.w) h.A (eval no h.env) (λb x=>aI (aM h.prog h.w) h.A (uw N u b) (λa B=>aI (aM h.prog h.w) h.A (Ga h.env op a) (λ_=>SP h T p .next) h.xe B) h.xe x) h.xe g:=by refine aN (m T g X H _ G U) λb C ⟨y,E,F,K,L⟩=>?_;refine aN (n T C X E v y u b _ F a K L) λan ap ⟨as,P,Q,R,V⟩=>?_;exact vq Q l f S R (λa0 W=>⟨_,P,W,V⟩) o
 rcases w with⟨A,ab⟩|⟨A,c,ad,al⟩
 .exact RC G.ok.kind A r ab j
 .rcases A with A|A
  .exact RD G.ok.kind A ad al j
  .rcases S with D|D
   .have:h.env.scope.names.lookup op=Y .free:=A;rw [D]at this;cases this
   .have:h.env.scope.names.lookup op=Y .free:=A;rw [D]at this;cases this
def Iy(c:TT)(b:TS):TS:=λG z H=>∃D:Nat->St->U->Prop,(∃A,D A z H)/\∀A z H,D A z H->
 c z H λd M=>if d=I then∃N:St->U->Prop,(∀S T,N S T->∃a,a<A/\D a S T)/\b (G.lp N) z M else G.nx z M
def oe{c:a8}{i:TS}(j:PassesOwn (aM h.prog h.w) h.A h.env h.xe)(q:PT h c Id)(r:gh h On i):PS h (.While c On [] pu) (Iy Id i):=by
 intro T R s H V t u;let⟨w,⟨x,y⟩,B⟩:=u;refine wpAny_While (codeAny_whileLoop (λU C=>∃k l,Inv h T k l C/\w U k l) ?_ x ⟨s,H,t,y⟩);rintro U E ⟨D,m,F,K⟩;refine pQ j (aN (q T E D m _ F (B U D m K)) λL P ⟨n,o,G⟩=>?_);cases L with
 |true=>
  let⟨W,p,G⟩:=G;rw [ai S];refine pQ j (aN (r T P D n _ o G) λQ ab M=>?_);cases Q with
  |next=>
   let⟨z,A,a,b⟩:=M;let⟨d,e,f⟩:=p z A b;exists d,e,z,A,a,f
  |cont=>
   let⟨z,A,a,b⟩:=M;let⟨d,e,f⟩:=p z A b;exists d,e,z,A,a,f
  |brk=>exact M
  |ret v=>exact M
 |false=>
  rw [N d5];exact uu ⟨D,n,o,G⟩
structure It where
 go:Nat->U->Prop
 hc:Nat->U->V->U->Prop
 stop:Nat->U->Prop
def i1(A:Cx)(D:List (Z×aL))(H:U)(z:Z):Prop:=
 H z=O/\z≠A.env.locals/\z∉A.fs/\(z∈A.ex\/A.ea.heap.objs.size<=z)/\(∀G c,A.env.cells.lookup G=Y c->c≠z)/\∀M∈A.pn++D,M.1≠z
def Inv.og{H:U}(z:Inv h pr pv H t)(A:t.heap.objs.size<=d)(b:r d=O):i1 h pr r d:=by
 exists b,RM (gM z.lt A),z.HW A,.inr (cu z.sz A),λD c e G=>?_,λf g G=>?_
 .obtain⟨v,M⟩:=z.cell D c e;exact absurd (gM M.lt (G▸A)) (jY _)
 .exact absurd (gM (dN (z.pin f g).1) (G▸A)) (jY _)
structure Turn(N:aw)(w:au)(K:af)(l:a8)(d:It)(S:List Z)(T:Z)(tn:Nat->aD->Prop):Prop where
 mem:T∈S
 obj:∀i b,tn i b->∀G∈S,∃o,b.get? G=Y o/\∀v,o.data≠.cell v
 keep:∀i b h,tn i b->(∀G∈S,∀o,b.get? G=Y o->h.get? G=Y o)->tn i h
 item:∀(z:Cx),z.prog=N->z.w=w->z.K=K->z.calm=I->∀(i:Nat) (M:List (Z×aL)) (D:ak) (c:St) (H:U) (a:J->ak->Prop),Inv z M c H D->(∀G∈S,i1 z M H G)->tn i D.heap->d.go i H->
  aI (aM N w) z.A (pR (.ref T)) (λe f=>∃u,e=Y u/\
   aI (aM N w) z.A (y3 l (.ref T) u) (λ_ j=>∃x g,Inv z M c g j/\RelV x u/\d.hc i H x g/\tn (i+1) j.heap/\∀G∈S,g G=O) a f) a D
 done:∀(z:Cx),z.prog=N->z.w=w->z.K=K->z.calm=I->∀(i:Nat) (M:List (Z×aL)) (D:ak) (c:St) (H:U) (a:J->ak->Prop),Inv z M c H D->(∀G∈S,i1 z M H G)->tn i D.heap->d.stop i H->
  aI (aM N w) z.A (pR (.ref T)) (λe f=>e=O/\Inv z M c H f) a D
 self:∀(A:bZ) (i:Nat) (D:ak) (k:J->ak->Prop) (a:J->ak->Prop),tn i D.heap->k (.ref T) D->aI (aM N w) A (y4 (.ref T)) k a D
abbrev TI:=St->U->(It->U->Prop)->Prop
def vz(z:Cx)(D:List (Z×aL))(a:St)(b:a8)(c:It->U->Prop)(d:J)(G:ak):Prop:=
 ∃(M:Z) (N:List Z) (S:Nat->aD->Prop) (T:It) (A:U),d=.ref M/\Inv z D a A G/\Turn z.prog z.w z.K b T N M S/\S 0 G.heap/\(∀e∈N,i1 z D A e)/\c T A
def PI(z:Cx)(N S:a8)(T:TI):Prop:=
 ∀(D:List (Z×aL)) (G:ak) (A:St) (H:U) (M:It->U->Prop),Inv z D A H G->T A H M->
  aI (aM z.prog z.w) z.A (eval S z.env) (λv a=>aI (aM z.prog z.w) z.A (y4 v) (vz z D A N M) z.xe a) z.xe G
def qp{s:ak}{u:J}{o:aL}{n:String}{U:Array J}(b:s.heap.get? d=Y o)(c:o.cls=.type n)(z:o.data=.fields U)(e:["enumerate","zip","dict_itemiterator","dict_reverseitemiterator","odict_iterator","itertools.zip_longest","itertools.pairwise"].contains n=ao) (A:KE () s):aI Ps sc (y3 no (.ref d) u) KE s5 s:=by
 unfold y3;cases no<;>first
  |exact bu A
  |(cases u<;>first
    |exact bu A
    |(refine aH (wpAny_load b ?_)
      rw [c,z];show aI Ps sc (if(["enumerate","zip","dict_itemiterator","dict_reverseitemiterator","odict_iterator","itertools.zip_longest","itertools.pairwise"].contains n&&U[0]?==Y (rx _))=I then _ else _) KE s5 s
      rw [N (by intro a;rw [e,ux]at a;cases a)];exact bu A))
def hy(K:af)(A:Z):It:=
 ⟨λi H=>∃z D,av K H A z/\z[i]?=Y D,λi H D G=>G=H/\∀z,av K H A z->z[i]?=Y D,λi H=>∃z,av K H A z/\z.length<=i⟩
def qq(K:af)(A:Z):It:=
 ⟨λi H=>∃z D,ax K H A z/\z[i]?=Y D,λi H D G=>G=H/\∀z,ax K H A z->z[i]?=Y D,λi H=>∃z,ax K H A z/\z.length<=i⟩
def ko(A:Int)(z:Nat):It:=⟨λi _=>i<z,λi H D G=>G=H/\D=.int (A+i),λi _=>z<=i⟩
def Iz{K:af}(t D:Z):Turn m p K no (hy K t) [D] D (λi T=>T.IsListIter D t i)where
 mem:=by simp
 obj:=λi T A G M=>by
  have z:G=D:=by simpa using M
  subst z;let⟨o,z,c,d⟩:=A;exact⟨o,z,λv w=>by rw [d]at w;cases w⟩
 keep:=λi T e A F=>A.at λo z=>F D (by simp) o z
 item:=by
  intro L f hw g x i P U Q H R N a A h;subst f hw g;let⟨V,X,b,j⟩:=h;let⟨ab,k,l,ad⟩:=N.list b;let⟨u,al,am⟩:=k.get j;let⟨B,n,an,C,q,r⟩:=a D (by simp);refine wpAny_pyNext_list_item A l.isList (x:=u) (by simpa using al) λe y ap=>?_;have as:=N.turned (t':=U.toks) (λG o M z=>(ap.2 G M).trans z) B n C q r
  let⟨o,z,c,d⟩:=id y;exists u,S,qp (s:={U with heap:=e}) z c d (by decide) ⟨X,H,as,am,⟨S,λa2 a0=>N.z6 a0 b▸j⟩,y,λG M=>(a G M).1⟩
 done:=by
  intro L f hw g x i P U Q H R N a A h;subst f hw g;let⟨V,b,j⟩:=h;let⟨ab,k,l,ad⟩:=N.list b;let⟨B,n,an,C,q,r⟩:=a D (by simp);have a3:=k.length
  exact wpAny_pyNext_list_end (N.ok.hd x) A l.isList (by simp;lia) λe a1=>⟨S,N.turned (t':=U.toks) (λG o M z=>a1 G o M z) B n C q r⟩
 self:=λ_ _ _ _ _ A T=>wpAny_pyIter_listiter A T
def IA{K:af}(a D:Z):Turn m p K no (qq K a) [D] D (λi U=>U.IsTupleIter D a i)where
 mem:=by simp
 obj:=λi U A G M=>by
  have z:G=D:=by simpa using M
  subst z;let⟨o,z,c,e⟩:=A;exact⟨o,z,λv x=>by rw [e]at x;cases x⟩
 keep:=λi U f A L=>A.at λo z=>L D (by simp) o z
 item:=by
  intro P g hw h y i Q T R H V N b A j;subst g hw h;let⟨X,ab,d,k⟩:=j;let⟨l,C,n,ad⟩:=N.tuple d;let⟨u,al,am⟩:=C.get k;let⟨E,q,an,r,t,w⟩:=b D (by simp);refine wpAny_pyNext_tuple_item A (show T.heap.IsTuple a l.toArray from n) (x:=u) (by simpa using al) λf B ap=>?_;have as:=N.turned (t':=T.toks) (λG o M z=>(ap.2 G M).trans z) E q r t w
  let⟨o,z,c,e⟩:=id B;exists u,S,qp (s:={T with heap:=f}) z c e (by decide) ⟨ab,H,as,am,⟨S,λa2 a0=>N.Ic a0 d▸k⟩,B,λG M=>(b G M).1⟩
 done:=by
  intro P g hw h y i Q T R H V N b A j;subst g hw h;let⟨X,d,k⟩:=j;let⟨l,C,n,ad⟩:=N.tuple d;let⟨E,q,an,r,t,w⟩:=b D (by simp);have a3:=C.length
  exact wpAny_pyNext_tuple_end (N.ok.hd y) A (show T.heap.IsTuple a l.toArray from n) (by simp;lia) λf a1=>⟨S,N.turned (t':=T.toks) (λG o M z=>a1 G o M z) E q r t w⟩
 self:=λ_ _ _ _ _ A U=>wpAny_pyIter_tupleiter A U
def IB{y:au}{K:af}(A:Z)(a:Int)(b:Nat):Turn m y K no (ko a b) [A] A (λi M=>IsRangeIter M A (a+(i:Nat)*1) ((b:Int)-(i:Nat)) 1)where
 mem:=by simp
 obj:=λi M z D G=>by
  have N:D=A:=by simpa using G
  subst N;exact⟨_,z,λv C=>by have E:=C;cases E⟩
 keep:=λi M c z F=>F A (by simp) _ z
 item:=by
  intro d f hw g h i r T t H L U e z j;subst f hw g;let⟨k,l,P,x,p,q⟩:=e A (by simp);refine(Walks.range (prog:=d.prog) (w:=d.w) (U.ok.hd h) A a 1 b).item i T _ _ j z λv c u Q w R=>?_;let⟨V,rfl⟩:=Q;have X:Inv d r t H {T with heap:=c,toks:=u}:=U.turned (λD o G N=>R D o (by simpa using G) N) k l x p q
  exists _,S,qp (s:={T with heap:=c,toks:=u}) (n:="range_iterator") w S rfl (by decide) ⟨.int (a+i),H,X,⟨V,?_⟩,⟨S,S⟩,w,λD G=>(e D G).1⟩;rw [Int.mul_one]
 done:=by intro d f hw g h i r T t H L U e z j;subst f hw g;let⟨k,l,P,x,p,q⟩:=e A (by simp);exact wpAny_pyNext_range_end (U.ok.hd h) z (by have:b<=i:=j;lia) λc ab=>⟨S,U.turned (t':=T.toks) (λD o G N=>ab D o G N) k l x p q⟩
 self:=λ_ _ _ _ _ z M=>wpAny_pyIter_rangeiter z M
inductive IC (K:af) (A:It->U->Prop) (x:V) (z:U):Prop
 |mk(a:_)(_:x=.ref a)(_:(∃D,av K z a D))(_:A (hy K a) z)
def ID(K:af)(z:TE):TI:=λA H D=>z A H λG M=>IC K D G M
def IE(K:af)(D:TE):TI:=λG H M=>D G H λN A=>∃z,N=.ref z/\(∃S,ax K A z S)/\M (qq K z) A
def dC(T:PE h no ss):PI h s0 no (ID h.K ss):=by
 intro U a b H m c d;refine aN (T U a b H _ c d) λv A ⟨n,e,D,f,g⟩=>?_;let⟨X,z,⟨p,i⟩,j⟩:=g;subst z;cases f;let⟨q,r,k,s⟩:=D.list i;refine wpAny_pyIter_list k.isList ?_;exists A.heap.objs.size,[A.heap.objs.size],_,_,e,S,D.kept (t':=A.toks) λN o z=>e8 _ z,Iz X _,⟨_,gB _ S,S,S⟩,λN l=>?_,j;have z:N=A.heap.objs.size:=by simpa using l
 subst z;exact D.og (aR _) (D.bf.fresh (aR _))
def IF(U:PE h no ss):PI h s0 no (IE h.K ss):=by
 intro a b c H n d e;refine aN (U a b c H _ d e) λv z ⟨p,f,D,g,X⟩=>?_;let⟨N,A,⟨q,i⟩,j⟩:=X;subst A;cases g;let⟨k,r,l,s⟩:=D.tuple i;refine wpAny_pyIter_tuple (show z.heap.IsTuple N k.toArray from l) ?_;exists z.heap.objs.size,[z.heap.objs.size],_,_,f,S,D.kept (t':=z.toks) λT o A=>e8 _ A,IA N _,⟨_,gB _ S,S,S⟩,λT m=>?_,j;have A:T=z.heap.objs.size:=by simpa using m
 subst A;exact D.og (aR _) (D.bf.fresh (aR _))
variable{wp:Int}{wS:dD}{Wg:It->U->Prop}
def IG{H:U}{A:Int}{u v:dD}(f:Inv h pr pv H t)(g: -(2^62)<=wp)(z:wp<2^62)(i: -(2^62)<=A)(j:A<2^62)(k:Wg (ko wp (A-wp).toNat) H):aI (aM h.prog h.w) h.A (y4 (.ref t.heap.objs.size)) (vz h pr pv no Wg) s5 {t with heap:=t.heap.push {cls:=.type "range",data:=.fields #[.int wp wS,.int A u,.int 1 v]},toks:=B}:=by
 refine wpAny_pyIter_range (IsRange.new ..) (small_one g z i j) ?_;have b:Inv h pr pv H {t with heap:=t.heap.push {cls:=.type "range",data:=.fields #[.int wp wS,.int A u,.int 1 v]},toks:=B}:=f.kept λc o M=>e8 _ M
 exists (t.heap.push {cls:=.type "range",data:=.fields #[.int wp wS,.int A u,.int 1 v]}).objs.size,[(t.heap.push {cls:=.type "range",data:=.fields #[.int wp wS,.int A u,.int 1 v]}).objs.size],_,_,H,S,b.kept (t':=B) λc o M=>e8 _ M,IB _ wp (A-wp).toNat,?_,λc l=>?_,k
 .have m:wp+((0:Nat):Int)*1=wp:=by simp
  have n:(((A-wp).toNat:Nat):Int)-((0:Nat):Int)=Uo wp A 1:=by rw [rangeSize_one];split<;>lia
  rw [m,n];exact gB _ S
 .have M:c=(t.heap.push {cls:=.type "range",data:=.fields #[.int wp wS,.int A u,.int 1 v]}).objs.size:=by simpa using l
  subst M;exact b.og (aR _) (b.bf.fresh (aR _))
inductive IH (z:It->U->Prop) (A:List V) (D:U):Prop
 |mk(j:Int)(_:A=[.int j])(_: -(2^62)<=j)(_:j<2^62)(_:z (ko 0 j.toNat) D)
def II(z:TA):TI:=λA H D=>z A H λG M=>IH D G M
variable{Ix:TA}
def z9(T:Gl h "range")(U:h.G "range"=O)(a:PA h [no] Ix)(b:cA [no] h.env=[(ao,eval no h.env)]:=by rfl):PI h s0 (.Call (.Name "range" v6) [no] [] pu) (II Ix):=by
 intro c d e H n M f;refine Call_ (r5 M T U boot_range (Ge (aN (a pu c d e H _ M f) λo p ⟨q,r,g,X,A⟩=>?_) b S));let⟨s,i,A,j,k⟩:=A;subst i;cases X with
 |cons l m=>
  cases m;let⟨t,rfl⟩:=l;exact call_range_1 (IG g (by lia) (by lia) A j (by simpa using k))
def IJ(c:TI)(d:TG)(e:TS):TS:=λN z H=>c z H λG f=>∃M:Nat->Nat->St->U->Prop,(∃D,M 0 D z f)/\∀i D z H,M i D z H->
 (G.stop i H/\N.nx z H)\/(G.go i H/\∃S:St->U->Prop,(∀T A,S T A->∃a,a<D/\M (i+1) a T A)/\∀b A,G.hc i H b A->d b z A λg h=>e (N.lp S) g h)
def qr(A:List Z)(D:aD):List (Z×aL):=A.filterMap λz=>(D.get? z).map λo=>(z,o)
theorem vA{o:aL}(G:d∈v2)(M:P.get? d=Y o):(d,o)∈qr v2 P:=j0.mpr ⟨d,G,by rw [M];rfl⟩
def IK{z:Z×aL}(M:z∈qr v2 P):z.1∈v2/\P.get? z.1=Y z.2:=by
 let⟨N,S,A⟩:=j0.mp M;cases a:P.get? N with
 |none=>rw [a]at A;cases A
 |some o=>
  rw [a]at A;have T:=aS A
  subst T;exists S,a
theorem Inv.pinned{H:U}(T:Inv h pr pv H t)(d:∀G∈v2,i1 h pr H G)(e:∀G∈v2,∃o,t.heap.get? G=Y o/\∀v,o.data≠.cell v):Inv h (pr++qr v2 t.heap) pv H t:=
 T.z3 λM f=>(bR.mp f).elim (λN=>T.pin M (eH _ N)) λN=>by let⟨a,b⟩:=IK N;let⟨g,z,i,_⟩:=d M.1 a;let⟨o,c,j⟩:=e M.1 a;rw [b]at c;cases c;exists b,g,z,i,j
theorem Inv.r9{pins:List (Z×aL)}{H:U}(D:Inv h (pins++pr) pv H t):Inv h pins pv H t:=D.z3 λM N=>D.pin M (eH _ (gN _ N))
def d3{w:TI}{y:TS}(c:PassesOwn (aM h.prog h.w) h.A h.env h.xe)(B:h.calm=I)(an:PI h s0 no w)(ap:PG h s0 FM)(A:gh h On y)(as:∀d,y5 no h.env d=dA d:=by intro _;rfl):PS h (.For s0 no On [] pu) (IJ w FM y):=by
 intro b a0 C H c7 a1 a2;refine wpAny_For (aN (an b a0 C H _ a1 a2) λv c8 a3=>aN a3 λc9 db a4=>?_) as;let⟨dd,e,E,dl,a5,f,bd,g,be,F,K,⟨bi,bk⟩,bl⟩:=a4;subst f;have p:∀{T:U},(∀z∈e,T z=O)->∀z∈e,i1 h b T z:=λbm z A=>⟨bm z A,(F z A).2⟩
 refine codeAny_forLoop_any (λl L=>∃i X T,Inv h b X T L/\E i L.heap/\(∀z∈e,T z=O)/\K i l X T) ?_ bi ⟨0,C,a5,bd,be,λz A=>(F z A).1,bk⟩;rintro l P ⟨i,j,m,Q,R,V,bn⟩;rcases bl i l j m bn with⟨stop,bs⟩|⟨go,N,bt,step⟩
 .refine pQ c (aN (g.done h S rfl rfl B i b P j m h.xe Q (p V) R stop) λbv ca ⟨q,cd⟩=>?_);subst q;exact uu ⟨j,m,cd,bs⟩
 .refine pQ c (aN (g.item h S rfl rfl B i b P j m h.xe Q (p V) R go) λbv ca ⟨u,q,ce⟩=>?_);subst q;refine pQ c (aN ce λ_ W ⟨d,ab,ch,ci,cl,r,cn⟩=>?_);refine pQ c (aN (ap _ W j ab d u _ (ch.pinned (p cn) (g.obj _ _ r)) ci (step d ab cl)) λ_ co ⟨cr,cs,ct,c0⟩=>?_);refine pQ c (aN (A _ co cr cs _ ct c0) λc1 s a=>?_);have ad:∀{D:St} {G:U},Inv h (b++qr e W.heap) D G s->N D G->∃al,al<l/\∃i X T,Inv h b X T s/\E i s.heap/\(∀z∈e,T z=O)/\K i al X T:=λ{D G} M k=>by
   let⟨c2,c3,c4⟩:=bt D G k;exists c2,c3,i+1,D,G,M.r9,g.keep _ _ _ r λz A o f=>(M.pin (z,o) (eH _ (eH _ (vA A f)))).1,λz A=>?_,c4;let⟨o,f,dp⟩:=g.obj _ _ r z A;exact(M.pin (z,o) (eH _ (eH _ (vA A f)))).2.1
  cases c1 with
  |next=>let⟨D,G,M,k⟩:=a;exact ad M k
  |cont=>let⟨D,G,M,k⟩:=a;exact ad M k
  |brk=>let⟨D,G,M,a⟩:=a;exists D,G,M.r9,a
  |ret v=>let⟨c5,D,G,M,c6,a⟩:=a;exists c5,D,G,M.r9,c6,a
def fw{K:af}{xs:List V}{H:U}(A:Nat->St->U->Prop)(n:A 0 pv H)(o:∀i pv H,i<=xs.length->A i pv H->av K H d xs)(p:∀i D pv H,xs[i]?=Y D->A i pv H->FM D pv H λa b=>IN (Ev.lp (A (i+1))) a b) (q:∀pv H,A xs.length pv H->Ev.nx pv H):∃c:Nat->Nat->St->U->Prop,(∃G,c 0 G pv H)/\∀i G pv H,c i G pv H->((hy K d).stop i H/\Ev.nx pv H)\/((hy K d).go i H/\∃k:St->U->Prop,(∀z M,k z M->∃l,l<G/\c (i+1) l z M)/\∀D M,(hy K d).hc i H D M->FM D pv M λa b=>IN (Ev.lp k) a b):=by
 exists λi G pv H=>G=xs.length-i/\i<=xs.length/\A i pv H,⟨xs.length,by simp,cP _,n⟩,?_;rintro i G pv H ⟨rfl,r,e⟩;have f:=o i pv H r e
 by_cases m:i<xs.length
 .refine .inr ⟨⟨xs,xs[i],f,by simp [m]⟩,A (i+1),λz M s=>⟨xs.length-(i+1),by lia,S,m,s⟩,λD M y=>?_⟩;let⟨g,y⟩:=y;subst g;exact p i D pv _ (y xs f) e
 .have g:i=xs.length:=by lia
  subst g;exact .inl ⟨⟨xs,f,aR _⟩,q pv H e⟩
def IL{K:af}{xs:List V}{H:U}(A:Nat->St->U->Prop)(n:A 0 pv H)(o:∀i pv H,i<=xs.length->A i pv H->ax K H d xs)(p:∀i D pv H,xs[i]?=Y D->A i pv H->FM D pv H λa b=>IN (Ev.lp (A (i+1))) a b) (q:∀pv H,A xs.length pv H->Ev.nx pv H):∃c:Nat->Nat->St->U->Prop,(∃G,c 0 G pv H)/\∀i G pv H,c i G pv H->((qq K d).stop i H/\Ev.nx pv H)\/((qq K d).go i H/\∃k:St->U->Prop,(∀z M,k z M->∃l,l<G/\c (i+1) l z M)/\∀D M,(qq K d).hc i H D M->FM D pv M λa b=>IN (Ev.lp k) a b):=by
 exists λi G pv H=>G=xs.length-i/\i<=xs.length/\A i pv H,⟨xs.length,by simp,cP _,n⟩,?_;rintro i G pv H ⟨rfl,r,e⟩;have f:=o i pv H r e
 by_cases m:i<xs.length
 .refine .inr ⟨⟨xs,xs[i],f,by simp [m]⟩,A (i+1),λz M s=>⟨xs.length-(i+1),by lia,S,m,s⟩,λD M y=>?_⟩;let⟨g,y⟩:=y;subst g;exact p i D pv _ (y xs f) e
 .have g:i=xs.length:=by lia
  subst g;exact .inl ⟨⟨xs,f,aR _⟩,q pv H e⟩
def IM{H:U}(M:Nat->St->U->Prop)(n:M 0 pv H)(o:∀i pv H,i<B->M i pv H->FM (.int (wp+i)) pv H λa b=>IN (Ev.lp (M (i+1))) a b) (p:∀pv H,M B pv H->Ev.nx pv H):∃c:Nat->Nat->St->U->Prop,(∃D,c 0 D pv H)/\∀i D pv H,c i D pv H->((ko wp B).stop i H/\Ev.nx pv H)\/((ko wp B).go i H/\∃k:St->U->Prop,(∀d G,k d G->∃l,l<D/\c (i+1) l d G)/\∀e G,(ko wp B).hc i H e G->FM e pv G λa b=>IN (Ev.lp k) a b):=by
 exists λi D pv H=>D=B-i/\i<=B/\M i pv H,⟨B,by simp,cP _,n⟩,?_;rintro i D pv H ⟨rfl,r,m⟩;by_cases f:i<B
 .refine .inr ⟨f,M (i+1),λd G q=>⟨B-(i+1),by lia,S,f,q⟩,λe G y=>?_⟩;let⟨g,y⟩:=y;subst g y;exact o i pv _ f m
 .have g:i=B:=by lia
  subst g;exact .inl ⟨aR _,p pv H m⟩
abbrev R2:=V->V->U->VK->Prop
def eD(z:Cx)(S:J->J->fC J)(T:R2):Prop:=
 ∀(A:List (Z×aL)) (D:ak) (G:St) (H:U) (M y:V) (v u:J) (N:VK),Inv z A G H D->RelV M v->RelV y u->T M y H N->
  aI (aM z.prog z.w) z.A (S v u) (EP z A G N) z.xe D
def vB(z:Cx)(S:J->fC J)(T:V->U->VK->Prop):Prop:=
 ∀(A:List (Z×aL)) (D:ak) (G:St) (H:U) (M:V) (v:J) (N:VK),Inv z A G H D->RelV M v->T M H N->
  aI (aM z.prog z.w) z.A (S v) (EP z A G N) z.xe D
def hA(z:Cx)(T:J)(a:List V->U->VK->Prop):Prop:=
 ∀(A:List (Z×aL)) (D:ak) (G:St) (H:U) (M:List V) (N:List J) (S:VK),Inv z A G H D->Vals M N->a M H S->
  aI (aM z.prog z.w) z.A (gO T N) (EP z A G S) z.xe D
def IP(z:Cx)(S:V->U->(Bool->U->Prop)->Prop):Prop:=
 ∀(A:List (Z×aL)) (D:ak) (G:St) (H:U) (M:V) (v:J) (N:Bool->U->Prop),Inv z A G H D->RelV M v->S M H N->
  aI (aM z.prog z.w) z.A (truthy v) (TP z A G N) z.xe D
def sb(A:R2)(D G:TE):TE:=λz H M=>D z H λN S=>G z S λy T=>A N y T M
def IQ(z:V->U->VK->Prop)(A:TE):TE:=λD H G=>A D H λM N=>z M N G
inductive kq (z:Int->Int->V) (x:V) (y:V) (H:U) (A:VK):Prop
 |mk(i j:_)(_:x=.int i)(_:y=.int j)(_:A (z i j) H)
inductive rU (z:Int->V) (x:V) (H:U) (A:VK):Prop
 |mk(i:_)(_:x=.int i)(_:A (z i) H)
variable{V2:J->J->fC J}
def vC(f:PE h no ss)(g:PE h s0 xL){H:U}{T:V->V->U->Prop}(X:Inv h pr pv H t)(i:ss pv H λA S=>xL pv S λy D=>T A y D)  (j:∀v u M A y D,Inv h pr pv D M->RelV A v->RelV y u->T A y D->aI (aM h.prog h.w) h.A (V2 v u) s5 h.xe M):aI (aM h.prog h.w) h.A (eval no h.env) (λv k=>aI (aM h.prog h.w) h.A (eval s0 h.env) (λu l=>aI (aM h.prog h.w) h.A (V2 v u) s5 h.xe l) h.xe k) h.xe t:=by refine aN (f pr t pv H _ X i) λv m ⟨A,S,n,o,p⟩=>?_;refine aN (g pr m pv S _ n p) λu M ⟨y,D,q,r,s⟩=>?_;exact j v u M A y D q o r s
variable{Tl:R2}
def hg{z:uv}(D:eD h (y6 z) Tl)(G:PE h no ss)(M:PE h s0 xL):PE h (.BinOp no z s0 pu) (sb Tl ss xL):=by intro N l S H T U d;exact wpAny_BinOp (vC G M U d λv u e f y g X i j k=>D N e S g f y v u T X i j k)
def vD{z:UnaryOp}{A:V->U->VK->Prop}(M:vB h (unaryOp z) A)(N:PE h no ss):PE h (.UnaryOp z no pu) (IQ A ss):=by intro D S G H T d e;exact UnaryOp_ (aN (N D S G H _ d e) λv f ⟨g,X,i,j,k⟩=>M D f G X g v T i j k)
def vE{D:Int->Int->Int}(T:∀(i z:Int) (G u:dD) (A:ak) (M:J->ak->Prop) (U:J->ak->Prop),M (.int (D i z) A.toks) {A with toks:=A.toks+1}->aI (aM h.prog h.w) h.A (V2 (.int i G) (.int z u)) M U A):eD h V2 (kq λi z=>.int (D i z)):=by intro k A l H m y v u M d e f g;let⟨i,z,rfl,rfl,X⟩:=g;let⟨G,rfl⟩:=e;let⟨j,rfl⟩:=f;exact T i z G j A _ _ ⟨.int (D i z),H,d.tok _,⟨_,S⟩,X⟩
def sd{D:Int->Int->Bool}(T:∀(i z:Int) (G u:dD) (A:ak) (M:J->ak->Prop) (U:J->ak->Prop),M (.bool (D i z)) A->aI (aM h.prog h.w) h.A (V2 (.int i G) (.int z u)) M U A):eD h V2 (kq λi z=>.bl (D i z)):=by intro k A l H m y v u M d e f g;let⟨i,z,rfl,rfl,X⟩:=g;let⟨G,rfl⟩:=e;let⟨j,rfl⟩:=f;exact T i z G j A _ _ ⟨.bl (D i z),H,d,S,X⟩
theorem se:eD h (y6 .Add) (kq λi z=>.int (i+z)):=vE λ_ _ _ _ _ _ _ A=>add_int A
theorem vF:eD h (y6 .Sub) (kq λi z=>.int (i-z)):=vE λ_ _ _ _ _ _ _ A=>sub_int A
theorem IS:eD h (uw .Add) (kq λi z=>.int (i+z)):=vE λ_ _ _ _ _ _ _ A=>RN A
def IT{M:J->fC J}{A:Int->Int}(N:∀(i:Int) (D:dD) (z:ak) (G:J->ak->Prop) (T:J->ak->Prop),G (.int (A i) z.toks) {z with toks:=z.toks+1}->aI (aM h.prog h.w) h.A (M (.int i D)) G T z):vB h M (rU λi=>.int (A i)):=by intro g z X H j v G U d e;let⟨i,rfl,f⟩:=e;let⟨D,rfl⟩:=d;exact N i D z _ _ ⟨.int (A i),H,U.tok _,⟨_,S⟩,f⟩
theorem vG:vB h (unaryOp .USub) (rU λi=>.int (-i)):=IT λ_ _ _ _ _ z=>neg_int z
def Aa:V->V->Bool
 |.bw,.bw=>I|.bw,.int _=>I|.int _,.bw=>I|.bw,.bl _=>I|.bl _,.bw=>I|.bw,.str _=>I|.str _,.bw=>I
 |.int _,.int _=>I|.bl _,.bl _=>I|.str _,.str _=>I|.fO _,.fO _=>I
 |.int _,.str _=>I|.str _,.int _=>I|.bl _,.str _=>I|.str _,.bl _=>I
 |_,_=>ao
def IU:R2:=λz y H A=>Aa z y=I/\A (.bl (decide (z=y))) H
def IV:R2:=λz y H A=>Aa z y=I/\A (.bl (!decide (z=y))) H
def Ab{i:Int}:decide (V.int i=V.int wp)=(i==wp):=by rw [ic];simp
variable{Tm:Bool}
def Ac{i:Bool}:decide (V.bl i=V.bl Tm)=(i==Tm):=by rw [ic];simp
def Ad{i:aa}:decide (V.str i=V.str op)=(i==op):=by rw [ic];simp
def Ae{i z:Array UInt8}:decide (V.fO i=V.fO z)=(i.toList==z.toList):=by rw [ic];cases i;cases z;simp
variable{IR:VK}{Wb:Bool}
def dV{H:U}(T:Inv h pr pv H t)(d:IR (.bl Tm) H)(e:Tm=Wb):EP h pr pv IR (.bool Wb) t:=by subst e;exists .bl Tm,H,T,S,d
def cT:eD h (fD .Eq) IU:=by
 intro f g X H U y v u j z N A e;let⟨M,D⟩:=e;cases U with
 |bw=>
  cases N;cases y with
  |bw=>cases A;exact Up (dV z D (by simp))
  |bl d=>cases A;exact Uq (dV z D (by simp))
  |int d=>let⟨G,rfl⟩:=A;exact Ur (dV z D (by simp))
  |str d=>let⟨G,rfl⟩:=A;exact Us (dV z D (by simp))
  |_=>exact absurd (show ao=I from M) d5
 |bl i=>
  cases N;cases y with
  |bw=>cases A;exact Ut (dV z D (by simp))
  |bl d=>cases A;exact eq_bool (dV z D Ac)
  |str d=>let⟨G,rfl⟩:=A;exact Uu (dV z D (by simp))
  |_=>exact absurd (show ao=I from M) d5
 |int i=>
  let⟨T,rfl⟩:=N;cases y with
  |bw=>cases A;exact Uv (dV z D (by simp))
  |int d=>let⟨G,rfl⟩:=A;exact eq_int (dV z D Ab)
  |str d=>let⟨G,rfl⟩:=A;exact Uw (dV z D (by simp))
  |_=>exact absurd (show ao=I from M) d5
 |str i=>
  let⟨T,rfl⟩:=N;cases y with
  |bw=>cases A;exact Ux (dV z D (by simp))
  |bl d=>cases A;exact Uy (dV z D (by simp))
  |int d=>let⟨G,rfl⟩:=A;exact Uz (dV z D (by simp))
  |str d=>let⟨G,rfl⟩:=A;exact eq_str (dV z D Ad)
  |_=>exact absurd (show ao=I from M) d5
 |fO i=>
  let⟨T,rfl⟩:=N;cases y with
  |fO d=>let⟨G,rfl⟩:=A;exact PySem.W.eq_bytes (dV z D Ae)
  |_=>exact absurd (show ao=I from M) d5
 |_=>cases y<;>exact absurd (show ao=I from M) d5
def qt:eD h (fD .NotEq) IV:=by
 intro f g X H U y v u j z N A e;let⟨M,D⟩:=e;cases U with
 |bw=>
  cases N;cases y with
  |bw=>cases A;exact UA (dV z D (by simp))
  |bl d=>cases A;exact UB (dV z D (by simp))
  |int d=>let⟨G,rfl⟩:=A;exact UC (dV z D (by simp))
  |str d=>let⟨G,rfl⟩:=A;exact UD (dV z D (by simp))
  |_=>exact absurd (show ao=I from M) d5
 |bl i=>
  cases N;cases y with
  |bw=>cases A;exact UE (dV z D (by simp))
  |bl d=>cases A;exact ne_bool (dV z D (bD not Ac))
  |str d=>let⟨G,rfl⟩:=A;exact UG (dV z D (by simp))
  |_=>exact absurd (show ao=I from M) d5
 |int i=>
  let⟨T,rfl⟩:=N;cases y with
  |bw=>cases A;exact UH (dV z D (by simp))
  |int d=>let⟨G,rfl⟩:=A;exact ne_int (dV z D (bD not Ab))
  |str d=>let⟨G,rfl⟩:=A;exact UI (dV z D (by simp))
  |_=>exact absurd (show ao=I from M) d5
 |str i=>
  let⟨T,rfl⟩:=N;cases y with
  |bw=>cases A;exact UJ (dV z D (by simp))
  |bl d=>cases A;exact UK (dV z D (by simp))
  |int d=>let⟨G,rfl⟩:=A;exact UL (dV z D (by simp))
  |str d=>let⟨G,rfl⟩:=A;exact ne_str (dV z D (bD not Ad))
  |_=>exact absurd (show ao=I from M) d5
 |fO i=>
  let⟨T,rfl⟩:=N;cases y with
  |fO d=>let⟨G,rfl⟩:=A;exact PySem.W.ne_bytes (dV z D (bD not Ae))
  |_=>exact absurd (show ao=I from M) d5
 |_=>cases y<;>exact absurd (show ao=I from M) d5
theorem sf:eD h (fD .Lt) (kq λi z=>.bl (decide (i<z))):=sd λ_ _ _ _ _ _ _ A=>lt_int A
theorem vH:eD h (fD .LtE) (kq λi z=>.bl (decide (i<=z))):=sd λ_ _ _ _ _ _ _ A=>le_int A
theorem vI:eD h (fD .Gt) (kq λi z=>.bl (decide (z<i))):=sd λ_ _ _ _ _ _ _ A=>gt_int A
theorem IW:eD h (fD .GtE) (kq λi z=>.bl (decide (z<=i))):=sd λ_ _ _ _ _ _ _ A=>ge_int A
def IX:eD h (fD .IsNot) (λz y H A=>y=.bw/\A (.bl (!decide (z=.bw))) H):=by
 intro U d e H z y v u A G D M N;let⟨rfl,T⟩:=N;cases M;refine RG (dV G T ?_);cases z<;>first
  |(cases D;rfl)
  |(let⟨f,rfl⟩:=D;rfl)
def bV(b:a8){z:pM}(A:z≠.In:=by decide)(D:z≠.NotIn:=by decide):ru z b=ao:=by
 have G:(z==CmpOp.In)=ao:=by cases z<;>first|rfl|exact absurd rfl A
 have M:(z==CmpOp.NotIn)=ao:=by cases z<;>first|rfl|exact absurd rfl D
 cases b<;>simp [ru,G,M]
def oh{z:pM}(D:eD h (fD z) Tl)(G:PE h s0 ss)(M:PE h no xL)(N:ru z no=ao):PE h (.Compare s0 [z] [no] pu) (sb Tl ss xL):=by intro S m T H U d e;exact RH (vC G M d e λv u f g y X i j k l=>D S f T X g y v u U i j k l) N
inductive IY (z:Bool->U->Prop) (x:V) (A:U):Prop
 |mk(k:_)(_:x=.bl k)(_:z k A)
def IZ(z:TE):TT:=λA H D=>z A H λG M=>IY D G M
variable{c:a8}
def bS{z:pM}(M:eD h (fD z) Tl)(N:PE h s0 ss)(S:PE h no xL)(T:ru z no=ao):PT h (.Compare s0 [z] [no] pu) (IZ (sb Tl ss xL)):=by intro A U D H x d e;refine RI (aN (N A U D H _ d e) λv f ⟨g,X,i,j,k⟩=>aN (S A f D X _ i k) λu l ⟨y,m,n,o,p⟩=>aN (M A l D m g y v u _ n j o p) λc B ⟨C,q,r,s,E,t,w⟩=>?_) T;subst t;cases s;exact pN ⟨q,r,w⟩
def I0(M N:R2)(ta tb tc:TE):TE:=λz H A=>ta z H λS T=>tb z T λy U=>M S y U λd D=>∃G,d=.bl G/\
 (if G=I then tc z D λe f=>N y e f A else A (.bl ao) D)
variable{V8:TE}
def I1{D G:pM}{N:R2}(f:eD h (fD D) Tl)(g:eD h (fD G) N)(X:PE h s0 ss)(i:PE h no xL)(j:PE h c V8)(k:lastMarks [D,G] [no,c]=ao:=by with_unfolding_all rfl):PE h (.Compare s0 [D,G] [no,c] pu) (I0 Tl N ss xL V8):=by
 intro z l A H m n o;refine Compare_chain (aN (X z l A H _ n o) λv p ⟨q,r,s,t,w⟩=>chain_link (aN (i z p A r _ s w) λu x ⟨y,B,C,T,E⟩=>aN (f z x A B q y v u _ C t T E) λam F ⟨an,U,d,K,L,P,e⟩=>?_)) k;subst P;cases K;refine pN ?_;cases L with
 |false=>exact ite_ff ⟨.bl ao,U,d,S,e⟩
 |true=>exact ite_tt (chain_last (aN (j z F A U _ d e) λQ R ⟨V,W,ab,ad,al⟩=>g z R A W y V u Q m ab T ad al))
def Af(K:af)(G:V)(H:U)(z:Bool):Prop:=
 match G with
 |.bw=>z=ao
 |.bl no=>z=no
 |.int i=>z=(i !=0)
 |.str y=>y.length<=aU/\z=((y.length:Int) !=0)
 |.fO y=>y.size<=aU/\z=((y.size:Int) !=0)
 |.ref p=>(∃A,av K H p A/\z= !A.isEmpty)\/(∃A,ax K H p A/\z= !A.isEmpty)\/∃D,H p=Y (.dK D)/\z= !D.isEmpty
 |_=>False
def I2{A:List (sB×V)}{D:List (sB×J)}(G:KV A D):(!D.isEmpty)= !A.isEmpty:=by cases G<;>rfl
def Ag(D:Vals t3 t0):(!t0.toArray.isEmpty)= !t3.isEmpty:=by cases D<;>simp
def oi:(aU:Nat)<2^63:=by rw [y7];decide
def I3:IP h (λg H j=>∃A,Af h.K g H A/\j A H):=by
 intro u n w H g v j D U o;let⟨A,N,G⟩:=o;have x:=oi
 have B:aU=16777216:=y7;cases g with
 |bw=>
  cases U;have z:A=ao:=N
  subst z;exact truthy_none ⟨H,D,G⟩
 |bl no=>
  cases U;have z:A=no:=N
  subst z;exact pN ⟨H,D,G⟩
 |int i=>
  let⟨k,rfl⟩:=U;have z:A=(i !=0):=N
  subst z;exact PySem.P.truthy_int ⟨H,D,G⟩
 |str y=>
  let⟨k,rfl⟩:=U;obtain⟨q,z⟩:y.length<=aU/\A=((y.length:Int) !=0):=N;subst z;exact PySem.P.truthy_str (by lia) ⟨H,D.tok _,G⟩
 |fO y=>
  let⟨k,rfl⟩:=U;obtain⟨q,z⟩:y.size<=aU/\A=((y.size:Int) !=0):=N;subst z;exact PySem.W.truthy_bytes (by lia) ⟨H,D.tok _,G⟩
 |ref p=>
  cases U;have z:(∃T,av h.K H p T/\A= !T.isEmpty)\/(∃T,ax h.K H p T/\A= !T.isEmpty)\/∃d,H p=Y (.dK d)/\A= !d.isEmpty:=N
  rcases z with⟨T,e,z⟩|⟨T,e,z⟩|⟨d,e,z⟩
  .subst z;let⟨r,M,X,l⟩:=D.list e;have m:=M.length
   exact wpAny_truthy_list X.isList (by simp only [eY];lia) ⟨H,D.tok _,by rw [Ag M];exact G⟩
  .subst z;let⟨r,M,X,l⟩:=D.tuple e;have m:=M.length
   exact truthy_tuple X (by simp only [eY];lia) ⟨H,D.tok _,by rw [Ag M];exact G⟩
  .subst z;obtain⟨l,s,f,M,t⟩:d.length<=aU/\(p==er)=ao/\∃f,KV d f/\n.heap.DictOf (eK h.prog h.w) p f:=D.bf p _ e;have m:d.length=f.length:=bO M
   exact wpAny_truthy_dict s t (by lia) ⟨H,D.tok _,by rw [I2 M];exact G⟩
 |_=>exact(show False from N).elim
def sg(T:PE h no ss)(U:∀G,isTrue no h.env G=(do let v<-G;pO no.pos;nD [v] (truthy v))):PT h no (λz H A=>ss z H λD M=>∃N,Af h.K D M N/\A N M):=by intro S d z H A e f;exact RJ (aN (T S d z H _ e f) λv g ⟨D,X,i,j,k⟩=>I3 S g z X D v A i j k) (U _)
def I4:eD h (uw .Add) (λA y H D=>∃i z,A=.str i/\y=.str z/\i.length+z.length<=aU/\D (.str (i++z)) H):=by intro f g X H A y v u D G M N T;let⟨i,z,rfl,rfl,U,d⟩:=T;let⟨j,rfl⟩:=M;let⟨e,rfl⟩:=N;exact iadd_str (λe k=>⟨.str (i++z),H,G.tok _,⟨_,S⟩,d⟩) U
def vals1(D:Vals [ut] t0):∃u,t0=[u]/\RelV ut u:=by
 cases D with
 |cons d e=>cases e;exists _,S,d
def vals2{y:V}(G:Vals [ut,y] t0):∃u D,t0=[u,D]/\RelV ut u/\RelV y D:=by
 cases G with
 |cons d e=>
  cases e with
  |cons f g=>cases g;exists _,_,S,d,f
def I5(T:h.calm=I):hA h (.builtin "min") (λD H G=>∃i z,D=[.int i,.int z]/\G (.int (if z<i then z else i)) H):=by
 intro g X j H D k G M U d;let⟨i,z,rfl,e⟩:=d;let⟨u,l,rfl,⟨m,rfl⟩,⟨n,rfl⟩⟩:=vals2 U;refine min_two_ints (M.ok.hd T) λo p f=>⟨_,H,M.kept f,?_,e⟩
 by_cases A:z<i
 .rw [ai A,ai A];exists _,S
 .rw [N A,N A];exists _,S
def Ah:hA h (.builtin "ord") (λA H D=>∃z,A=[.str z]/\z.length=1/\D (.int (z.cps.getD 0 0:Nat)) H):=by intro d e f H A g D G M N;let⟨z,rfl,T,U⟩:=N;let⟨u,rfl,X,rfl⟩:=vals1 M;exact ord_of_one T ⟨.int _,H,G.tok _,⟨_,S⟩,U⟩
structure mu(A:aD)(x z D:Z)(G:aa->Option J):Prop where
 obj:A.get? x=Y (nC D z)
 ns:A.Ns1 z G
 ne:z≠x
set_option tactic.hygienic true
variable{L:aa->Option J}
def I6(U:P.Ns1 d L):∃S,P.get? d=Y S/\∀name,y8 name S=Y (L name):=by
 let⟨o,T,i,a,b,c,_,D⟩:=U;exists o,a,λname=>?_;have z:=D name
 unfold nsFind findBy at z;rw [<-Array.find?_toList]at z;unfold y8;rw [b];dsimp only;split
 .rename_i y A;rw [A]at z;exact bD Y z
 .rename_i A;rw [A]at z;have e:T.toList.any (·.refKey)=ao:=by
   rw [List.any_eq_false];intro y f;let⟨j,k,g⟩:=c y (RO.mp f);simp [UM,g]
  have h:¬T.toList.any (·.refKey)=I:=e▸d5;rw [N h];exact bD Y z
set_option tactic.hygienic false
variable{Q:Z}
theorem mu.look(T:mu P q Q d L):∃z,PySem.W.InstAt P q (nC d Q) d (Y z)/\∀name,y8 name z=Y (L name):=
 let⟨z,U,a⟩:=I6 T.ns
 ⟨z,⟨T.obj,S,S,U⟩,a⟩
variable{K:af}{v:J}
def get_map(G:K.In t.heap)(M:mu t.heap q Q d L)(N:y9 K d op=I)(T:Gf K d=I)(U:j1 K (.ref d) op=Y O) (a:L op=Y v) (b:RP v=I) (c:s5 v {t with toks:=t.toks+1}):aI (aM m p) sc (Gg (.ref q) op Tm) s5 IO t:=by let⟨g,s,e⟩:=M.look;exact PySem.W.get_value G s (Gh N).1 (PySem.W.findObj_own T U S (by rw [e,a])) b c
variable{Wh:J×List J->ak->Prop}{UV:fC Bool}{pi:Z}
def I7(M:K.In t.heap)(N:mu t.heap d pi q L)(D:y9 K q op=I)(T:j1 K (.ref q) op=Y (Y (.ref Q))) (U:uy K (.ref Q)=I) (a:L op=O) (b:Wh (.ref Q,[.ref d]) t):aI (aM m p) sc (pS (.ref d) op UV) Wh s5 t:=by let⟨c,s,e⟩:=N.look;exact PySem.W.method_fn M s (Gh D).1 (Gh D).2 T (iM.mp U) (by show(y8 op c).map (·.isSome)=Y ao;rw [e,a];rfl) b
variable{s:ak}
def I8(G:K.In s.heap)(z:mu s.heap Q q d L)(a:j1 K (.ref d) "__setattr__"=Y (Y (.builtin "object.__setattr__"))) (b:RQ K d=I) (c:Gi K d op=Y O) (C:Gf K d=I)(hw:F7 L s4) (hsz:s4.length<=aU)(e:∀D,mu D Q q d (λy=>if y=op then Y v else L y)->ib q s.heap D->KE () {s with heap:=D,toks:=s.toks+2}):aI (aM m p) sc (setAttr (.ref Q) op v) KE s5 s:=by
 let⟨x,S,n⟩:=z.look;refine PySem.W.set_plain G S a (PySem.W.osa_open (s:={s with toks:=s.toks+1}) (r:=O) G S b c λo=>?_);let⟨M,g,h⟩:=PySem.W.any_some C;have i:=z.obj
 refine aH (bu (aH (aH (wpAny_loadPart i (aH (UN (s:={s with toks:=s.toks+1}) (PySem.W.looks_clsIn G g) ?_))))));rw [h];refine bu (a:=Y q) (aH (bu (aH ?_)));refine wpAny_nsSet1 (s:={s with toks:=s.toks+1}) z.ns λD T U=>?_;let⟨N,r,t,j,k,l⟩:=T.count (UO op v hw);refine aH (wpAny_lookBehind j (by rw [k];exact pastItsLine_dict (cu l (by rw [dn];lia))) ?_);exact bu (e _ ⟨(U.2 _ (eP z.ne)).trans z.obj,T,z.ne⟩ U)
variable{V9:List (aa×J)}{VU:Result->ak->Prop}{f:Z}
def I9(G:K.In t.heap)(N:Gj K d=I)(T:j1 K (.ref d) "__init__"=Y (Y (.ref f))) (U:PySem.W.typeIn K (.ref f)=Y (.type "function"))(a:pT (aM m p) (sc.under (.builtin "type.__call__" ⟨.ref d::t0,V9⟩)) (.call (.ref f) ⟨.ref (t.heap.objs.size+1)::t0,V9⟩) (PySem.W.InitBack (t.heap.objs.size+1) VU) {t with heap:=(t.heap.push l1).push (nC d t.heap.objs.size)}):pT (aM m p) sc (.call (.ref d) ⟨t0,V9⟩) VU t:=by let⟨b,c,s,e,g⟩:=t;exact PySem.W.make_core (PySem.W.makes_of G N) (PySem.W.looks_findIn G T) (λself=>PySem.W.bind_fn G self U) (.inl S) a
def aO(z:aa)(v:V):List (aa×V)->List (aa×V)
 |[]=>[(z,v)]
 |(a,x)::b=>if a=z then(a,v)::b else(a,x)::aO z v b
theorem Ai(A D:aa)(v:V):∀U:List (aa×V),(aO A v U).lookup D=if D=A then Y v else U.lookup D
 |[]=>by
  show nE D [(A,v)]=_;by_cases z:D=A
  .have G:(D==A)=I:=iM.mpr z;simp only [nE,G,ai z]
  .have G:=iK.mpr z;simp only [nE,G,N z]
 |(k,x)::a=>by
  rw [show aO A v ((k,x)::a)=(if k=A then(k,v)::a else(k,x)::aO A v a)from rfl];by_cases M:k=A
  .rw [ai M];by_cases z:D=k
   .have G:=iM.mpr z;simp only [nE,G,ai (z.trans M)]
   .have G:=iK.mpr z;simp only [nE,G,N (λT:D=A=>z (T.trans M.symm))]
  .rw [N M];by_cases z:D=k
   .have G:=iM.mpr z;simp only [nE,G,N (λT:D=A=>M (z.symm.trans T))]
   .have G:=iK.mpr z;simp only [nE,G];exact Ai A D v a
theorem vJ(z:aa)(v:V):∀G:List (aa×V),z∈(aO z v G).map (·.1)/\∀A,A∈G.map (·.1)->A∈(aO z v G).map (·.1)
 |[]=>⟨by simp [aO],λA D=>by simp at D⟩
 |(k,x)::a=>by
  let⟨U,b⟩:=vJ z v a;rw [show aO z v ((k,x)::a)=(if k=z then(k,v)::a else(k,x)::aO z v a)from rfl];by_cases M:k=z
  .rw [ai M];subst M;exact⟨by simp,λA D=>by simpa using D⟩
  .rw [N M];exists ?_,λA D=>?_
   .rw [aZ];exact bC _ U
   .rw [aZ]at D⊢;rcases bg.mp D with T|T
    .exact bg.mpr (.inl T)
    .exact bC _ (b A T)
theorem Aj(z:aa)(v:V):∀A:List (aa×V),(aO z v A).length<=A.length+1
 |[]=>by simp [aO]
 |(k,x)::a=>by
  have G:=Aj z v a;rw [show aO z v ((k,x)::a)=(if k=z then(k,v)::a else(k,x)::aO z v a)from rfl];by_cases D:k=z
  .rw [ai D,dn,dn];lia
  .rw [N D,dn,dn];lia
def fv.some_of{v:V}{o:Option J}(z:fv (Y v) o):∃u,o=Y u/\RelV v u:=by
 cases o with
 |none=>exact(show False from z).elim
 |some u=>exists u,S,z
def fv.none_of{o:Option J}(z:fv O o):o=O:=by
 cases o with
 |none=>rfl
 |some u=>exact(show False from z).elim
def Ja{v:V}{u:J}(A:RelV v u):RP u=I:=by
 cases v with
 |bw=>cases (show u=kQ from A);rfl
 |bl b=>cases (show u=Ry b from A);rfl
 |int i=>let⟨z,D⟩:=(show∃z,u=pJ i z from A);cases D;rfl
 |str x=>let⟨z,D⟩:=(show∃z,u=y0 x z from A);cases D;rfl
 |fO b=>let⟨z,D⟩:=(show∃z,u=Rz b z from A);cases D;rfl
 |qk b=>let⟨z,D⟩:=(show∃z,u=RA b z from A);cases D;rfl
 |ref a=>cases (show u=cp a from A);rfl
 |ty n=>cases (show u=pK n from A);rfl
variable{FS:List (aa×V)}
def vK(D:dv m p H P)(G:H d=Y (.ins Q q FS)):∃z,mu P d q Q z/\(∀A,fv (FS.lookup A) (z A))/\F7 z (FS.map (·.1))/\FS.length<=1000/\H q=Y (.own d):=by
 let⟨M,N,S,T,z,U,b,c⟩:=(show d2 m p H P d (.ins Q q FS)from D d _ G)
 exists z,⟨T,U,S⟩,b,c,N,M
structure fc(K:af)(z:Z):Prop where
 pg:y9 K z Str.empty=I
 hd:Gf K z=I
 po:RQ K z=I
 sa:j1 K (.ref z) "__setattr__"=Y (Y (.builtin "object.__setattr__"))
theorem fc.get{K:af}(c:fc K d)(A:aa):y9 K d A=I:=c.pg
def dF(K:af)(z:Z)(A:aa):Prop:=j1 K (.ref z) A=Y O
def dF.Jb{K:af}(D:dF K d op):Gi K d op=Y O:=by unfold Gi;rw [show j1 K (.ref d) op=Y O from D];rfl
structure Meth(K:af)(A:Z)(m:aa)(z:Z):Prop where
 at_:j1 K (.ref A) m=Y (Y (.ref z))
 fn:uy K (.ref z)=I
 kp:kT K (.ref z)=I
section
variable {X:Cx} {pins:List (Z×aL)} {σ:St} {H:U} {s:ak} {a C dx:Z} {fs:List (aa×V)} {f:aa} {v:V} {A:bZ} {E:J->ak->Prop}
def Ak{N:Bool}{D:J->ak->Prop}(z:Inv X pins σ H s)(S:H a=Y (.ins C dx fs))(c:fc X.K C)(T:dF X.K C f)(U:fs.lookup f=Y v)(b:∀u G,Inv X pins σ H G->RelV v u->D u G):aI (aM X.prog X.w) A (Gg (.ref a) f N) D E s:=by let⟨d,e,g,_,_,_⟩:=vK z.bf S;let⟨u,h,M⟩:=fv.some_of (v:=v) (o:=d f) (U▸g f);exact get_map z.fb e (c.get f) c.hd T h (Ja M) (b u _ (z.tok _) M)
end
def vL(M:Inv h pr pv H t)(T:H d=Y (.ins q pi FS))(c:fc h.K q)(N:Meth h.K q op Q)(U:FS.lookup op=O)(b:Wh (.ref Q,[.ref d]) t):aI (aM h.prog h.w) sc (pS (.ref d) op UV) Wh s5 t:=by
 let⟨X,z,e,_,_,_⟩:=vK M.bf T;have g:=fv.none_of (U▸e op)
 exact I7 M.fb z (c.get op) N.at_ N.fn g b
def Al{y:V}{u:J}(M:Inv h pr pv H t)(b:H d=Y (.ins q Q FS))(c:fc h.K q)(j:dF h.K q op)(K:FS.length<1000)(L:RelV y u)(k:∀f,Inv h pr pv (upd H d (.ins q Q (aO op y FS))) f->KE () f):aI (aM h.prog h.w) sc (setAttr (.ref d) op u) KE s5 t:=by
 let⟨l,S,m,g,_,X⟩:=vK M.bf b;have n:(FS.map (·.1)).length<=aU:=by rw [z,y7];lia
 refine I8 M.fb S c.sa c.po j.Jb c.hd g n λp T a=>k _ ?_;have r:∃o,p.get? Q=Y o:=let⟨o,_,_,C,_⟩:=T.ns;⟨o,C⟩
 refine M.write (x:=d) (e:=Q) (b▸j2) (.inr X) (λw D B i=>(a.2 w B).trans i) r ?_;exists ah S.ne▸X,?_,S.ne,T.obj,_,T.ns,λG=>?_,λG F=>?_
 .have:=Aj op y FS;lia
 .rw [Ai];by_cases D:G=op
  .rwa [ai D,ai D]
  .rw [N D,N D];exact m G
 .by_cases D:G=op
  .rw [D];exact(vJ op y FS).1
  .refine(vJ op y FS).2 G (g G λi=>F ?_);show(if G=op then Y u else l G)=O
   rwa [N D]
variable{C:Z}
def Inv.made(N:Inv h pr pv H t):Inv h pr pv (upd (upd H t.heap.objs.size (.own (t.heap.objs.size+1))) (t.heap.objs.size+1) (.ins C t.heap.objs.size [])) {t with heap:=(t.heap.push l1).push (nC C t.heap.objs.size)}:=by
 have D:(t.heap.push l1).get? t.heap.objs.size=Y l1:=gB t.heap S;have T:((t.heap.push l1).push (nC C t.heap.objs.size)).get? (t.heap.objs.size+1)=Y (nC C t.heap.objs.size):=by have:=gB (t.heap.push l1) (o:=nC C t.heap.objs.size) S;rwa [jr]at this
 have U:(t.heap.push l1).Ns t.heap.objs.size (λ_=>O):=⟨l1,#[],_,D,S,(λe b=>absurd b (by simp)),λ_=>S⟩
 refine(N.laid (a:=t.heap.objs.size) (o:=.own (t.heap.objs.size+1)) (h':=t.heap.push l1) (t':=t.toks) (λc u z=>e8 _ z) (aR _) ⟨_,D⟩).laid (a:=t.heap.objs.size+1) (o:=.ins C t.heap.objs.size []) (t':=t.toks) (λc u z=>e8 _ z) (uz (jr _ _)) ?_;have G:t.heap.objs.size≠t.heap.objs.size+1:=fB (pU _)
 exists by rw [ah G,M],cP _,G,T,λ_=>O,(Heap.Ns1.of_empty U).at λo z=>e8 _ z,λ_=>j2,λy d=>absurd rfl d
theorem Jc{z:dS}(T:j3 no op z (eval no z)=eval no z)(U:aI (aM m p) sc (eval no z) (λo b=>aI (aM m p) sc (Gg o op I) IO s5 b) s5 t):aI (aM m p) sc (eval (.Attribute no op pu) z) IO s5 t:=
 Attribute_any_ U (by rw [arm_eval_Attribute,T])
inductive Jd (K:af) (z:aa) (D:VK) (x:V) (A:U):Prop
 |mk(a b c fs v:_)(_:x=.ref a)(_:A a=Y (.ins b c fs))(_:fc K b)(_:dF K b z)(_:fs.lookup z=Y v)(_:D v A)
def vM(K:af)(z:TE)(A:aa):TE:=λD H G=>z D H λM N=>Jd K A G M N
inductive Je (K:af) (z:aa) (D:Ends) (G:St) (y:V) (x:V) (A:U):Prop
 |mk(a b c fs:_)(_:x=.ref a)(_:A a=Y (.ins b c fs))(_:fc K b)(_:dF K b z)(_:fs.length<1000)(_:D.nx G (upd A a (.ins b c (aO z y fs))))
def Jf(K:af)(A D:TE)(G:aa):TS:=λM z H=>D z H λy N=>A z N λS T=>Je K G M z y S T
def Am(z:Cx)(S:uv)(T:V->V->U->VK->Prop):Prop:=
 ∀(A:List (Z×aL)) (D:ak) (G:St) (H:U) (M y:V) (u v:J) (N:VK),Inv z A G H D->RelV M u->RelV y v->T M y H N->aI (aM z.prog z.w) z.A (uw S u v) (EP z A G N) z.xe D
def Jg(K:af)(b c:TE)(d:V->V->U->VK->Prop)(D:aa):TS:=λe G H=>b G H λf N=>∃A z g S v,f=.ref A/\N A=Y (.ins z g S)/\fc K z/\dF K z D/\S.lookup D=Y v/\
 c G N λy h=>d v y h λi T=>∃a M,T A=Y (.ins z a M)/\M.length<1000/\e.nx G (upd T A (.ins z a (aO D i M)))
def fP(z:PE h no ss)(A:j3 no op h.env (eval no h.env)=eval no h.env):PE h (.Attribute no op pu) (vM h.K ss op):=by intro D G M H n N T;refine Jc A (aN (z D G M H _ N T) λu p ⟨q,U,a,b,d,r,s,t,v,g,X,c,i,j,k⟩=>?_);subst g;obtain rfl:u=cp d:=b;exact Ak a X c i j λw x l m=>⟨v,U,l,m,k⟩
section
variable {X:Cx} {o e hW:a8} {f:aa} {pos ll An:b2} {ta tv:TE}
def dQ(D:PE X o ta)(G:PE X hW tv)(M:lZ hW (Y (.Attribute o f ll)) pos.line X.env=dA ao):PS X (.Assign [.Attribute o f ll] hW pos) (Jf X.K ta tv f):=by intro A N z H t T U;refine plainObj_wpAny_Assign_Attribute (aN (G A N z H _ T U) λu a ⟨y,b,d,g,h⟩=>aN (D A a z b _ d h) λi v ⟨w,x,j,k,l,B,C,E,m,n,c,p,q,r⟩=>?_) M;subst m;obtain rfl:i=cp l:=k;exact Al j n c p q g λF s=>⟨z,_,s,r⟩
def vN{D:uv}{G:V->V->U->VK->Prop}(N:PE X o ta)(T:PE X hW tv)(a:Am X D G):PS X (.AugAssign (.Attribute o f An) D hW pos) (Jg X.K ta tv G f):=by intro A b z H ab d g;refine wpAny_AugAssign_AttributeAny (aN (N A b z H _ d g) λh ad ⟨al,i,j,k,l,am,an,ap,v,m,n,c,M,p,q⟩=>?_);subst m;obtain rfl:h=cp l:=k;refine Ak j n c M p λu r s t=>aN (T A r z i _ s q) λw x ⟨y,B,C,E,F⟩=>aN (a A x z B v y u w _ C t E F) λas a0 ⟨a1,a2,K,L,a3,a4,P,Q,R⟩=>?_;exact Al K P c M Q L λa5 W=>⟨z,_,W,R⟩
end
def Jh:V->V->U->VK->Prop:=λA y H D=>∃i z,A=.int i/\y=.int z/\D (.int (i+z)) H
def vO:Am h .Add Jh:=by
 rintro U a b H c y u v d G M N ⟨i,z,rfl,rfl,T⟩;let⟨A,rfl⟩:=(show∃A,u=pJ i A from M)
 let⟨D,rfl⟩:=(show∃D,v=pJ z D from N)
 exact RN ⟨.int (i+z),H,G.tok _,⟨_,S⟩,T⟩
variable{GE:aa}
def Ug{H:U}{i:J->ak->Prop}(p:PE h no ss)(q:Inv h pr pv H t)(r:ss pv H λk b=>∃A G l d g,k=.ref A/\b A=Y (.ins G l d)/\fc h.K G/\Meth h.K G op g/\d.lookup op=O/\ ∀M,Inv h pr pv b M->aI (aM h.prog h.w) h.A (ry pu (.ref g) [.ref A] (fp pu (cA tz h.env)) (l2 pu (l3 [] h.env))) i h.xe M)(s:eval (.Call (.Attribute no op v6) tz [] pu) h.env=(do
   let m<-eval no h.env
   pO v6.atName
   let(GE,first)<-nD [m] (pS m op UV)
   ry pu GE first (fp pu (cA tz h.env)) (l2 pu (l3 [] h.env)))):
  aI (aM h.prog h.w) h.A (eval (.Call (.Attribute no op v6) tz [] pu) h.env) i h.xe t:=by
 refine Gm (pl:=UV) (aN (p pr t pv H _ q r) λu M ⟨k,b,n,X,A,G,l,d,g,v,w,c,x,y,B⟩=>?_) s;subst v;obtain rfl:u=cp A:=X;exact vL n w c x y (B M n)
structure dj(k:Nat)(A:bZ):Prop where
 hd:A.handled=O
 dp:A.depth+3*k+5<RR
 un:A.units+16*k+200<cK
theorem dj.mono(z:dj wE sc)(M:B<=wE):dj B sc:=⟨z.hd,by have:=z.dp;lia,by have:=z.un;lia⟩
theorem dj.deeper(D:dj (B+1) sc)(G:dS):dj B (sc.deeper G):=
 ⟨D.hd,by have:=D.dp;show sc.depth+1+3*B+5<_;lia,by have:=D.un;show sc.units+3+16*B+200<_;lia⟩
def Ji:(sc.under (.builtin "type.__call__" ⟨.ref d::t0,V9⟩)).depth=sc.depth+1:=by
 first|rfl|simp [Gn,Code.weight,Code.isCreation,Code.isGuard,Code.isCaller,RT,Gp,guardIds]
def Jj:(sc.under (.builtin "type.__call__" ⟨.ref d::t0,V9⟩)).units=sc.units+1:=by
 first|rfl|simp [Gn,Code.cUnits,RT,Gp]
theorem dj.make(z:dj (B+1) sc)(G:Z)(M:List J)(N:List (aa×J)):dj B (sc.under (.builtin "type.__call__" ⟨.ref G::M,N⟩)):=
 ⟨z.hd,by have:=z.dp;rw [Ji];lia,by have:=z.un;rw [Jj];lia⟩
def dj.depth(D:dj B sc):sc.depth<RR:=by have:=D.dp;lia
def dj.units(D:dj B sc):sc.units+64<cK:=by have:=D.un;lia
def jA:TA:=λ_ H z=>z [] H
def jB(A:TE)(D:TA):TA:=λz H G=>A z H λM N=>D z N λS T=>G (M::S) T
theorem aC:PA h [] jA:=λ_ _ _ _ H D z A=>uA ⟨[],H,z,.nil,A⟩
def A(G:PE h no ss)(M:PA h tz Ix)(N:cA (no::tz) h.env=(ao,eval no h.env)::cA tz h.env:=by rfl):PA h (no::tz) (jB ss Ix):=by intro pu z T D H n U a;rw [N];refine pV (aN (G z T D H _ U a) λu b ⟨c,d,f,g,X⟩=>?_);exact aN (M pu z b D d _ f X) λo p ⟨i,j,k,l,m⟩=>⟨c::i,j,k,.cons g l,m⟩
def qu(t:TA):TE:=λG H M=>t G H λA D=>A.length<=aU/\∀z,D z=O->M (.ref z) (upd D z (.tup A))
def Jk(t:TA):TE:=λG H M=>t G H λA D=>A.length<=aU/\∀z,D z=O->M (.ref z) (upd D z (.lst A))
def b6{x1}(M:PA h tz Ix):PE h (.Tuple tz x1 pu) (qu Ix):=by
 intro N T U H i a b;refine wpAny_Tuple_spliced (aN (M pu N T U H _ a b) λc z ⟨d,f,A,D,G,g⟩=>⟨D.length▸G,?_⟩);have X:=A.bf.fresh (aR _)
 exists .ref z.heap.objs.size,upd f z.heap.objs.size (.tup d),A.laid (t':=z.toks) (λj u no=>e8 _ no) (aR _) ?_,S,g _ X;exists G,c,D,⟨_,gB _ S,S,_,S⟩
def de(M:PA h tz Ix):PE h (.List tz pu) (Jk Ix):=by
 intro N T U H i a b;refine wpAny_List_spliced (aN (M pu N T U H _ a b) λc z ⟨d,f,A,D,G,g⟩=>⟨D.length▸G,?_⟩);have X:=A.bf.fresh (aR _)
 exists .ref z.heap.objs.size,upd f z.heap.objs.size (.lst d),A.laid (t':=z.toks) (λj u no=>e8 _ no) (aR _) ?_,S,g _ X;exists G,c,0,D,gB _ S
abbrev Sp:=List V->U->VK->XK->Prop
abbrev gi:=List dS->U->ak->XK->J->ak->Prop
structure mv(M:aw)(w:au)(K:af)(G:aa->Option J)(base:aD)(A:bZ)(outer:List dS)(z:ak)(H:U):Prop where
 frames:A.frames=Y outer
 mod:Mod K G base
 bs:∀D o,base.get? D=Y o->z.heap.get? D=Y o/\H D=O
 ip:base.objs.size<=z.heap.objs.size
 funs:z.heap.FunFrames base outer
 km:∀D∈eb outer,H D=O
 bf:dv M w H z.heap
 bare:jZ z.gens
def CE(G:List dS)(M:aw)(N:au)(H:U)(D:ak)(S:VK)(u:J)(z:ak):Prop:=
 ∃v A,z.os=D.os/\jZ z.gens/\Un (eb G) [] H A D.heap z.heap/\dv M N A z.heap/\RelV v u/\S v A
def CR(G:gi)(z:List dS)(M:aw)(N:au)(H:U)(A:ak)(S:VK)(T:XK)(a:Result)(D:ak):Prop:=
 match a with
 |.ok (.ret u)=>CE z M N H A S u D
 |.ok _=>False
 |.error b=>G z H A T b D
structure aV(S:aw)(w:au)(K:af)(G:aa->Option J)(base:aD)(a:gi)(k:Nat)(b:Z)(c:bc)(ps:List aa)(sp:Sp):Prop where
 len:∀z H D M,sp z H D M->z.length=ps.length
 run:∀(A:bZ) (outer:List dS) (N:ak) (H:U) (args:Args) (T:List J) (z:List V) (D:VK) (M:XK),dj k A->mv S w K G base A outer N H->rz N c args (ps.zip T)->Vals z T->sp z H D M->
  pT (aM S w) A (.call (.ref b) args) (CR a outer S w H N D M) N
variable{Tk:List dS}
theorem mv.make{K:af}{H:U}(z:mv m p K L P sc Tk t H)(a:Z)(b:List J)(c:List (aa×J)):mv m p K L P (sc.under (.builtin "type.__call__" ⟨.ref a::b,c⟩)) Tk t H:=⟨by first|exact z.frames|(simpa [Gn,Code.envs,Gp,pushEnvs]using z.frames),z.mod,z.bs,z.ip,z.funs,z.km,z.bf,z.bare⟩
theorem Inv.Ao(z:Inv h pr pv H t):mv h.prog h.w h.K h.G h.base h.A h.stack t H:=
 ⟨z.ok.frames,z.ok.mod,z.bs,cu z.ok.ip z.sz,z.stack,z.r4,z.bf,z.bare⟩
variable{Os:ak}
def Inv.after{u:J}(A:Inv h pr pv H t)(D:CE h.stack h.prog h.w H t IR u Os):EP h pr pv IR u Os:=by let⟨v,G,M,N,T,U,a,b⟩:=D;let⟨c,d,e,f,g⟩:=Os;obtain rfl:g=t.os:=M;exists v,G,A.call (h':=c) (g':=d) (d':=e) (t':=f) (ch:=[]) T U N (λi X=>absurd X (by simp)),a,b
def vP(z:Sp)(A:List V)(D:XK)(G:TA):TE:=λM H N=>G M H λS T=>z (S++A) T N D
inductive Jl (A:Z) (m:aa) (sp:Sp) (D:List V) (G:XK) (M:TA) (N:St) (S:VK) (x:V) (z:U):Prop
 |mk(a b fs:_)(_:x=.ref a)(_:z a=Y (.ins A b fs))(_:fs.lookup m=O)(_:M N z λT c=>sp (x::(T++D)) c S G)
def sh(A:Z)(D:aa)(G:Sp)(M:List V)(N:XK)(S:TE)(T:TA):TE:=λz H U=>S z H λa b=>Jl A D G M N T z U a b
def si(G:Z)(M:Sp)(N:List V)(S:XK)(T:TA):TE:=λU H a=>T U H λb D=>∀z A,D z=O->D A=O->A≠z->
 M (.ref z::(b++N)) (upd (upd D A (.own z)) z (.ins G A [])) (λv c=>v=.bw/\a (.ref z) c) S
def Binds(K:af)(M:bc)(A:List aa)(D:List J):Prop:=
 ∀(G:ak) (z:List J),K.In G.heap->(z++D).length=A.length->rz G M ⟨z,[]⟩ (A.zip (z++D))
variable{o0:bc}
theorem Binds.all{K:af}(M:∀z:List J,z.length=s4.length->za o0 ⟨z,[]⟩=dA (s4.zip z)):Binds K o0 s4 []:=λN z _ G=>by rw [b0]at G⊢;exact .of_eq (M z G)
def Passes(M:gi)(z:Cx)(N:XK):Prop:=∀(S:List (Z×aL)) (T:St) (H:U) (A:ak) (D:J) (G:ak),Inv z S T H A->M z.stack H A N D G->z.xe D G
variable{Ch:XK}{Fa:gi}{AC:Sp}
def vQ{H:U}{us:List J}{vs:List V}(T:aV h.prog h.w h.K h.G h.base Fa B d o0 s4 AC)(c:dj B h.A)(X:Binds h.K o0 s4 t0)(g:Vals t3 t0)(z:Passes Fa h Ch)(D:Inv h pr pv H t) (S:Vals vs us) (a:AC (vs++t3) H IR Ch):aI (aM h.prog h.w) h.A (gO (.ref d) us) (EP h pr pv IR) h.xe t:=by
 have b:=S.append g;have i:(us++t0).length=s4.length:=b.length▸T.len _ _ _ _ a
 refine wpAny_call (zb (T.run h.A h.stack t H ⟨us,[]⟩ (us++t0) (vs++t3) IR Ch c D.Ao (X t us D.fb i) b a) λS j A=>?_);cases S with
 |error no=>exact z pr pv H t no j D A
 |ok fl=>
  cases fl with
  |ret u=>exact D.after A
  |next=>exact g5 A
  |brk=>exact g5 A
  |cont=>exact g5 A
def Jm(D:aV h.prog h.w h.K h.G h.base Fa B d o0 s4 AC)(G:dj B h.A)(M:Gl h op)(N:h.G op=Y (.ref d))(T:kT h.K (.ref d)=I)(U:Binds h.K o0 s4 t0)(a:Vals t3 t0)(b:Passes Fa h Ch)(c:PA h (no::tz) Ix) (X:(op==("__debug__":aa))=ao:=by decide) (g:cA (no::tz) h.env=(ao,eval no h.env)::cA tz h.env:=by rfl) (x:(fp pu (cA tz h.env)).any (·.1)=ao:=by rfl):PE h (.Call (.Name op v6) (no::tz) [] pu) (vP AC t3 Ch Ix):=by intro i j l H s z n;refine uB (ob z M N ?_ X);refine Gq (h₀:=h.base) z.ok.mod.ql T (aN (c pu i j l H _ z n) λu v ⟨w,y,A,q,r⟩=>⟨A.fb,?_⟩) g x;exact vQ D G U a b A q r
section
variable {X:Cx} {CX:gi} {k:Nat} {f C:Z} {fd:bc} {ps:List aa} {sp:Sp} {gU:List V} {ds:List J} {E:XK} {x m:aa} {p pos fx:b2} {e o:a8} {es:List a8} {ta:TE} {t:TA}
def Jn{pl:fC Bool}(a:PE X o ta)(c:fc X.K C)(A:Meth X.K C m f)(b:aV X.prog X.w X.K X.G X.base CX k f fd ps sp)(d:dj k X.A)(g:Binds X.K fd ps ds)(h:Vals gU ds)(i:Passes CX X E)(j:PA X (e::es) t)(l:cA (e::es) X.env=(ao,eval e X.env)::cA es X.env:=by rfl) (n:(fp pos (cA es X.env)).any (·.1)=ao:=by rfl)(q:eval (.Call (.Attribute o m fx) (e::es) [] pos) X.env=(do
   let D<-eval o X.env
   pO fx.atName
   let(f,first)<-nD [D] (pS D m pl)
   ry pos f first (fp pos (cA (e::es) X.env)) (l2 pos (l3 [] X.env))):=by rfl):
  PE X (.Call (.Attribute o m fx) (e::es) [] pos) (sh C m sp gU E ta t):=by
 intro G r M H ab N s;refine Gm (pl:=pl) (aN (a G r M H _ N s) λu v ⟨x,w,T,y,z,ad,al,B,F,K,L⟩=>?_) q;subst B;obtain rfl:u=cp z:=y;refine vL T F c A K ?_;refine Gq (first:=[.ref z]) (h₀:=X.base) N.ok.mod.ql A.kp (aN (j pos G v M w _ T L) λP am ⟨Q,an,U,R,V⟩=>⟨U.fb,?_⟩) l n;exact vQ (us:=.ref z::P) (vs:=.ref z::Q) b d g h i U (.cons S R) V
def Jo{pl:fC Bool}(M:PE X o ta)(c:fc X.K C)(D:Meth X.K C m f)(N:aV X.prog X.w X.K X.G X.base CX k f fd ps sp)(T:dj k X.A)(U:Binds X.K fd ps ds)(a:Vals gU ds)(b:Passes CX X E)(d:eval (.Call (.Attribute o m fx) [] [] pos) X.env=(do
   let G<-eval o X.env
   pO fx.atName
   let(f,first)<-nD [G] (pS G m pl)
   ry pos f first (fp pos (cA [] X.env)) (l2 pos (l3 [] X.env))):=by rfl):
  PE X (.Call (.Attribute o m fx) [] [] pos) (sh C m sp gU E ta jA):=by
 intro g h i H w j l;refine Gm (pl:=pl) (aN (M g h i H _ j l) λu y ⟨x,B,A,n,z,F,K,q,r,s,v⟩=>?_) d;subst q;obtain rfl:u=cp z:=n;refine vL A r c D s ?_;exact RU (first:=[.ref z]) A.fb D.kp (vQ (us:=[.ref z]) (vs:=[.ref z]) N T U a b A (.cons S .nil) v)
end
structure Mk(K:af)(d q:Z):Prop where
 makes:Gj K d=I
 init:j1 K (.ref d) "__init__"=Y (Y (.ref q))
 fn:uy K (.ref q)=I
 kp:kT K (.ref d)=I
def Ap{H:U}{us:List J}(b:Mk h.K C f)(g:aV h.prog h.w h.K h.G h.base Fa B f o0 s4 AC)(j:dj (B+1) h.A)(l:Binds h.K o0 s4 t0)(n:Vals V7 t0)(q:Passes Fa h Ch) (D:Inv h pr pv H t) (c:Vals t3 us)(r:∀op G,H op=O->H G=O->G≠op->AC (.ref op::(t3++V7)) (upd (upd H G (.own op)) op (.ins C G [])) (λv s=>v=.bw/\IR (.ref op) s) Ch):aI (aM h.prog h.w) h.A (gO (.ref C) us) (EP h pr pv IR) h.xe t:=by
 have z:=r (t.heap.objs.size+1) t.heap.objs.size (D.bf.fresh (Nat.le_succ _)) (D.bf.fresh (aR _)) (fB (pU _));have M:=Inv.made (C:=C) D
 have i:Vals (V.ref (t.heap.objs.size+1)::(t3++V7)) (cp (t.heap.objs.size+1)::(us++t0)):=.cons S (c.append n);have w:(cp (t.heap.objs.size+1)::us++t0).length=s4.length:=by have no:=i.length;rw [g.len _ _ _ _ z]at no;exact no.symm
 refine wpAny_call (I9 (f:=f) D.fb b.makes b.init (iM.mp b.fn) (zb (g.run _ h.stack _ _ ⟨cp (t.heap.objs.size+1)::us,[]⟩ (cp (t.heap.objs.size+1)::(us++t0)) _ _ Ch (j.make C us []) (M.Ao.make C us []) (l _ (cp (t.heap.objs.size+1)::us) M.fb w) i z) λc y A=>?_));cases c with
 |error no=>exact q pr pv _ _ no y M A
 |ok fl=>
  cases fl with
  |ret u=>
   let⟨v,X,F,K,L,P⟩:=M.after A;subst L;exists K,⟨V.ref (t.heap.objs.size+1),X,F,S,P⟩
  |next=>exact g5 A
  |brk=>exact g5 A
  |cont=>exact g5 A
def Jp(A:Mk h.K d q)(G:aV h.prog h.w h.K h.G h.base Fa B q o0 s4 AC)(M:dj (B+1) h.A)(N:Gl h op)(T:h.G op=Y (.ref d))(U:Binds h.K o0 s4 t0)(a:Vals t3 t0)(b:Passes Fa h Ch)(c:PA h (no::tz) Ix) (X:(op==("__debug__":aa))=ao:=by decide) (g:cA (no::tz) h.env=(ao,eval no h.env)::cA tz h.env:=by rfl) (x:(fp pu (cA tz h.env)).any (·.1)=ao:=by rfl):PE h (.Call (.Name op v6) (no::tz) [] pu) (si d AC t3 Ch Ix):=by intro i j l H s z n;refine uB (ob z N T ?_ X);refine Gq (h₀:=h.base) z.ok.mod.ql A.kp (aN (c pu i j l H _ z n) λu v ⟨w,y,D,e,r⟩=>⟨D.fb,?_⟩) g x;exact Ap A G M U a b D e r
def Jq(A:Mk h.K d q)(D:aV h.prog h.w h.K h.G h.base Fa B q o0 s4 AC)(G:dj (B+1) h.A)(M:Gl h op)(N:h.G op=Y (.ref d))(S:Binds h.K o0 s4 t0)(T:Vals t3 t0)(U:Passes Fa h Ch)(a:(op==("__debug__":aa))=ao:=by decide):PE h (.Call (.Name op pu) [] [] v6) (si d AC t3 Ch jA):=by intro c X g H x z b;refine uB (ob z M N ?_ a);exact RU z.fb A.kp (Ap (us:=[]) A D G S T U z .nil b)
structure qv(N A:List aa)(z:eh):Prop where
 kind:z.kind=.function
 co:z.isCoroutine=ao
 gen:z.isGenerator=ao
 nd:N.Nodup
 pre:N.take A.length=A
 par:∀x∈A,z.names.lookup x=Y .local\/z.names.lookup x=Y .cell
 Jr:∀y∈z.names,y.2≠.free
variable{T0:aa->Option ht}
theorem Aq:∀{D:List (aa×J)} {A:aa->Option J},(∀v,(op,v)∉D)->l4 T0 D A op=A op
 |[],_,_=>rfl
 |(n,v)::b,A,a=>by
  unfold l4;rw [Aq λM hw=>a M (bC _ hw)];split
  .have:op≠n:=by rintro rfl;exact a v bE
   simp [this]
  .rfl
theorem Ar:∀{D:List (aa×J)} {A:aa->Option J},(∀v,(op,v)∉D)->l5 T0 D A op=A op
 |[],_,_=>rfl
 |(n,v)::b,A,a=>by
  unfold l5;rw [Ar λM hw=>a M (bC _ hw)];split
  .rfl
  .have:op≠n:=by rintro rfl;exact a v bE
   simp [this]
theorem As{v:J}:∀{z:List aa} {A:List J} {i:Nat} {D:aa->Option J},z.Nodup->z[i]?=Y op->A[i]?=Y v->T0 op=Y .local->l4 T0 (z.zip A) D op=Y v
 |[],_,_,_,_,c,_,_=>by simp at c
 |_::_,[],_,_,_,_,c,_=>by simp at c
 |p::z,w::A,0,D,nd,a,b,d=>by
  simp at a b;subst a;subst b;show l4 T0 ((p,w)::z.zip A) D p=_
  unfold l4;rw [Aq λv N=>(ej.mp nd).1 (Gr N).1,ai d];simp
 |p::z,w::A,i+1,D,nd,a,b,d=>by show l4 T0 ((p,w)::z.zip A) D op=_;unfold l4;exact As (i:=i) (ej.mp nd).2 (by simpa using a) (by simpa using b) d
theorem Au{v:J}:∀{z:List aa} {A:List J} {i:Nat} {D:aa->Option J},z.Nodup->z[i]?=Y op->A[i]?=Y v->T0 op≠Y .local->l5 T0 (z.zip A) D op=Y v
 |[],_,_,_,_,c,_,_=>by simp at c
 |_::_,[],_,_,_,_,c,_=>by simp at c
 |p::z,w::A,0,D,nd,a,b,d=>by
  simp at a b;subst a;subst b;show l5 T0 ((p,w)::z.zip A) D p=_
  unfold l5;rw [Ar λv S=>(ej.mp nd).1 (Gr S).1,N d];simp
 |p::z,w::A,i+1,D,nd,a,b,d=>by show l5 T0 ((p,w)::z.zip A) D op=_;unfold l5;exact Au (i:=i) (ej.mp nd).2 (by simpa using a) (by simpa using b) d
def start(A:List aa)(z:List V):St:=z.map Y++Gu (A.length-z.length) O
def hh(T:gi)(a:aw)(b:au)(K:af)(f:aa->Option J)(g:aD)(h:List aa)(A:aa)(D:eh)(G:Z)(M:J)(c:bZ)(N:List dS)(z:ak)(H:U)(d:XK):Cx where
 prog:=a
 w:=b
 K:=K
 G:=f
 base:=g
 A:=c.deeper (eI A D z.heap.objs.size G M)
 N:=h
 ea:=z
 jx:=H
 env:=eI A D z.heap.objs.size G M
 outer:=N
 stack:=eI A D z.heap.objs.size G M::N
 ex:=[]
 calm:=I
 fn:=λ_=>I
 pn:=[]
 xe:=λe i=>aI (aM a b) (c.deeper (eI A D z.heap.objs.size G M)) (Gv (eI A D z.heap.objs.size G M) e) (λ_ S=>T N H z d e S) (λj S=>T N H z d j S) i
theorem xK{K:af}{a:eh}{c:J}{H:U}:(hh Fa m p K L P s4 op a d c sc Tk t H Ch).K=K:=rfl
theorem xP{K:af}{a:eh}{c:J}{H:U}:(hh Fa m p K L P s4 op a d c sc Tk t H Ch).prog=m:=rfl
theorem xW{K:af}{a:eh}{c:J}{H:U}:(hh Fa m p K L P s4 op a d c sc Tk t H Ch).w=p:=rfl
def Av{z:eh}{n:Nat}(D:z.names.lookup op=Y .cell):∃c,(fE n z.names []).lookup op=Y c:=by exact rA.mp (Gw z.names n [] (.inl D))
variable{LE:List aa}{wl:J}
def Js{K:af}{o:aa}{T:eh}{H:U}(N:qv LE s4 T) (am:sc.handled=O) (D:mv m p K L P sc Tk t H) (a1:t3.length=s4.length) (an:Vals t3 t0)(e:InCallC t t.heap.objs.size (l4 (eI o T t.heap.objs.size d wl).kindOf (s4.zip t0) λ_=>O) (fE (t.heap.objs.size+1) T.names []) (l5 (eI o T t.heap.objs.size d wl).kindOf (s4.zip t0) λ_=>O) Os):Inv (hh Fa m p K L P LE o T d wl sc Tk t H Ch) [] (start LE t3) H Os:=by
 have a2:s4.length<=LE.length:=by have:=bD cN N.pre;rw [dU]at this;lia
 let⟨F,a3,rfl,X⟩:=e.done;have G:∀M:Z,M∉(hh Fa m p K L P LE o T d wl sc Tk t H Ch).ex:=λM h=>absurd (show M∈([]:List Z)from h) (by simp)
 exists ⟨D.mod,N.kind,S,S,aR _,λy h c F A=>?_,λy f=>?_,λy c _ k=>?_,λ_=>am,Around.frames_deeper D.frames,.inr ⟨S,S⟩,λM h=>absurd h (G M),D.bs,D.ip,λM _ _=>G M,λM h=>absurd h (G M),D.funs,D.km⟩,rfl,D.bare,Un.kept X,⟨_,e.toInCall.ns,λi y v F A a4=>?_⟩,λy c k=>⟨_,e.cell y c k⟩,D.bf.fresh (aR _),λy c k=>?_,λap l=>absurd (show ap∈([]:List (Z×aL))from l) (by simp),D.bf.kept X,?_
 .exact name_of_addr e.apart (hO F) (hO A)
 .have f:=f;rcases f with f|f
  .exact Av f
  .exact absurd rfl (N.Jr _ (hO f))
 .exact y2 (e.above y c (hO k))
 .have s:i<t3.length:=by
   unfold start at A;by_cases s:i<t3.length
   .exact s
   .rw [hu (by simpa using s)]at A;rw [RV]at A;split at A<;>cases A
  have as:t3[i]?=Y v:=by
   unfold start at A;rw [uC (by simpa using s),bh]at A;cases b:t3[i]? with
   |none=>rw [b]at A;cases A
   |some a=>rw [b]at A;cases A<;>rfl
  let⟨u,ab,a0⟩:=an.get as;have l:s4[i]?=Y y:=by rwa [<-N.pre,List.getElem?_take_of_lt (by lia)]
  have ad:s4.Nodup:=N.pre▸N.nd.sublist (List.take_sublist _ _);exists u,a0,?_;rcases N.par y (cG l)with j|j
  .exact .inl ⟨j,As ad l ab j⟩
  .obtain⟨c,b⟩:=Av (n:=t.heap.objs.size+1) j;refine .inr ⟨.inl j,c,b,?_⟩;have al:=e.cell y c b
   rw [Au ad l ab (by show T.names.lookup y≠_;rw [j];decide)]at al;exact al
 .exact D.bf.fresh (y2 (e.above y c (hO k)))
 .unfold start;show _=LE.length
  rw [br,z,RW]
  lia
variable{SB VO VP VQ V0:J}{Pv VY:Option Z}{V3:Array (Option J)}
def Aw{i:aw}{K:af}{b:Arguments}{A:eh}{a2:J} {c:List aa}  (lk:K.lookup d=Y ⟨a2,VY,.func (nF GE op b On A SB VO VP VQ Pv wl V0),V3⟩) (a5:rB K wl op=I) (k:qv c s4 A)(am:∀D H G M,AC D H G M->D.length=s4.length)(bd:∀(e:bZ) (f:List dS) (N:ak) (H:U) (D:List V) (G:VK) (M:XK),dj B (e.deeper (eI op A N.heap.objs.size d wl))->AC D H G M->∃x,gh (hh Fa i p K L P c op A d wl e f N H M) On x/\x (Ends.fn G) (start c D) H):aV i p K L P Fa (B+1) d (nF GE op b On A SB VO VP VQ Pv wl V0) s4 AC:=by
 exists am,λe f N H args be D G M a l bi bk an=>?_;have ap:=l.mod.ql.keeps λC o r=>(l.bs C o r).1
 have bl:=l.mod.nolimit.keeps λC o r=>(l.bs C o r).1;have bm:∀y∈s4.zip be,A.names.lookup y.1=Y .local\/(A.names.lookup y.1=Y .cell/\((fE (N.heap.objs.size+1) A.names []).lookup y.1).isSome=I):=λ⟨bn,v⟩ bs=>by
  rcases k.par bn (Gr bs).1 with z|z
  .exact .inl z
  .exact .inr ⟨z,Gw _ _ _ (.inl z)⟩
 refine codeAny_call_function a.depth (ap _ _ lk) S k.co k.gen S (PySem.W.codeRec_of ap a5) (bi _ _ _ _ ?_);refine wpAny_newFunctionEnv_cells k.kind bm λch bt as a0=>?_;subst bt;exists bl.keeps a0.toInCall.keep,codeAny_func ?_;let⟨x,bv,ca⟩:=bd e f N H D G M (a.deeper _) an;have cd:Inv (hh Fa i p K L P c op A d wl e f N H M) [] (start c D) H as:=Js k a.hd l (am _ _ _ _ an) bk a0
 refine g4 (bv [] as (start c D) H _ cd ca) (λce E g=>?_) λr E g=>g;have a1:∀{s:St} {h:U} {v:V} {u:J},Inv (hh Fa i p K L P c op A d wl e f N H M) [] s h E->RelV v u->G v h->CE f i p H N G u E:=
  λ{s h v u} T F z=>⟨v,h,T.os,T.bare,T.base,T.bf,F,z⟩
 cases ce with
 |ret u=>
  let⟨v,s,h,T,F,z⟩:=g;exact a1 T F z
 |next=>
  let⟨s,h,T,z⟩:=g;exact a1 (v:=V.bw) (u:=kQ) T S z
 |brk=>
  let⟨_,_,_,z⟩:=g;exact g5 z
 |cont=>
  let⟨_,_,_,z⟩:=g;exact g5 z
def Ax(r:List V->U->VK->Prop)(t:TA):TE:=λz H A=>t z H λD G=>r D G A
variable{FB:String}{Wu:List V->U->VK->Prop}
def cR(G:hA h (.builtin FB) Wu)(M:Gl h op)(N:h.G op=O)(U:uo op=Y (.builtin FB))(a:PA h (no::tz) Ix)(b:op≠"__name__":=by decide)(c:(op==("__debug__":aa))=ao:=by decide)(d:cA (no::tz) h.env=(ao,eval no h.env)::cA tz h.env:=by rfl) (f:(fp pu (cA tz h.env)).any (·.1)=ao:=by rfl):PE h (.Call (.Name op v6) (no::tz) [] pu) (Ax Wu Ix):=by intro z g A H X D i;refine uB (r5 D M N U ?_ b c);exact UP (aN (a pu z g A H _ D i) λj k ⟨l,m,n,o,q⟩=>G z k A m l j X n o q) d f
def sj(G:hA h (.type FB) Wu)(M:Gl h op)(N:h.G op=O)(U:uo op=Y (.type FB))(a:PA h (no::tz) Ix)(b:op≠"__name__":=by decide)(c:(op==("__debug__":aa))=ao:=by decide)(d:cA (no::tz) h.env=(ao,eval no h.env)::cA tz h.env:=by rfl) (f:(fp pu (cA tz h.env)).any (·.1)=ao:=by rfl):PE h (.Call (.Name op v6) (no::tz) [] pu) (Ax Wu Ix):=by intro z g A H X D i;refine uB (r5 D M N U ?_ b c);exact Ge (aN (a pu z g A H _ D i) λj k ⟨l,m,n,o,q⟩=>G z k A m l j X n o q) d f
end L2
namespace HT
def gj(z D:Nat):Option Int->Nat
 |none=>D
 |some v=>if v<0 then(v+(z:Int)).toNat else min v.toNat z
def sk(D G z:Nat):gj D G (Y (z:Int))=min z D:=by show(if(z:Int)<0 then((z:Int)+(D:Int)).toNat else min (z:Int).toNat D)=min z D;rw [N (by lia),uD]
end HT
namespace L2
abbrev TO:=St->U->(Option Int->U->Prop)->Prop
def PO(z:Cx)(S:Option a8)(T:TO):Prop:=
 ∀(D:List (Z×aL)) (G:ak) (A:St) (H:U) (M:Option Int->U->Prop),Inv z D A H G->T A H M->
  aI (aM z.prog z.w) z.A (evalPart S z.env) (λu a=>∃o N,Inv z D A N a/\IsPart u o/\M o N) z.xe G
def Jt:TO:=λ_ H z=>z O H
def Ju(z:TE):TO:=λA H D=>z A H λG M=>∃i,G=.int i/\D (Y i) M
variable{h:Cx}
def sl:PO h O Jt:=by intro D G M H N z A;rw [RY];exact bu ⟨O,H,z,.none,A⟩
variable{no:a8}{ss:TE}
def oj(z:PE h no ss):PO h (Y no) (Ju ss):=by intro A D G H d M hw;rw [evalPart_some];refine aN (z A D G H _ M hw) λu f ⟨g,N,T,U,a⟩=>?_;let⟨i,rfl,b⟩:=a;let⟨c,rfl⟩:=U;exists Y i,N,T,.int i c,b
variable{Wo Wp:Option a8}
def Ay(X:Cx)(b:V->Option Int->Option Int->U->VK->Prop):Prop:=
 ∀(A:List (Z×aL)) (z:ak) (D:St) (H:U) (G:V) (v M N:J) (Wo Wp:Option Int) (S:Z) (T:VK),Inv X A D H z->RelV G v->z.heap.IsSliceOf S M N .none->IsPart M Wo->IsPart N Wp->b G Wo Wp H T->
  ∃a c,Gx (.type a) "__getitem__"=dA (Y (.builtin c))/\z.TypeIs v a/\aI (aM X.prog X.w) X.A (nG v (.ref S)) (EP X A D T) X.xe z
def Jv(A:V->Option Int->Option Int->U->VK->Prop)(te:TE)(tl th:TO):TE:=λz H D=>te z H λG M=>tl z M λN S=>th z S λu T=>A G N u T D
variable{pu v6:b2}
def qw{tl th:TO}{N:V->Option Int->Option Int->U->VK->Prop}(a:Ay h N)(b:PE h no ss)(c:PO h Wo tl)(d:PO h Wp th):PE h (.Subscript no (.Slice Wo Wp O v6) pu) (Jv N ss tl th):=by
 intro A f D H g X i;refine Gy (aN (b A f D H _ X i) λv j ⟨k,l,m,n,o⟩=>?_);refine wpAny_Slice (aN (c A j D l _ m o) λG p ⟨q,r,s,t,w⟩=>aN (d A p D r _ s w) λM z ⟨u,T,x,y,B⟩=>?_);rw [RY];refine bu ?_;have C:Inv h A D T {z with heap:=z.heap.push {cls:=.type "slice",data:=.fields #[G,M,.none]}}:=x.kept (t':=z.toks) λP Q E=>e8 _ E
 let⟨R,W,F,K,L⟩:=a A {z with heap:=z.heap.push {cls:=.type "slice",data:=.fields #[G,M,.none]}} D T k v G M q u z.heap.objs.size g C n (UQ ..) t y B;exact tail_any (ops:=[.ref z.heap.objs.size,v]) K F L (by with_unfolding_all rfl)
def gH(z:List V)(lo hi:Option Int):List V:=(z.drop (HT.gj z.length 0 lo)).take (HT.gj z.length z.length hi-HT.gj z.length 0 lo)
def Jw(z:List V)(lo hi:Option Int):(gH z lo hi).length<=z.length:=by
 unfold gH;rw [dU,l6]
 lia
def lq(z:Nat)(i:Int):Option Nat:=if 0<=i then(if i<z then Y i.toNat else O)else if-(z:Int)<=i then Y (i+z).toNat else O
variable{sB:Type}
def kr(A:List sB)(i:Int):Option sB:=(lq A.length i).bind λD=>A[D]?
variable{B wE:Nat}
def Jx{i:Int}(z:lq B i=Y wE):seqIndex? i B=Y wE/\wE<B/\ -(B:Int)<=i/\i<B:=by
 unfold lq at z;by_cases M:0<=i
 .rw [ai M]at z;by_cases A:i<B
  .rw [ai A]at z;have S:=aS z
   exists by rw [seqIndex_of M A,S],by lia,by lia,A
  .rw [N A]at z;cases z
 .rw [N M]at z;by_cases A: -(B:Int)<=i
  .rw [ai A]at z;have S:=aS z
   exact⟨by rw [seqIndex_neg (by lia) A,S],by lia,A,by lia⟩
  .rw [N A]at z;cases z
def vR{z:List sB}{i:Int}{v:sB}(A:kr z i=Y v):∃D,seqIndex? i z.length=Y D/\z[D]?=Y v/\D<z.length/\ -(z.length:Int)<=i/\i<z.length:=by
 unfold kr at A;cases a:lq z.length i with
 |none=>rw [a]at A;cases A
 |some D=>
  rw [a]at A;let⟨M,N,S,T⟩:=Jx a;exists D,M,A,N,S,T
def e1{z:List sB}{j:Nat}{v:sB}(D:z[j]?=Y v):kr z (j:Int)=Y v:=by
 have M:=(cF.mp D).1;have G:lq z.length (j:Int)=Y j:=by unfold lq;rw [ai (by lia),ai (by lia)];simp
 unfold kr;rwa [G]
def vS(z:List sB)(v:sB):kr (z++[v]) (-1)=Y v:=by
 have D:(z++[v]).length=z.length+1:=by simp
 have G:lq (z++[v]).length (-1)=Y z.length:=by
  unfold lq;rw [D,N (by decide),ai (by lia)];congr 1
  lia
 unfold kr;rw [G];simp
def Jy(z:a8):Prop:=∀o i,zc z ao o i=Gz [o,i] (nG o i)
def qx(z:Cx)(T:R2):Prop:=
 ∀(a A:a8) (D:List (Z×aL)) (G:ak) (M:St) (H:U) (N y:V) (v u:J) (S:VK),Inv z D M H G->RelV N v->RelV y u->T N y H S->
  zc A ao v u=Gz [v,u] (nG v u)->aI (aM z.prog z.w) z.A (RZ a A v u) (EP z D M S) z.xe G
def lr(z:Cx)(a:String)(b:V->List V->U->VK->Prop):Prop:=
 ∀(A:List (Z×aL)) (D:ak) (G:St) (H:U) (M:V) (N:List V) (v:J) (S:List J) (T:VK),Inv z A G H D->RelV M v->Vals N S->b M N H T->
  aI (aM z.prog z.w) z.A (gO (.builtin a) (v::S)) (EP z A G T) z.xe D
variable{s0:a8}{Tl:R2}{xL:TE}
def cc(A:qx h Tl)(D:PE h s0 ss)(G:PE h no xL)(M:Jy no):PE h (.Subscript s0 no pu) (sb Tl ss xL):=by intro N k S H T U c;exact Gy (vC D G U c λv u d e y f g X i j=>A s0 no N d S f e y v u T g X i j (M _ _))
inductive Jz (K:af) (x:V) (y:V) (H:U) (z:VK):Prop
 |mk(p xs i v:_)(_:x=.ref p)(_:y=.int i)(_:av K H p xs)(_:kr xs i=Y v)(_:z v H)
inductive Az (K:af) (x:V) (y:V) (H:U) (z:VK):Prop
 |mk(p xs i v:_)(_:x=.ref p)(_:y=.int i)(_:ax K H p xs)(_:kr xs i=Y v)(_:z v H)
inductive JA (x:V) (y:V) (H:U) (A:VK):Prop
 |mk(z i c:_)(_:x=.str z)(_:y=.int i)(_:z.length<=aU)(_:kr z.cps.toList i=Y c)(_:A (.str ⟨#[c]⟩) H)
def dk:qx h (Jz h.K):=by
 intro E F N j T H K y v u U c k l m d;let⟨L,P,i,n,rfl,rfl,o,p,q⟩:=m;cases k;let⟨Q,rfl⟩:=l;let⟨r,z,D,R⟩:=c.list o;let⟨e,A,s,V,t,w⟩:=vR p;let⟨G,f,x⟩:=z.get s;have B:=z.length
 have W:=oi;have g:EP h N T U G j:=⟨n,H,c,x,q⟩
 by_cases X:0<=i
 .have M:i.toNat=e:=by
   rw [seqIndex_of X w]at A;exact aS A
  exact item_listR D.isList X (by lia) (by rw [M];simpa using f) g d
 .have M:(i+(r.toArray.size:Int)).toNat=e:=by
   rw [seqIndex_neg (by lia) t]at A;rw [eY,<-B];exact aS A
  exact R0 (x:=G) D.isList.typeIs R1.lookup
   (wpAny_getItem_list_neg (Q:=λz C=>z=G/\EP h N T U z C) D.isList (by lia) (by rw [eY]<;>lia) (by lia) (by rw [M];simpa using f) ⟨S,g⟩) d
def ku:qx h (Az h.K):=by
 intro s t D U G H w y v u M N c d e f;let⟨x,B,i,g,rfl,rfl,X,j,k⟩:=e;cases c;let⟨C,rfl⟩:=d;let⟨E,z,T,F⟩:=N.tuple X;let⟨l,m,n,K,L,P⟩:=vR j;let⟨A,o,p⟩:=z.get n;have Q:=oi
 have q:EP h D G M A U:=⟨g,H,N,p,k⟩
 exact R0 (x:=A) T.typeIs slot_tuple_getitem.lookup
  (getItem_tuple (j:=l) (Q:=λz r=>z=A/\EP h D G M z r) T (by lia) (by lia) (by rw [eY,<-z.length];exact m) (by simpa using o) ⟨S,q⟩) f
def JB:qx h JA:=by
 intro n o p D q H r y v u s G M N T U;let⟨z,i,c,rfl,rfl,t,d,e⟩:=T;let⟨f,rfl⟩:=M;let⟨w,rfl⟩:=N;let⟨x,A,g,B,X,j⟩:=vR d;have k:z.cps.toList.length=z.length:=by simp [Str.length]
 rw [k]at A X j;have C:=oi
 exact tail_any (zd D z f) slot_str_getitem.lookup (getItem_str (c:=c) (by
  have l:decide (i< -(2^63:Int))=ao:=bU (by lia);have m:decide (i>=2^63)=ao:=bU (by lia)
  rw [l,m,Bool.or_false]) (by rw [A];simpa using g) ⟨.str ⟨#[c]⟩,H,G.tok _,⟨_,S⟩,e⟩) U
def JC(A D:Option Int)(z:Nat):(pW A D O z).1=((HT.gj z 0 A:Nat):Int)/\(pW A D O z).2.1=((HT.gj z z D:Nat):Int)/\(pW A D O z).2.2=1:=by
 exists ?_,?_,S
 .cases A with
  |none=>simp [pW,HT.gj]
  |some i=>
   simp only [pW,HT.gj,R3,show(1:Int)>0 by decide,eQ];by_cases G:i<0
   .simp only [G,eQ]<;>lia
   .simp only [G,ie]<;>lia
 .cases D with
  |none=>simp [pW,HT.gj]
  |some i=>
   simp only [pW,HT.gj,R3,show(1:Int)>0 by decide,eQ];by_cases G:i<0
   .simp only [G,eQ]<;>lia
   .simp only [G,ie]<;>lia
def JD(z:List J)(A D:Option Int):slicePick z.toArray A D O=((z.drop (HT.gj z.length 0 A)).take (HT.gj z.length z.length D-HT.gj z.length 0 A)).toArray:=by let⟨G,M,N⟩:=JC A D z.toArray.size;unfold slicePick;rw [G,M,N];simp only [sliceRange_one,pick_run,eY]<;>rfl
inductive JE (K:af) (x:V) (z:Option Int) (A:Option Int) (H:U) (D:VK):Prop
 |mk(no xs:_)(_:x=.ref no)(_:av K H no xs)(_:∀p,H p=O->D (.ref p) (upd H p (.lst (gH xs z A))))
def qy:Ay h (JE h.K):=by
 intro k N l H m v n p A D q r G c d e f g;let⟨no,z,rfl,X,M⟩:=g;cases c;let⟨s,T,U,i⟩:=G.list X;have j:=T.length
 exists "list",_,R1.lookup,U.isList.typeIs,?_;refine wpAny_getItem_list_slice U.isList d e f .none (by simp) ?_ (by rw [eY]<;>lia);rw [JD,<-j];exists .ref N.heap.objs.size,_,G.laid (t':=N.toks) (o:=.lst (gH z A D)) (λs0 t M=>e8 _ M) (aR _) ?_,S,M _ (G.bf.fresh (aR _));exists cu (Jw z A D) i,_,0,(T.drop (HT.gj z.length 0 A)).take (HT.gj z.length z.length D-HT.gj z.length 0 A),gB _ S
def jC:V->Bool
 |.bw=>I
 |.bl _=>I
 |.int _=>I
 |.str _=>I
 |_=>ao
def jD:V->V->Bool
 |.bw,.bw=>I
 |.bl no,.bl s0=>no==s0
 |.bl no,.int s0=>(if no then 1 else 0)==s0
 |.int no,.bl s0=>no==(if s0 then 1 else 0)
 |.int no,.int s0=>no==s0
 |.str no,.str s0=>no==s0
 |_,_=>ao
variable{ut:V}{sc:bZ}{t:ak}
def JF{y:V}{u v:J}(M:RelV y u)(z:RelV ut v)(c:jC y=I)(N:jC ut=I):R4 sc t u v (jD y ut):=by
 cases y with
 |bw=>
  cases M;cases ut with
  |bw=>cases z;exact UR _
  |bl no=>cases z;exact US no
  |int no=>let⟨A,rfl⟩:=z;exact UT no A
  |str no=>let⟨A,rfl⟩:=z;exact UU no A
  |_=>exact absurd (show ao=I from N) d5
 |bl s0=>
  cases M;cases ut with
  |bw=>cases z;exact UW s0
  |bl no=>cases z;exact UX s0 no
  |int no=>let⟨A,rfl⟩:=z;exact UY s0 no A
  |str no=>let⟨A,rfl⟩:=z;exact UZ s0 no A
  |_=>exact absurd (show ao=I from N) d5
 |int s0=>
  let⟨D,rfl⟩:=M;cases ut with
  |bw=>cases z;exact U0 s0 D
  |bl no=>cases z;exact U1 s0 D no
  |int no=>let⟨A,rfl⟩:=z;exact U2 s0 D no A
  |str no=>let⟨A,rfl⟩:=z;exact Rw s0 D no A
  |_=>exact absurd (show ao=I from N) d5
 |str s0=>
  let⟨D,rfl⟩:=M;cases ut with
  |bw=>cases z;exact U3 s0 D
  |bl no=>cases z;exact U4 s0 D no
  |int no=>let⟨A,rfl⟩:=z;exact Rx s0 D no A
  |str no=>let⟨A,rfl⟩:=z;exact U5 s0 D no A
  |_=>exact absurd (show ao=I from N) d5
 |_=>exact absurd (show ao=I from c) d5
def hj(z:V)(u:J):Bool:=match u with
 |.none=>jD .bw z
 |.bool no=>jD (.bl no) z
 |.int i _=>jD (.int i) z
 |.str c _=>jD (.str c) z
 |_=>ao
def AA{y:V}{u:J}(z:RelV y u)(D:jC y=I):hj ut u=jD y ut:=by
 cases y with
 |bw=>cases z;rfl
 |bl no=>cases z;rfl
 |int i=>let⟨G,rfl⟩:=z;rfl
 |str c=>let⟨G,rfl⟩:=z;rfl
 |_=>exact absurd (show ao=I from D) d5
def sm:∀{z:List V} {A:List J},Vals z A->z.all jC=I->A.any (hj ut)=z.any λy=>jD y ut:=by
 intro z A M;induction M with
 |nil=>exactλ_=>S
 |cons c e d=>
  intro D;rw [iN,bx]at D;rw [uE,uE,AA c D.1,d D.2]
theorem qz{v:J}(M:RelV ut v)(N:jC ut=I):∀{D:List V} {G:List J},Vals D G->D.all jC=I->∀u∈G,R4 sc t u v (hj ut u)
 |_,_,.nil,_=>λu z=>by cases z
 |y::D,u::G,.cons d e,c=>λf z=>by
  rw [iN,bx]at c;rcases bg.mp z with rfl|z
  .rw [AA d c.1];exact JF d M c.1 N
  .exact qz M N e c.2 f z
def jE(z:V)(A:List V):Bool:=A.any λy=>jD y z
inductive vT (K:af) (z:Bool) (x:V) (y:V) (H:U) (A:VK):Prop
 |mk(p xs:_)(_:y=.ref p)(_:(av K H p xs\/ax K H p xs))(_:jC x=I)(_:xs.all jC=I)(_:A (.bl (if z then !jE x xs else jE x xs)) H)
def vU:eD h (fD .In) (vT h.K ao):=by
 intro X i j H z y v u k M c e f;let⟨l,m,rfl,A,d,N,n⟩:=f;cases e;rcases A with A|A
 .obtain⟨D,G,T,g⟩:=M.list A;refine SeqAt.in_listAt (hj z) T.isList (λU hw=>qz c d G N U (by simpa using hw)) ⟨.bl _,H,M,S,?_⟩;rwa [show D.toArray.any (hj z)=D.any (hj z)by simp,sm G N]
 .obtain⟨D,G,T,g⟩:=M.tuple A;refine SeqAt.in_tupleAt (hj z) T (λU hw=>qz c d G N U (by simpa using hw)) ⟨.bl _,H,M,S,?_⟩;rwa [show D.toArray.any (hj z)=D.any (hj z)by simp,sm G N]
def AB:eD h (fD .NotIn) (vT h.K I):=by
 intro X i j H z y v u k M c e f;let⟨l,m,rfl,A,d,N,n⟩:=f;cases e;rcases A with A|A
 .obtain⟨D,G,T,g⟩:=M.list A;refine SeqAt.notIn_listAt (hj z) T.isList (λU hw=>qz c d G N U (by simpa using hw)) ⟨.bl _,H,M,S,?_⟩;rwa [show D.toArray.any (hj z)=D.any (hj z)by simp,sm G N]
 .obtain⟨D,G,T,g⟩:=M.tuple A;refine SeqAt.notIn_tupleAt (hj z) T (λU hw=>qz c d G N U (by simpa using hw)) ⟨.bl _,H,M,S,?_⟩;rwa [show D.toArray.any (hj z)=D.any (hj z)by simp,sm G N]
inductive AD (K:af) (z:List V) (H:U) (A:VK):Prop
 |mk(p c:_)(_:z=[.ref p])(_:av K H p c\/ax K H p c)(_:A (.int c.length) H)
def el:hA h (.builtin "len") (AD h.K):=by
 intro X N i H j k l A c d;let⟨m,T,rfl,z,U⟩:=d;let⟨u,rfl,e⟩:=vals1 c;cases e;have n:=oi
 rcases z with z|z
 .obtain⟨f,D,G,g⟩:=A.list z;have M:=D.length
  exact Calls.call_len_list G.isList (by simp only [eY]<;>lia) ⟨.int T.length,H,A.tok _,⟨N.toks+1,by rw [eY,M]⟩,U⟩
 .obtain⟨f,D,G,g⟩:=A.tuple z;have M:=D.length
  exact len_tuple G (by simp only [eY]<;>lia) ⟨.int T.length,H,A.tok _,⟨N.toks+1,by rw [eY,M]⟩,U⟩
def vV:hA h (.builtin "len") (λA H D=>∃z,A=[.str z]/\z.length<=aU/\D (.int z.length) H):=by
 intro U c d H A e D G M N;let⟨z,rfl,f,T⟩:=N;let⟨u,rfl,g,rfl⟩:=vals1 M;have X:=oi
 exact len_str (by lia) ⟨.int z.length,H,G.tok _,⟨_,S⟩,T⟩
def JG:hA h (.type "list") (λm H g=>∃N D,m=[.ref N]/\(av h.K H N D\/ax h.K H N D)/\∀X,H X=O->g (.ref X) (upd H X (.lst D))):=by
 intro q T r H m B g f s t;let⟨N,D,rfl,U,v⟩:=t;let⟨u,rfl,w⟩:=vals1 s;cases w;have n:∀(A:List J),Vals D A->D.length<=aU->∀(z:aD) (G:Nat),(∀no p,T.heap.get? no=Y p->z.get? no=Y p)->
   z.get? T.heap.objs.size=Y {cls:=.type "list",dict:=O,data:=.seq A.toArray G,slots:= #[]}->EP h q r g (.ref T.heap.objs.size) {T with heap:=z}:=λA M c z G d e=>
  ⟨.ref T.heap.objs.size,_,f.laid (t':=T.toks) d (aR _) (show d2 h.prog h.w _ z _ (.lst D)from⟨c,A,G,M,e⟩),S,v _ (f.bf.fresh (aR _))⟩
 rcases U with U|U
 .obtain⟨A,M,i,c⟩:=f.list U;have x:=M.length
  let⟨o,j,k,y,l⟩:=i.isList;exact R5 N (.inl S) j k l (λz G d e=>n A M c z G d e) (by simp only [eY]<;>lia)
 .obtain⟨A,M,i,c⟩:=f.tuple U;have x:=M.length
  let⟨o,j,k,y,l⟩:=i;exact R5 N (.inr S) j k l (λz G d e=>n A M c z G d e) (by simp only [eY]<;>lia)
def vW(K:af)(z:String)(D:V)(H:U):Prop:=match D with
 |.str _=>z="str"
 |.int _=>z="int"
 |.ref p=>(z="list"/\∃G,av K H p G)\/(z="tuple"/\∃o,K.lookup p=Y o/\o.cls=.type "tuple"/\o.dict=O)\/
   (z="dict"/\((∃A,H p=Y (.dK A))\/∃A,H p=Y (.dT A)))\/(z="set"/\∃M N,H p=Y (.set M N))
 |_=>False
variable{FB:String}{pr:List (Z×aL)}{pv:St}
def AE{H:U}{v:J}(M:Inv h pr pv H t)(e:RelV ut v)(T:vW h.K FB ut H):t.TypeIs v FB/\∀no,v=.ref no->∃k,t.heap.get? no=Y k/\k.dict=O:=by
 cases ut with
 |str f=>
  let⟨g,rfl⟩:=e;cases (show FB="str"from T);exists zd t f g,λ_ z=>nomatch z
 |int i=>
  let⟨g,rfl⟩:=e;cases (show FB="int"from T);exists typeIs_int t i g,λ_ z=>nomatch z
 |ref p=>
  cases e;rcases T with⟨rfl,u,q⟩|⟨rfl,o,A,r,a⟩|⟨rfl,A⟩|⟨rfl,w,s,A⟩
  .obtain⟨x,_,l,_⟩:=M.list q;exists l.isList.typeIs,λno z=>?_;cases z;let⟨o,s,z,c,a,_⟩:=l;exists o,z,a
  .refine⟨⟨o,M.fb p o A,r⟩,λno z=>?_⟩;cases z;exists o,M.fb _ o A,a
  .have f:∃o,t.heap.get? p=Y o/\o.ExactDict:=by
    rcases A with⟨G,A⟩|⟨G,A⟩
    .obtain⟨_,_,_,_,o,_,_,z,D,_⟩:=M.bf p _ A;exists o,z,D
    .obtain⟨_,_,_,_,o,_,_,z,D,_⟩:=M.bf p _ A;exists o,z,D
   let⟨o,z,D⟩:=f;exists ⟨o,z,D.1⟩,λno j=>?_;cases j;exists o,z,D.2.1
  .obtain⟨o,_,_,_,z,D,_⟩:=M.bf p _ A;exists ⟨o,z,D.1⟩,λno j=>?_;cases j;exists o,z,D.2.1
 |_=>exact g5 T
def JH(K:af)(D:String)(G:V->List V->U->VK->Prop)(M:TE):TE:=λN H S=>M N H λz A=>vW K D z A/\G z [] A S
def JI(K:af)(G:String)(M:V->List V->U->VK->Prop)(N:TE)(S:TA):TE:=λz H T=>N z H λA D=>vW K G A D/\S z D λc d=>M A c d T
variable{Ty:String}{op:aa}{V1:V->List V->U->VK->Prop}{o:a8}
def JJ(M:PlainAttrs FB)(N:Slot FB op Ty)(U:ze (.builtin Ty)=dA (.type "method_descriptor"))(c:lr h Ty V1)(d:PE h o ss)(f:j3 o op h.env (eval o h.env)=eval o h.env:=by rfl) (g:(pu.endLine==v6.line)=I:=by rfl):PE h (.Call (.Attribute o op pu) [] [] v6) (JH h.K FB V1 ss):=by intro z X A H i j k;refine wpAny_Call_method0_late f g (aN (d z X A H _ j k) λv l ⟨m,n,D,G,p,q⟩=>?_);let⟨s,u⟩:=AE D G p;exists FB,Ty,M,N,U,s,u,pX S (R6 (c z l A n m [] v [] i D G .nil q))
variable{tz:List a8}{Ix:TA}
def fe(U:PlainAttrs FB)(c:Slot FB op Ty)(d:ze (.builtin Ty)=dA (.type "method_descriptor"))(f:lr h Ty V1)(g:PE h o ss)(X:PA h (no::tz) Ix)(i:j3 o op h.env (eval o h.env)=eval o h.env:=by rfl)(j:((fp pu (cA (no::tz) h.env)).all (λz=> !z.1)&&(l2 pu (l3 [] h.env)).all (λz=>z.1.isSome) &&decide ((no::tz).length+([]:List rC).length+(if([]:List rC).isEmpty then 0 else 1)<30))=I:=by rfl)(k:(v6.endLine==pu.line)=I:=by rfl) (l:cA (no::tz) h.env=(ao,eval no h.env)::cA tz h.env:=by rfl) (m:(fp pu (cA tz h.env)).any (·.1)=ao:=by rfl):PE h (.Call (.Attribute o op v6) (no::tz) [] pu) (JI h.K FB V1 ss Ix):=by
 intro A n D H p q s;refine wpAny_Call_method_late i j k S (aN (g A n D H _ q s) λv u ⟨z,w,G,M,x,y⟩=>?_);let⟨B,C⟩:=AE G M x;exists FB,Ty,U,c,d,B,C,?_;have N:=X pu A u D w _ G y
 rw [l]at N⊢;refine pX (by show(ao||(fp pu (cA tz h.env)).any (·.1))=ao;rw [m]<;>rfl) (uF ?_);exact aN N λE F ⟨K,L,P,Q,R⟩=>f A F D L z K v E p P M Q R
def vX(z:Cx)(a:String)(b:V->List V->U->VK->Prop):Prop:=
 ∀(A:List (Z×aL)) (D:ak) (G:St) (H:U) (M:V) (N:List V) (v:J) (S:List J) (T:VK),Inv z A G H D->RelV M v->Vals N S->b M N H T->
  aI (aM z.prog z.w) z.A (gO (.builtin a) (v::S)) (EP z A G T) z.xe D
def Vals.one:∀{z:V} {A:List J},Vals [z] A->∃u,A=[u]/\RelV z u:=by
 intro z A D;cases D with
 |cons a b=>cases b;exists _,S,a
theorem Vals.zero:∀{z:List J},Vals [] z->z=[]
 |_,.nil=>rfl
variable{t3:List V}{t0:List J}
def Vals.dropLast(D:Vals t3 t0):Vals t3.dropLast t0.dropLast:=by
 induction D with
 |nil=>exact .nil
 |cons a b c=>
  cases b with
  |nil=>exact .nil
  |cons d e=>exact .cons a c
def JK(z:List sB):z.eraseIdx (z.length-1)=z.dropLast:=by
 induction z with
 |nil=>rfl
 |cons a b d=>
  cases b with
  |nil=>rfl
  |cons c b=>
   have D:(a::c::b).length-1=((c::b).length-1)+1:=by
    have G:(a::c::b).length=b.length+2:=rfl;have M:(c::b).length=b.length+1:=rfl
    lia
   rw [D,List.eraseIdx_cons_succ,d]
   all_goals rfl
variable{d:Z}{V7:List V}{H:U}
def Inv.vY{om:List J}{z:Array J->Array J}(N:Inv h pr pv H t)(T:H d=Y (.lst V7))(U:t.heap.get? d=Y {cls:=.type "list",data:=.seq t0.toArray B}) (a:z t0.toArray=om.toArray) (c:Vals t3 om) (l:t3.length<=aU):Inv h pr pv (upd H d (.lst t3)) {t with heap:=t.heap.update d (R7 z),toks:=wE}:=by have A:=U6 U z;rw [a]at A;refine N.write (x:=d) (e:=d) (T▸trivial) (.inl S) (λs u f g=>(Heap.get?_update_other t.heap (R7 z) (eP f)).trans g) ⟨_,A⟩ ?_;exists l,om,_,c,A
theorem Inv.JL{t':Nat}(A:Inv h pr pv H t)(D:Vals t3 t0)(G:t3.length<=aU):Inv h pr pv (upd H t.heap.objs.size (.lst t3)) {t with heap:=t.heap.push {cls:=.type "list",data:=.seq t0.toArray},toks:=t'}:=
 A.laid (λ_ _ M=>e8 _ M) (aR _) ⟨G,t0,0,D,gB _ S⟩
theorem Inv.fresh(z:Inv h pr pv H t):H t.heap.objs.size=O:=z.bf.fresh (aR _)
def Inv.oo(G:Inv h pr pv H t)(M:H d=Y (.lst t3)):t3.length<=aU/\∃(z:List J) (A:Nat),Vals t3 z/\t3.length=z.length/\t.heap.get? d=Y {cls:=.type "list",data:=.seq z.toArray A}:=by let⟨N,z,A,D,S⟩:=G.bf d _ M;exists N,z,A,D,D.length,S
def JM(A:B<=aU):GA B=ao:=by unfold GA;exact bU (by lia)
inductive JN (x:V) (z:List V) (H:U) (A:VK):Prop
 |mk(l xs y:_)(_:x=.ref l)(_:z=[y])(_:H l=Y (.lst xs))(_:xs.length<aU)(_:A .bw (upd H l (.lst (xs++[y]))))
def fQ:vX h "list.append" JN:=by
 intro e f g H X i v j k A M N T;let⟨U,l,y,rfl,rfl,D,m,a⟩:=T;cases M;let⟨u,rfl,b⟩:=N.one;let⟨n,G,c,d,o,z⟩:=A.oo D;refine GB f9 ⟨_,z,S⟩ F.entry_list_append (F.args_list_append_2 _ _) (PySem.list_append U G.toArray c u (by rw [eY];lia)) ⟨z,?_⟩;exists .bw,_,A.vY (om:=G++[u]) D z (by simp) (d.append (.cons b .nil)) ?_,S,a;rw [br,List.length_singleton]
 lia
inductive JO (x:V) (z:List V) (H:U) (A:VK):Prop
 |mk(l b xs zs:_)(_:x=.ref l)(_:z=[.ref b])(_:H l=Y (.lst xs))(_:H b=Y (.lst zs))(_:xs.length+zs.length<=aU)(_:A .bw (upd H l (.lst (xs++zs))))
def vZ:vX h "list.extend" JO:=by
 intro l m n H o p v q r D N T U;let⟨a,b,s,t,rfl,rfl,M,c,w,d⟩:=U;cases N;let⟨u,rfl,e⟩:=T.one;cases e;let⟨x,z,f,g,y,G⟩:=D.oo M;let⟨B,A,X,i,C,j⟩:=D.oo c;have hsz:z.toArray.size+A.toArray.size<=aU:=by rw [eY,eY];lia
 have k:¬(!z.toArray.isEmpty&&GA (z.toArray.size+A.toArray.size))=I:=by rw [JM hsz,Bool.and_false];exact d5
 refine GB zf ⟨_,G,S⟩ F.entry_list_extend (F.args_list_extend_2 _ _)
  (AutoSeq1.list_extend_list_list_0 a z.toArray f b A.toArray X k (by rw [eY];lia) (by lia)) ⟨G,j,?_⟩
 exists .bw,_,D.vY (om:=z++A) M G (by simp) (g.append i) ?_,S,d;rw [br]
 lia
inductive JP (x:V) (z:List V) (H:U) (A:VK):Prop
 |mk(l xs y:_)(_:x=.ref l)(_:z=[])(_:H l=Y (.lst xs))(_:xs[xs.length-1]?=Y y)(_:A y (upd H l (.lst xs.dropLast)))
def JQ:vX h "list.pop" JP:=by
 intro i j k H l m v n o D N T U;let⟨a,p,y,rfl,rfl,G,b,c⟩:=U;cases N;have d:=T.zero
 subst d;let⟨q,z,e,M,f,A⟩:=D.oo G;let⟨u,r,g⟩:=M.get b;have X:z.toArray[z.toArray.size-1]?=Y u:=by show z.toArray[z.length-1]?=Y u;rwa [<-R8,<-f]
 refine GB R9 ⟨_,A,S⟩ F.entry_list_pop (F.args_list_pop_1 _) (MeetsSeq.list_pop_last a z.toArray e u X (by rw [eY];lia)) ⟨A,?_⟩;exists y,_,D.vY (om:=z.dropLast) G A ?_ M.dropLast ?_,g,c
 .rw [eY,List.eraseIdxIfInBounds_toArray,JK]
 .rw [List.length_dropLast]
  lia
inductive JR (x:V) (y:V) (H:U) (z:VK):Prop
 |mk(l b xs zs:_)(_:x=.ref l)(_:y=.ref b)(_:H l=Y (.lst xs))(_:H b=Y (.lst zs))(_:xs.length+zs.length<=aU)(_:∀p,H p=O->z (.ref p) (upd H p (.lst (xs++zs))))
def lu:eD h (y6 .Add) JR:=by
 intro X G i H j y v u k z M N T;let⟨l,m,n,o,rfl,rfl,U,a,p,b⟩:=T;cases M;cases N;let⟨q,A,r,c,s,d⟩:=z.oo U;let⟨t,D,w,e,x,f⟩:=z.oo a;refine PySem.P.add_list d f ?_ (by rw [eY,eY];lia);have g:A.toArray++D.toArray=(A++D).toArray:=by simp
 rw [g];exists .ref _,_,z.JL (t':=G.toks) (c.append e) (by rw [br];lia),S,b _ z.fresh
theorem Vals.ints:∀{A:List Int} {z:List J},Vals (A.map V.int) z->rD z A
 |[],z,a=>by rw [hP]at a;cases a;exact IntsAre.nil
 |n::A,z,a=>by
  rw [aZ]at a;cases a with
  |cons b c=>
   let⟨D,rfl⟩:=b;exact IntsAre.cons n D (Vals.ints c)
def Vals.AF(z:Vals [V.ref d] t0):t0=[cp d]:=by
 cases z with
 |cons z a=>
  cases a;cases z;rfl
variable{wf:List Int}{s5 IO:J->ak->Prop}{m:aw}{p:au}
def JS(a:sc.handled=O)(M:t.heap.IsList d t0.toArray)(N:rD t0 wf)(b:∀z D G,(∀S o,t.heap.get? S=Y o->z.get? S=Y o)->s5 (.int wf.sum G) {t with heap:=z,toks:=D}):aI (aM m p) sc (gO (.builtin "sum") [.ref d]) s5 IO t:=by
 let⟨c,T⟩:=N.allInts.items;have U:numsOf (intItems c).toList=wf:=T▸N.numsOf
 rw [Sa]at U;rw [T]at M;refine PySem.sum_intListG a M λz D G s=>?_;have:=b z D G s
 rwa [preSum_eq,j4 (by simp),U]
def JT(e:sc.handled=O)(U:t.heap.IsList d t0.toArray)(a:rD t0 wf)(f:0<wf.length)(g:∀D M N h,(∀b o,t.heap.get? b=Y o->D.get? b=Y o)->N∈wf->(∀T,T∈wf->T<=N)->s5 (.int N h) {t with heap:=D,toks:=M}):aI (aM m p) sc (gO (.builtin "max") [.ref d]) s5 IO t:=by
 let⟨G,c⟩:=a.allInts.items;have s:numsOf (intItems G).toList=wf:=c▸a.numsOf
 rw [Sa]at s;subst s;rw [c]at U;have hsz:0<G.size:=by simpa using f
 refine PySem.max_intList e U hsz λv D M i j=>?_;let⟨k,rfl⟩:=intItems_at i;let⟨r,A⟩:=argBest_gt (numAt G) (G.size-1);refine g D M _ k j ?_ λT n=>?_
 .rw [numAt_eq];exact PySem.getD_mem (by rw [z,rv];lia)
 .obtain⟨l,q,rfl⟩:=mem_getD n;rw [z,rv]at q;rw [<-numAt_eq];exact A l (by lia)
inductive JU (K:af) (z:List V) (H:U) (A:VK):Prop
 |mk(a:Z)(ns:List Int)(_:z=[V.ref a])(_:av K H a (ns.map V.int))(_:A (.int ns.sum) H)
inductive JV (K:af) (z:List V) (H:U) (A:VK):Prop
 |mk(a:Z)(ns:List Int)(_:z=[V.ref a])(_:av K H a (ns.map V.int))(_:0<ns.length)(_:∀m,m∈ns->(∀y,y∈ns->y<=m)->A (.int m) H)
def AG(A:h.calm=I):hA h (.builtin "sum") (JU h.K):=by intro b c d H e f g z D G;let⟨X,i,rfl,M,N⟩:=G;let⟨j,T,U,_⟩:=z.list M;rw [Vals.AF D];exact JS (z.ok.hd A) U.isList T.ints λk l m a=>⟨.int _,H,z.kept a,⟨_,S⟩,N⟩
def JW(A:h.calm=I):hA h (.builtin "max") (JV h.K):=by intro f g X H i j k z D G;let⟨l,m,rfl,M,N,T⟩:=G;let⟨n,U,a,_⟩:=z.list M;rw [Vals.AF D];exact JT (z.ok.hd A) a.isList U.ints N λo p b q c d e=>⟨.int _,H,z.kept c,⟨_,S⟩,T b d e⟩
mutual
inductive Dp (K:af) (H:U):V->l7->Prop
 |bw:Dp K H .bw .none
 |bl (b:Bool):Dp K H (.bl b) (.bool b)
 |int (i:Int):Dp K H (.int i) (.int i)
 |str (x:aa):Dp K H (.str x) (.str x)
 |lst {a:Z} {xs:List V} {ds:List l7}:av K H a xs->oq K H xs ds->Dp K H (.ref a) (.list ds)
 |tup {a:Z} {xs:List V} {ds:List l7}:ax K H a xs->oq K H xs ds->Dp K H (.ref a) (.tuple ds)
inductive oq (K:af) (H:U):List V->List l7->Prop
 |nil:oq K H [] []
 |cons {v:V} {c:List V} {d:l7} {ds:List l7}:Dp K H v d->oq K H c ds->oq K H (v::c) (d::ds)
end
mutual
theorem Dp.reads(a:Inv h pr pv H t):∀(d:l7) (v:V) (u:J),Dp h.K H v d->RelV v u->∃A,Reads t.heap u d A
 |.none,_,_,X,r=>by
  cases X
  cases r
  exists _,Reads.none
 |.bool b,_,_,X,r=>by
  cases X
  cases r
  exists _,Reads.bool b
 |.int i,_,_,X,r=>by
  cases X
  let⟨D,rfl⟩:=r
  exists _,Reads.int i D
 |.str x,_,_,X,r=>by
  cases X
  let⟨D,rfl⟩:=r
  exists _,Reads.str x D
 |.list z,_,_,X,r=>by
  cases X with
  |lst c e=>
   cases r
   let⟨G,M,⟨o,n,N,T,_,hd⟩,_⟩:=a.list c
   let⟨A,U⟩:=Dp.readsAll a z _ G e M
   exists _,Reads.list N T hd U
 |.tuple z,_,_,X,r=>by
  cases X with
  |tup c e=>
   cases r
   let⟨G,M,⟨o,N,T,n,hd⟩,_⟩:=a.tuple c
   let⟨A,U⟩:=Dp.readsAll a z _ G e M
   exists _,Reads.tuple N T hd U
 |.dict _,_,_,X,_=>by cases X
theorem Dp.readsAll(a:Inv h pr pv H t):∀(z:List l7) (f:List V) (g:List J),oq h.K H f z->Vals f g->∃A,ReadsAll t.heap g z A
 |[],_,_,X,r=>by
  cases X
  cases r
  exists _,ReadsAll.nil
 |d::z,_,_,X,r=>by
  cases X with
  |cons j k=>
   cases r with
   |cons l m=>
    let⟨A,p⟩:=Dp.reads a d _ _ j l
    let⟨bs,q⟩:=Dp.readsAll a z _ _ k m
    exists _,ReadsAll.cons p q
end
inductive v3 (K:af) (x:V) (y:V) (H:U) (z:VK):Prop
 |mk(d e:_)(_:Dp K H x d)(_:Dp K H y e)(_:rE d=I)(_:rE e=I)(_:z (.bl (zg d e)) H)
inductive AH (K:af) (x:V) (y:V) (H:U) (z:VK):Prop
 |mk(d e:_)(_:Dp K H x d)(_:Dp K H y e)(_:rE d=I)(_:rE e=I)(_:z (.bl (!zg d e)) H)
def v5(A:h.A.units+64<cK):eD h (fD .Eq) (v3 h.K):=by intro X i j H D y v u k z G M N;let⟨T,U,a,b,c,d,e⟩:=N;let⟨l,f⟩:=Dp.reads z T D v a G;let⟨m,g⟩:=Dp.reads z U y u b M;exact SeqAt.compareEq_shaped f g c d A ⟨.bl _,H,z,S,e⟩
def JX(A:h.A.units+64<cK):eD h (fD .NotEq) (AH h.K):=by intro X i j H D y v u k z G M N;let⟨T,U,a,b,c,d,e⟩:=N;let⟨l,f⟩:=Dp.reads z T D v a G;let⟨m,g⟩:=Dp.reads z U y u b M;exact SeqAt.compareNe_shaped f g c d A ⟨.bl _,H,z,S,e⟩
abbrev AI(z:aD)(c:Z)(v:Option J):Prop:=z.IsCell c v
def JY(A D:eh):eh:=
 {A with names:=A.names.map λ(z,G)=>if(G==.free&&D.kind==.function&&D.names.lookup z==Y .cell)then(z,.cell)else(z,G)}
def fy(z:List (aa×Z)):List (aa×ht)->List (aa×Z)->List (aa×Z)
 |[],a=>a
 |(n,k)::b,a=>if k==.free then fy z b ((n,(z.lookup n).getD 0)::a)else fy z b a
theorem AJ(A:dS)(T:aa×ht->List (aa×Z)->fC (ForInStep (List (aa×Z))))(a:∀z G c,T (z,G) c=if G==.free then(do let f<-cellOf A z;dA (.yield ((z,f)::c)))else dA (.yield c)):∀(U:List (aa×ht)) (D:List (aa×Z)),(∀y∈U,y.2=.free->∃c,A.cells.lookup y.1=Y c)->uG U D T=dA (fy A.cells U D)
 |[],D,_=>by rw [uH];rfl
 |(z,G)::g,D,b=>by
  rw [GC,a];have d:=λD=>AJ A T a g D λy h=>b y (bC _ h)
  unfold fy;by_cases M:(G==uI)=I
  .rw [ai M,ai M];let⟨c,e⟩:=b (z,G) bE (by simpa using M);have i:cellOf A z=dA c:=by unfold cellOf;rw [e]
   rw [i];have j:(A.cells.lookup z).getD 0=c:=by rw [e];rfl
   rw [j];exact d _
  .rw [N M,N M];exact d _
def JZ{z:eh}{A:dS}(D:∀y∈z.names,y.2=.free->∃c,A.cells.lookup y.1=Y c):closureFor z A=dA (fy A.cells z.names []):=by simp only [closureFor];rw [AJ A _ (λG M c=>S) z.names [] D];rfl
theorem mem_lookup:∀{D:List (aa×sB)} {z:aa} {c:sB},(z,c)∈D->∃G,D.lookup z=Y G
 |(k,v)::b,z,c,h=>by
  rw [pY];cases a:z==k with
  |true=>exists _,S
  |false=>
   rcases bg.mp h with M|h
   .cases M;simp at a
   .exact mem_lookup h
set_option tactic.hygienic true
variable{V4:List (aa×Z)}
theorem sr:∀{N:List (aa×ht)} {D:List (aa×Z)} {A:aa} {c:Z},(A,c)∈fy V4 N D->(A,c)∈D\/((A,.free)∈N/\c=(V4.lookup A).getD 0)
 |[],_,_,_,z=>.inl z
 |(m,k)::d,D,A,c,z=>by
  unfold fy at z;split at z
  .rename_i G;have G:k=.free:=by simpa using G
   rcases sr z with z|⟨a,b⟩
   .rcases bg.mp z with T|z
    .cases T;exact .inr ⟨G▸bE,S⟩
    .exact .inl z
   .exact .inr ⟨bC _ a,b⟩
  .rcases sr z with z|⟨a,b⟩
   .exact .inl z
   .exact .inr ⟨bC _ a,b⟩
set_option tactic.hygienic false
theorem v7:∀{G:List (aa×ht)} {z:List (aa×Z)} {A:aa×Z},A∈z->A∈fy V4 G z
 |[],_,_,a=>a
 |(m,k)::b,z,A,a=>by
  unfold fy;split
  .exact v7 (bC _ a)
  .exact v7 a
theorem v8{cells:List (aa×Z)}:∀{A:List (aa×ht)} {acc:List (aa×Z)} {z:aa},(z,.free)∈A->(z,(cells.lookup z).getD 0)∈fy cells A acc
 |(m,k)::a,acc,z,h=>by
  unfold fy;rcases bg.mp h with D|h
  .cases D;exact v7 bE
  .split
   .exact v8 h
   .exact v8 h
set_option tactic.hygienic true
theorem qA:∀{M:List (aa×ht)} {A:aD} {T:List (aa×Z)} {G:aa} {c:Z},(G,c)∈fE A.objs.size M T->(G,c)∈T\/((G,.cell)∈M/\A.objs.size<=c/\AI (nH A M) c O)
 |[],_,_,_,_,A=>.inl A
 |(n,k)::e,A,T,G,c,z=>by
  unfold fE at z;unfold nH;split at z
  .rename_i D;rw [ai D];have D:k=.cell:=by simpa using D
   rw [<-jr A {cls:=.type "cell",data:=.cell O}]at z;rcases qA z with z|⟨b,a,d⟩
   .rcases bg.mp z with U|z
    .cases U;exact .inr ⟨D▸bE,aR _,_,zh e _ _ _ (gB _ S),S⟩
    .exact .inl z
   .rw [jr]at a;exact .inr ⟨bC _ b,uJ a,d⟩
  .rename_i D;rw [N D];rcases qA z with z|⟨b,a,d⟩
   .exact .inl z
   .exact .inr ⟨bC _ b,a,d⟩
set_option tactic.hygienic false
theorem su:∀{names:List (aa×ht)} {n:Nat} {z:List (aa×Z)} {A:aa×Z},A∈z->A∈fE n names z
 |[],_,_,_,a=>a
 |(m,k)::b,n,z,A,a=>by
  unfold fE;split
  .exact su (bC _ a)
  .exact su a
theorem v9:∀{A:List (aa×ht)} {n:Nat} {acc:List (aa×Z)} {z:aa},(z,.cell)∈A->∃c,(z,c)∈fE n A acc
 |(m,k)::a,n,acc,z,h=>by
  unfold fE;rcases bg.mp h with D|h
  .cases D;exists n,su bE
  .split
   .exact v9 h
   .exact v9 h
set_option tactic.hygienic true
theorem wa:∀{f:List (aa×ht)} {h:aD} {A:List (aa×Z)} {z y:aa} {c:Z},(∀M∈A,M.2<h.objs.size)->(∀z y c,(z,c)∈A->(y,c)∈A->z=y)->(z,c)∈fE h.objs.size f A->(y,c)∈fE h.objs.size f A->z=y
 |[],_,_,_,_,_,_,d,b,a=>d _ _ _ b a
 |(n,k)::j,h,A,z,y,c,e,d,b,a=>by
  unfold fE at b a;split at b
  .rename_i T;rw [ai T]at a;rw [<-jr h {cls:=.type "cell",data:=.cell O}]at b a;refine wa (h:=h.push _) (λM U=>?_) (λz y c D G=>?_) b a
   .rw [jr];rcases bg.mp U with rfl|U
    .exact pU _
    .exact GD (e M U)
   .rcases bg.mp D with g|D<;>rcases bg.mp G with i|G
    .cases g;cases i;rfl
    .cases g;exact absurd (e _ G) (jY _)
    .cases i;exact absurd (e _ D) (jY _)
    .exact d _ _ _ D G
  .rename_i T;rw [N T]at a;exact wa e d b a
set_option tactic.hygienic false
variable{Pv:Option Z}{wl:J}{q:Z}{Ps:kS}
def J0{A:eh}{U:dS}{b:dS->ak->Prop}(g:b (newEnv A t.heap.objs.size d (fE (t.heap.objs.size+1) A.names V4) op Pv wl (Y U) q) {t with heap:=nH (t.heap.push {cls:=.type "dict",data:=.dict #[]}) A.names}):aI Ps sc (Sb A d V4 [] op Pv wl (Y U) q) b s5 t:=by simp only [Sb,Sd,eQ];refine aH (wpAny_alloc ?_);refine aH (wpAny_layCells _ (λh i c=>S) A.names V4 _ _ ?_);rw [show({t with heap:=t.heap.push {cls:=.type "dict",data:=.dict #[]}}:ak).heap.objs.size=t.heap.objs.size+1 from jr ..];rw [uH];exact aH (bu (bu g))
theorem wb{D:eh}:∀{d:List (aa×ht)} {T:aa} {G:ht},(d.map λ(A,G)=>if(G==uI&&D.kind==.function&&D.names.lookup A==Y .cell)then(A,Se)else(A,G)).lookup T=Y G->∃U,d.lookup T=Y U/\(G=U\/(U=.free/\G=.cell))
 |[],_,_,c=>by simp at c
 |(A,b)::e,T,G,c=>by
  have f:= @wb D e T G;have z:nE T ((if(b==uI&&D.kind==.function&&D.names.lookup A==Y .cell)=I then(A,Se)else(A,b))::(e.map _))=Y G:=c
  cases a:T==A with
  |true=>
   simp only [pY,a];by_cases M:(b==uI&&D.kind==.function&&D.names.lookup A==Y .cell)=I
   .rw [ai M]at z;simp only [pY,a]at z;cases z;simp only [bx,iM]at M;exists b,S,.inr ⟨M.1.1,S⟩
   .rw [N M]at z;simp only [pY,a]at z;cases z;exists _,S,.inl S
  |false=>
   simp only [pY,a];by_cases M:(b==uI&&D.kind==.function&&D.names.lookup A==Y .cell)=I
   .rw [ai M]at z;simp only [pY,a]at z;exact f z
   .rw [N M]at z;simp only [pY,a]at z;exact f z
structure qB(N:List aa)(A z:eh)(own:List (aa×Nat)):Prop where
 kind:z.kind=.function
 uniq:∀y∈z.names,z.names.lookup y.1=Y y.2
 ix:∀p∈own,N[p.2]?=Y p.1
 free:∀y∈z.names,y.2=.free->A.names.lookup y.1=Y .cell\/A.names.lookup y.1=Y .free
 own:∀y∈z.names,y.2=.local\/y.2=.cell->y.1∈own.map (·.1)\/y.1∉N
def wipe(z:St):List Nat->St
 |[]=>z
 |v::a=>(wipe z a).set v O
theorem wc(z:St):∀A:List Nat,(wipe z A).length=z.length
 |[]=>rfl
 |v::A=>by unfold wipe;rw [List.length_set,wc z A]
theorem we{i:Nat}:∀{z:List Nat},(wipe pv z)[i]?=Y (Y ut)->pv[i]?=Y (Y ut)/\i∉z
 |[],a=>⟨a,by simp⟩
 |v::z,a=>by
  unfold wipe at a;by_cases D:v=i
  .subst D;by_cases M:v<(wipe pv z).length
   .rw [uq M]at a;cases a
   .rw [GG (by simpa using M)]at a;cases a
  .rw [ur D]at a;let⟨N,S⟩:=we a;exact⟨N,by simp only [bg,pZ];exact⟨λT=>D T.symm,S⟩⟩
abbrev Cx.fR(z:Cx)(A:ak)(H:U)(D:eh)(G:dS)(M:List Z):Cx:={z with ea:=A,jx:=H,env:=G,outer:=z.stack,ex:=M,fn:=λN=>D.names.lookup N==Y .cell,pn:=[],xe:=λ_ _=>False}
variable{v2:List Z}{VW:List (aa×Nat)}
def J1{G:eh}(D:Inv h pr pv H t)(g:qB h.N h.env.scope G VW)(ap:h.N.Nodup)(r:∀N∈v2,i1 h pr H N/\N<t.heap.objs.size):Inv (h.fR t H G (iO G (fE (t.heap.objs.size+1) G.names (fy h.env.cells G.names [])) t.heap.objs.size h.env) v2) [] (wipe pv (VW.map (·.2))) H {t with heap:=nH (t.heap.push {cls:=.type "dict",data:=.dict #[]}) G.names}:=by
 have as:∀y∈G.names,y.2=.free->∃c,h.env.cells.lookup y.1=Y c:=λy e z=>by
  rcases g.free y e z with M|M
  .exact D.ok.has _ (.inl M)
  .exact D.ok.has _ (.inr M)
 generalize v:iO G (fE (t.heap.objs.size+1) G.names (fy h.env.cells G.names [])) t.heap.objs.size h.env=a;have B:∀N o,t.heap.get? N=Y o->(nH (t.heap.push {cls:=.type "dict",data:=.dict #[]}) G.names).get? N=Y o:=λN o z=>zh _ _ _ _ (e8 _ z)
 have C:a.locals=t.heap.objs.size:=by rw [<-v];rfl
 have p:a.cells=fE (t.heap.objs.size+1) G.names (fy h.env.cells G.names []):=by rw [<-v];rfl
 have R:a.scope=JY G h.env.scope:=by rw [<-v];rfl
 rw [<-jr t.heap {cls:=.type "dict",data:=.dict #[]}]at p;have w:∀{y c},(y,c)∈fy h.env.cells G.names []->h.env.cells.lookup y=Y c/\c<t.heap.objs.size:=λ{y c} U=>by
  rcases sr U with U|⟨T,rfl⟩
  .cases U
  .obtain⟨c,ad⟩:=as _ T S;rw [ad];let⟨E,A⟩:=D.cell _ _ ad;exists S,A.lt
 have V:∀{y c},a.cells.lookup y=Y c->(h.env.cells.lookup y=Y c/\c<t.heap.objs.size)\/(t.heap.objs.size+1<=c/\AI (nH (t.heap.push {cls:=.type "dict",data:=.dict #[]}) G.names) c O):=λ{y c} z=>by
  rw [p]at z;rcases qA (hO z)with U|⟨_,f,a0⟩
  .exact .inl (w U)
  .rw [jr]at f;exact .inr ⟨f,a0⟩
 have al:∀{y},G.names.lookup y=Y .free->∃c,a.cells.lookup y=Y c/\h.env.cells.lookup y=Y c:=λ{y} F=>by
  have e:=hO F;let⟨K,b⟩:=mem_lookup (su (names:=G.names) (n:=(t.heap.push {cls:=.type "dict",data:=.dict #[]}).objs.size) (v8 (cells:=h.env.cells) (acc:=[]) e));rw [<-p]at b;exists K,b,?_;rw [p]at b;rcases qA (hO b)with U|⟨T,_,_⟩
  .exact(w U).1
  .have:=g.uniq _ T;rw [F]at this;cases this
 have a1:(h.fR t H G a v2).Ok:=by
  refine⟨D.ok.mod,by rw [R];exact g.kind,by rw [<-v];exact D.ok.glob,by rw [<-v];exact D.ok.blt,by rw [C];exact aR _,
   λy A c X j=>?_,λy e=>?_,λy c A z=>?_,D.ok.hd,D.ok.frames,.inl S,λN k=>⟨?_,λy c z A=>?_⟩,D.bs,cu D.ok.ip D.sz,λN o z k=>?_,λN k A=>?_,D.stack,D.r4⟩
  .have X:=X;have j:=j
   rw [p]at X j;refine wa (λl s=>?_) (λy A c a2 N=>D.ok.inj y A c (w a2).1 (w N).1) (hO X) (hO j);rw [jr];exact GD (w (y:=l.1) (c:=l.2) s).2
  .have u:∀M,a.kindOf y=Y M->(M=.cell\/M=.free)->∃c,a.cells.lookup y=Y c:=λM q W=>by
    unfold Env.kindOf at q;rw [R]at q;let⟨m,z,x⟩:=wb q;have:m=.cell\/m=.free:=by
     rcases x with rfl|⟨rfl,_⟩
     .exact W
     .exact .inr S
    rcases this with rfl|rfl
    .obtain⟨c,U⟩:=v9 (n:=(t.heap.push {cls:=.type "dict",data:=.dict #[]}).objs.size) (acc:=fy h.env.cells G.names []) (hO z);let⟨K,b⟩:=mem_lookup U;exact⟨K,by rw [p];exact b⟩
    .obtain⟨c,T,_⟩:=al z;exists c,T
   rcases e with e|e
   .exact u _ e (.inl S)
   .exact u _ e (.inr S)
  .have A:=A;have A:G.names.lookup y=Y .cell:=by simpa using A
   have z:=z;rw [p]at z;rcases qA (hO z)with U|⟨_,f,_⟩
   .rcases sr U with U|⟨T,_⟩
    .cases U
    .have L:=g.uniq _ T;rw [A]at L;cases L
   .rw [jr]at f;exact uJ f
  .rw [C];exact fB (r N k).2
  .have z:=z;rcases V z with⟨T,_⟩|⟨T,_⟩
   .exact(r N k).1.2.2.2.2.1 y c T A
   .have f:t.heap.objs.size+1<=N:=by rw [<-A];exact T
    exact absurd (gM (r N k).2 (uJ f)) (jY _)
  .rcases(r N k).1.2.2.2.1 with A|A
   .exact D.ok.mm N o z A
   .exact absurd (gM (dN z) (cu D.ok.ip A)) (jY _)
  .rcases bg.mp (D.r3 N A)with A|A
   .exact(r N k).1.2.1 A
   .exact(r N k).1.2.2.1 A
 refine⟨a1,S,D.bare,Un.kept B,⟨λ_=>O,?_,λi y a3 X j d=>?_⟩,λy c z=>?_,?_,λy c z=>?_,λl s=>?_,D.bf.kept B,by rw [wc];exact D.len⟩
 .rw [C];exact Heap.Ns.keeps (Heap.Ns.new ..) λN o z=>zh _ _ _ _ z
 .obtain⟨j,a4⟩:=we j;have P:G.names.lookup y=Y .free/\(a.kindOf y=Y .cell\/a.kindOf y=Y .free):=by
   have u:∀M,a.scope.names.lookup y=Y M->M=.local\/M=.cell\/M=.free->G.names.lookup y=Y .free/\(a.kindOf y=Y .cell\/a.kindOf y=Y .free):=λM q W=>by
    have am:=q;rw [R]at q;let⟨m,z,x⟩:=wb q;have an:¬(m=.local\/m=.cell):=λa5=>by
     rcases g.own _ (hO z) a5 with b|b
     .obtain⟨l,s,bd⟩:=bH.mp b;have d:=g.ix l s
      have:l.1=y:=bd;rw [this]at d;exact a4 (bH.mpr ⟨l,s,vp ap d X⟩)
     .exact b (cG X)
    rcases x with rfl|⟨rfl,rfl⟩
    .rcases W with rfl|rfl|rfl
     .exact absurd (.inl S) an
     .exact absurd (.inr S) an
     .exact⟨z,.inr am⟩
    .exact⟨z,.inl am⟩
   have d:=d;rcases d with d|d|d
   .exact u _ d (.inl S)
   .exact u _ d (.inr (.inl S))
   .exact u _ d (.inr (.inr S))
  let⟨bi,bk,F⟩:=D.loc;have be:r2 h.env.scope y:=(g.free _ (hO P.1) S).elim (λM=>.inr (.inl M)) (λM=>.inr (.inr M))
  let⟨E,x,L⟩:=F i y a3 X j be;exists E,x,.inr ⟨P.2,?_⟩;let⟨c,T,f⟩:=al P.1;rcases L with⟨M,_⟩|⟨_,K,b,A⟩
  .have M:h.env.scope.names.lookup y=Y .local:=M;rcases g.free _ (hO P.1) S with m|m<;>rw [show h.env.scope.names.lookup y=_ from m]at M<;>cases M
  .rw [f]at b;cases b;exists c,T,A.keeps B
 .have z:a.cells.lookup y=Y c:=z;rcases V z with⟨T,_⟩|⟨_,A⟩
  .obtain⟨E,A⟩:=D.cell y c T;exists E,A.keeps B
  .exact⟨_,A⟩
 .rw [C];exact D.bf.fresh (aR _)
 .have z:a.cells.lookup y=Y c:=z;rcases V z with⟨T,_⟩|⟨T,_⟩
  .exact D.gG y c T
  .exact D.bf.fresh (uJ T)
 .exact absurd (show l∈([]:List (Z×aL))++[]from s) (by simp)
variable{X:Cx}
def J2{y:V}{v:J}(G:Inv X pr pv H t)(M:H d=Y (.lst t3))(b:t3.length<aU)(c:RelV y v)(z:∀N,Inv X pr pv (upd H d (.lst (t3++[y]))) N->s5 .none N):aI (aM X.prog X.w) X.A (gO (.builtin "list.append") [.ref d,v]) s5 IO t:=by
 let⟨m,e,f,T,g⟩:=G.bf d _ M;have n:=T.length
 refine append_at (hsz:=by rw [eY];lia) g λh i U=>?_;refine z {t with heap:=h} (G.write (t':=t.toks) (by rw [M];trivial) (.inl S) (λj u k l=>(i.2 j k).trans l) ⟨_,U⟩ ⟨by rw [br];exact b,e++[v],f+1,T.append (.cons c .nil),?_⟩);rw [U];simp
def qC(X:Cx)(D:List a8)(G:TT):Prop:=
 ∀(pr:List (Z×aL)) (t:ak) (pv:St) (H:U) (z:Bool->U->Prop),Inv X pr pv H t->G pv H z->
  aI (aM X.prog X.w) X.A (uG D I λc A=>if A=I then do let M<-isTrue c X.env (eval c X.env);dA (p1 M)else dA (p1 A)) (TP X pr pv z) X.xe t
def hk:TT:=λ_ H z=>z I H
theorem hB:qC h [] hk:=λ_ _ _ H _ z A=>wpAny_tests_nil ⟨H,z,A⟩
variable{Id:TT}
theorem kv{c:a8}(A:PT h c Id):qC h [c] Id:=λpr t pv H D G hw=>wpAny_tests_one (A pr t pv H D G hw)
theorem ot{D:fC sB}{G M:sB->ak->Prop}(a:aI Ps sc D G (λ_ _=>False) t)(b:∀T t,G T t->M T t):aI Ps sc D M s5 t:=g4 a b λ_ _ c=>g5 c
variable{VU:Result->ak->Prop}{Op:a8}
def J3{x:eh}{y:b2}{i:J}{G:dS}(e:Nat->ak->Prop)(B:∀a t,e a t->aI (aM m p) sc (pR i) (λd j=>match d with
   |none=>VU (.ok .next) j
   |some v=>aI (aM m p) sc (y3 no i v) (λ_ o=>aI (aM m p) sc (assign no G v) (λ_ z=>aI (aM m p) sc (uG tz I λc d=>if d=I then do let f<-isTrue c G (eval c G);dA (p1 f)else dA (p1 d)) (λf k=>if f=I then aI (aM m p) sc (eval s0 G) (λq r=>
       aI (aM m p) sc (gO (.builtin "list.append") [wl,q]) (λ_ s=>∃g,g<a/\e g s) (rF (aM m p) sc G λM N=>VU (.error M) N) r) (rF (aM m p) sc G λM N=>VU (.error M) N) k
      else∃g,g<a/\e g k) (rF (aM m p) sc G λM N=>VU (.error M) N) z) (rF (aM m p) sc G λM N=>VU (.error M) N) o) (rF (aM m p) sc G λM N=>VU (.error M) N) j) (rF (aM m p) sc G λM N=>VU (.error M) N) t)
  (a:Nat) (C:e a t):
  pT (aM m p) sc (.compLoop (.ListComp s0 [⟨no,Op,tz,0⟩] x y) 0 i wl G) VU t:=by
 refine codeAny_loop S e (λa t E=>?_) a C;refine wpAny_noted ?_;rw [compTurn_list];refine aH (Sf (aH (g4 (B a t E) (λd j A=>?_) λ_ _ T=>T)));cases d with
 |none=>exact bu A
 |some v=>
  refine aH (g4 A (λ_ o F=>?_) λ_ _ T=>T);refine aH (g4 F (λ_ z H=>aH (g4 H (λf k u=>?_) λ_ _ T=>T)) λ_ _ T=>T);cases f with
  |false=>exact bu ⟨S,u⟩
  |true=>
   exact aH (aH (g4 u (λq r K=>aH (g4 K (λ_ s L=>bu (bu ⟨S,L⟩)) λ_ _ T=>T)) λ_ _ T=>T))
def wg(h:TI)(j:TG)(k:TT)(l:TE)(G:List Nat):TE:=λM H m=>h M H λN c=>∀z,c z=O->∃S:Nat->Nat->U->Prop,(∃D,S 0 D (upd c z (.lst [])))/\∀i D H,S i D H->
 (N.stop i H/\m (.ref z) H)\/(N.go i H/\∃T:U->Prop,(∀A,T A->∃d,d<D/\S (i+1) d A)/\∀e A,N.hc i H e A->j e (wipe M G) A λa n=>wipe a G=wipe M G/\k a n λo f=>if o=I then l a f λy g=>∃b,g z=Y (.lst b)/\b.length<aU/\T (upd g z (.lst (b++[y])))else T f)
variable{IR:VK}{FM:TG}
def AK{H:U}{K:a8}{A:eh}{bn:TI}{use:Option (J->fC Unit)}{Qf:J->ak->Prop}(ca:X.calm=I) (dx:X.N.Nodup) (a0:Inv X pr pv H t) (dK:PI X s0 no bn) (P:qB X.N X.env.scope A VW)(dL:∀(t:ak) (H:U) (g:Z) (F:List (aa×Z)) (D:List Z),PG (X.fR t H A (iO A F g X.env) D) s0 FM) (dT:∀(t:ak) (H:U) (g:Z) (F:List (aa×Z)) (D:List Z),qC (X.fR t H A (iO A F g X.env) D) tz Id)(dX:∀(t:ak) (H:U) (g:Z) (F:List (aa×Z)) (D:List Z),PE (X.fR t H A (iO A F g X.env) D) K ss) (d0:∀m,y5 no X.env m=dA m)(d1:wg bn FM Id ss (VW.map (·.2)) pv H IR)(em:∀T g b n N,Inv X pr pv N b->IR (.ref T) N->b.heap.Ns g n->i1 X pr N g->GH (aM X.prog X.w) X.A X.xe use Qf (.ref T) g (.ok .next) b):aI (aM X.prog X.w) X.A (comprehension (.ListComp K [⟨s0,no,tz,0⟩] A pu) A X.env v6 (newList []) ao (eval no X.env) use) Qf X.xe t:=by
 have eq:∀y∈A.names,y.2=.free->∃c,X.env.cells.lookup y.1=Y c:=λy a1 M=>by
  rcases P.free y a1 M with a2|a2
  .exact a0.ok.has _ (.inl a2)
  .exact a0.ok.has _ (.inr a2)
 refine wpAny_comprehension_free (use:=use) S d0 (JZ eq) P.kind (λy a1 M=>by rw [P.uniq y a1,M])
  (aN (dK pr t pv H _ a0 d1) λjp kk es=>aN es λkp s ev=>?_)
 let⟨cd,D,Q,ks,k,M,ce,h,ci,cl,ex⟩:=ev;subst M;refine zi (J0 ?_) (by show 0<=aU;decide);generalize R:s.heap.objs.size=T;have fa:k T=O:=ce.bf.fresh (uz R)
 let⟨cn,⟨fd,co⟩,fl⟩:=ex T fa;generalize cr:({s with heap:=s.heap.push {cls:=.type "list",data:=.seq ([]:List J).toArray}}:ak)=a;have V:Inv X pr pv (upd k T (.lst [])) a:=by rw [<-cr];refine ce.laid (t':=s.toks) (λz o M=>e8 _ M) (uz R) ⟨cP _,[],0,.nil,?_⟩;rw [<-R];exact gB _ S
 have cs:a.heap=s.heap.push {cls:=.type "list",data:=.seq ([]:List J).toArray}:=by rw [<-cr]
 have sz:∀z∈D,z<s.heap.objs.size:=λz G=>by let⟨o,M,_⟩:=h.obj _ _ ci z G;exact dN M
 have p:∀z∈D,i1 X pr (upd k T (.lst [])) z/\z<a.heap.objs.size:=λz G=>by have ct:=sz z G;refine⟨⟨?_,(cl z G).2⟩,by rw [cs,jr];exact GD ct⟩;rw [ah (by rw [<-R];exact fB ct)];exact(cl z G).1
 have fm:Q 0 a.heap:=h.keep _ _ _ ci λz _ o M=>by rw [cs];exact e8 _ M
 have W:=J1 V P dx p;have a3:=dL a (upd k T (.lst [])) a.heap.objs.size (fE (a.heap.objs.size+1) A.names (fy X.env.cells A.names [])) D
 have a4:=dT a (upd k T (.lst [])) a.heap.objs.size (fE (a.heap.objs.size+1) A.names (fy X.env.cells A.names [])) D;have a5:=dX a (upd k T (.lst [])) a.heap.objs.size (fE (a.heap.objs.size+1) A.names (fy X.env.cells A.names [])) D
 show pT _ _ (.compStart (.ListComp K [⟨s0,no,tz,0⟩] A pu) 0 (.ref cd) (.ref T) (iO A (fE (a.heap.objs.size+1) A.names (fy X.env.cells A.names [])) a.heap.objs.size X.env)) (GH (aM X.prog X.w) X.A X.xe use Qf (.ref T) a.heap.objs.size) {a with heap:=nH (a.heap.push {cls:=.type "dict",data:=.dict #[]}) A.names};have c0:∀z∈D,(upd k T (.lst [])) z=O:=λz G=>(p z G).1.1
 generalize fn:iO A (fE (a.heap.objs.size+1) A.names (fy X.env.cells A.names [])) a.heap.objs.size X.env=d at W a3 a4 a5⊢;have c1:d.locals=a.heap.objs.size:=by subst fn;rfl
 generalize kt:upd k T (.lst [])=j at V W a3 a4 a5 co c0 p;generalize fr:({a with heap:=nH (a.heap.push {cls:=.type "dict",data:=.dict #[]}) A.names}:ak)=c2 at W⊢;have c3:Q 0 c2.heap:=h.keep _ _ _ fm λz _ o M=>by rw [<-fr];exact zh _ _ _ _ (e8 _ M)
 have bd:∀{c4:St} {N:U} {b:ak},Inv (X.fR a j A d D) [] c4 N b->(∀z∈D,N z=O)->∀z∈D,i1 (X.fR a j A d D) [] N z:=λ{c4 N b} e w z G=>
  ⟨w z G,(e.ok.n9 z G).1,e.ok.mn z G,.inl G,λm c M=>(e.ok.n9 z G).2 m c M,λfs fT=>absurd (show fs∈([]:List (Z×aL))++[]from fT) (by simp)⟩
 have c5:pT (aM X.prog X.w) X.A (.compLoop (.ListComp K [⟨s0,no,tz,0⟩] A pu) 0 (.ref cd) (.ref T) d) (GH (aM X.prog X.w) X.A X.xe use Qf (.ref T) a.heap.objs.size) c2:=by
  refine J3 (λab b=>∃i N,Inv (X.fR a j A d D) [] (wipe pv (VW.map (·.2))) N b/\Q i b.heap/\(∀z∈D,N z=O)/\cn i ab N) ?_ fd ⟨0,j,W,c3,c0,co⟩;rintro ab c6 ⟨i,q,ad,c7,c8,f0⟩;rcases fl i ab q f0 with⟨stop,f1⟩|⟨go,f2,f4,step⟩
  .have f8:=h.done (X.fR a j A d D) S rfl rfl ca i [] c6 _ q (λ_ _=>False) ad (bd ad c8) c7 stop;refine ot f8 λga al ⟨be,x⟩=>?_;subst be;have am:Inv X pr pv q al:=V.qm (ch:=D) x.os x.base x.bf x.bare λz G=>⟨(p z G).1.2.2.2.1,(p z G).1.2.1,(p z G).1.2.2.2.2.1,(p z G).1.2.2.2.2.2⟩
   have ge:q a.heap.objs.size=O:=by have B:q d.locals=O:=x.free;rw [c1]at B;exact B
   let⟨n,w,_⟩:=x.loc;have w:al.heap.Ns d.locals n:=w
   rw [c1]at w;exact em T a.heap.objs.size al n q am f1 w (V.og (aR _) ge)
  .have gl:=h.item (X.fR a j A d D) S rfl rfl ca i [] c6 _ q (λ_ _=>False) ad (bd ad c8) c7 go;refine ot gl λga al ⟨u,be,gt⟩=>?_;subst be;refine ot gt λ_ bi ⟨m,c9,am,g1,g2,bk,g3⟩=>?_;have hd:=am.pinned (bd am g3) (h.obj _ _ bk)
   refine ot (a3 _ bi _ c9 m u _ hd g1 (step m c9 g2)) λ_ he ⟨an,hf,hi,db,hm⟩=>?_;refine ot (a4 _ he an hf _ hi hm) λz hz ⟨h0,dd,ap⟩=>?_;have dl:∀{b:ak} {N:U},Inv (X.fR a j A d D) ([]++qr D bi.heap) an N b->f2 N->∃n,n<ab/\∃i N,Inv (X.fR a j A d D) [] (wipe pv (VW.map (·.2))) N b/\Q i b.heap/\(∀z∈D,N z=O)/\cn i n N:=λ{b N} e bl=>by
    let⟨h1,h2,id⟩:=f4 N bl;have dp:∀z∈D,∀o,bi.heap.get? z=Y o->b.heap.get? z=Y o/\N z=O:=λz G o M=>
     let B:=e.pin (z,o) (eH _ (eH _ (vA G M)))
     ⟨B.1,B.2.1⟩
    have ii:(wipe pv (VW.map (·.2))).length=an.length:=by rw [<-db,wc]
    exists h1,h2,i+1,N,(e.r9 (pins:=[])).weak ii (λkw v M=>?_),h.keep _ _ _ bk λz G o M=>(dp z G o M).1,λz G=>?_,id
    .rw [<-db]at M;exact(we M).1
    .obtain⟨o,M,_⟩:=h.obj _ _ bk z G;exact(dp z G o M).2
   cases z with
   |false=>
    simp only [nJ,ie]at ap⊢;exact dl dd ap
   |true=>
    simp only [eQ]at ap⊢;refine ot (a5 _ hz an h0 _ dd ap) λB kP ⟨kV,k0,im,io,k1,is,it,bl⟩=>?_;exact J2 (X:=X.fR a j A d D) im is it io λk2 ix=>dl ix bl
 exact codeAny_compStart_list c5 (h.self X.A 0 _ _ _ c3 c5)
def fS{z:eh}{own:List (aa×Nat)}{c:TI}(i:h.calm=I)(j:h.N.Nodup)(k:PI h no s0 c)(l:qB h.N h.env.scope z own)(m:∀(A:ak) (H:U) (D:Z) (G:List (aa×Z)) (M:List Z),PG (h.fR A H z (iO z G D h.env) M) no FM) (n:∀(A:ak) (H:U) (D:Z) (G:List (aa×Z)) (M:List Z),qC (h.fR A H z (iO z G D h.env) M) tz Id)(p:∀(A:ak) (H:U) (D:Z) (G:List (aa×Z)) (M:List Z),PE (h.fR A H z (iO z G D h.env) M) Op ss) (q:∀g,y5 s0 h.env g=dA g:=by intro _;rfl):PE h (.ListComp Op [⟨no,s0,tz,0⟩] z pu) (wg c FM Id ss (own.map (·.2))):=by
 intro ab A ad H al r s;rw [eval_ListComp];refine AK i j r k l m n p q s λt D u v w x y B C=>⟨v,B,λam E=>?_⟩
 let⟨F,K,an,L,P,Q⟩:=C;exists .ref t,w,x.turned (t':=u.toks) (λR o V W=>(E.2 R V).trans W) F K L P Q,S,y
variable{Wc:b2}
def sv{i:Nat}{y:aa}{z:eh}{own:List (aa×Nat)}{k:TI}(u:h.calm=I)(p:h.N.Nodup)(w:h.N[i]?=Y y)(q:h.env.scope.names.lookup y=Y .local)(x:lZ (.ListComp Op [⟨no,s0,tz,0⟩] z v6) (Y (.Name y pu)) Wc.line h.env=dA I) (B:PI h no s0 k) (C:qB h.N h.env.scope z own)(E:∀(D:ak) (H:U) (A:Z) (G:List (aa×Z)) (M:List Z),PG (h.fR D H z (iO z G A h.env) M) no FM) (F:∀(D:ak) (H:U) (A:Z) (G:List (aa×Z)) (M:List Z),qC (h.fR D H z (iO z G A h.env) M) tz Id)(K:∀(D:ak) (H:U) (A:Z) (G:List (aa×Z)) (M:List Z),PE (h.fR D H z (iO z G A h.env) M) Op ss) (L:∀r,y5 s0 h.env r=dA r:=by intro _;rfl):PS h (.Assign [.Name y pu] (.ListComp Op [⟨no,s0,tz,0⟩] z v6) Wc) (vy (wg k FM Id ss (own.map (·.2))) (mr i)):=by
 intro P D bn H Q R c;rw [exec_Assign_Name_used _ _ _ _ x];refine aH (Sf (aH ?_));have c:=c
 refine aH (aN (AK (Qf:=λ_ d=>SP h P Q .next d) u p R B C E F K L c λW A d ab ad al am an ap=>?_) λ_ d as=>bu (bu as));refine RL (z4 (v:=V.ref W) al p w (.inl q) S (λa0 a1 ⟨s,a2,a3⟩=>?_) (.inr q));let⟨a4,a5,bs,bd,t,be⟩:=ap;have bi:A≠s:=by
  rcases a3 with e|e
  .rwa [e]
  .exactλf=>t y s e f.symm
 exists ab,an.sameBut a2 bi,λbt bk=>?_;exists _,ad,a1.turned (t':=a0.toks) (λbl o bm f=>(bk.2 bl bm).trans f) a4 a5 bd t be,am
def sx{T:List Comprehension}{A:eh}{y:aa}{z:dS}(a:z.scope.kind=.function)(b:z.scope.names.lookup y=Y .local)(c:(v6.line==pu.line)=I)(d:(A.names.any λ(e,M)=>e==y&&(M==.local||M==.cell))=ao):lZ (.ListComp no T A pu) (Y (.Name y v6)) B z=dA I:=by
 have f:z.kindOf y=Y .local:=b;have g:z.blockKind=.function:=by unfold Env.blockKind;rw [a];rfl
 unfold lZ;simp only [g,f,d,Expr.pos,c];rfl
variable{ww:List Nat}{wp:Int}{r:U}{TD:U->Prop}
def J4{o:TT}(A:Nat->U->Prop)(u:A 0 (upd r d (.lst [])))(v:∀i H,i<B->A i H->FM (.int (wp+i)) (wipe pv ww) H λD f=>wipe D ww=wipe pv ww/\o D f λg b=>if g=I then ss D b λy c=>∃G,c d=Y (.lst G)/\G.length<aU/\A (i+1) (upd c d (.lst (G++[y])))else A (i+1) b) (w:∀H,A B H->TD H):∃h:Nat->Nat->U->Prop,(∃M,h 0 M (upd r d (.lst [])))/\∀i M H,h i M H->((ko wp B).stop i H/\TD H)\/((ko wp B).go i H/\∃j:U->Prop,(∀N,j N->∃s,s<M/\h (i+1) s N)/\∀k N,(ko wp B).hc i H k N->FM k (wipe pv ww) N λD f=>wipe D ww=wipe pv ww/\o D f λg b=>if g=I then ss D b λy c=>∃G,c d=Y (.lst G)/\G.length<aU/\j (upd c d (.lst (G++[y])))else j b):=by
 exists λi M H=>M=B-i/\i<=B/\A i H,⟨B,by simp,cP _,u⟩,?_;rintro i M H ⟨rfl,z,t⟩;by_cases l:i<B
 .refine .inr ⟨l,A (i+1),λN x=>⟨B-(i+1),by lia,S,l,x⟩,λk N y=>?_⟩;let⟨m,y⟩:=y;subst m y;exact v i _ l t
 .have m:i=B:=by lia
  subst m;exact .inl ⟨aR _,w H t⟩
def hC{K:af}{xs:List V}{o:TT}(z:Nat->U->Prop)(u:z 0 (upd r d (.lst [])))(v:∀i H,i<=xs.length->z i H->av K H q xs)(w:∀i A H,xs[i]?=Y A->z i H->FM A (wipe pv ww) H λD f=>wipe D ww=wipe pv ww/\o D f λg b=>if g=I then ss D b λy c=>∃G,c d=Y (.lst G)/\G.length<aU/\z (i+1) (upd c d (.lst (G++[y])))else z (i+1) b) (x:∀H,z xs.length H->TD H):∃h:Nat->Nat->U->Prop,(∃M,h 0 M (upd r d (.lst [])))/\∀i M H,h i M H->((hy K q).stop i H/\TD H)\/((hy K q).go i H/\∃j:U->Prop,(∀N,j N->∃s,s<M/\h (i+1) s N)/\∀A N,(hy K q).hc i H A N->FM A (wipe pv ww) N λD f=>wipe D ww=wipe pv ww/\o D f λg b=>if g=I then ss D b λy c=>∃G,c d=Y (.lst G)/\G.length<aU/\j (upd c d (.lst (G++[y])))else j b):=by
 exists λi M H=>M=xs.length-i/\i<=xs.length/\z i H,⟨xs.length,by simp,cP _,u⟩,?_;rintro i M H ⟨rfl,B,k⟩;have l:=v i H B k
 by_cases t:i<xs.length
 .refine .inr ⟨⟨xs,xs[i],l,by simp [t]⟩,z (i+1),λN C=>⟨xs.length-(i+1),by lia,S,t,C⟩,λA N y=>?_⟩;let⟨m,y⟩:=y;subst m;exact w i A _ (y xs l) k
 .have m:i=xs.length:=by lia
  subst m;exact .inl ⟨⟨xs,l,aR _⟩,x H k⟩
def AL(A:List aa)(M z:eh)(D:List (aa×Nat)):Bool:=
 (match z.kind with|.function=>I|_=>ao)&&(z.names.all λy=>decide (z.names.lookup y.1=Y y.2))&&(D.all λG=>decide (A[G.2]?=Y G.1))&&
  (z.names.all λy=>match y.2 with
   |.free=>(match M.names.lookup y.1 with|some .cell=>I|some .free=>I|_=>ao)
   |.local=>decide (y.1∈D.map (·.1))||decide (y.1∉A)
   |.cell=>decide (y.1∈D.map (·.1))||decide (y.1∉A)
   |_=>I)
variable{s4:List aa}
def e2{N S:eh}(D:AL s4 N S VW=I):qB s4 N S VW:=by
 unfold AL at D;simp only [bx,js,j5]at D;let⟨⟨⟨U,b⟩,c⟩,a⟩:=D;exists ?_,b,c,λy G z=>?_,λy G z=>?_
 .split at U
  .assumption
  .cases U
 .have A:=a y G;simp only [z]at A;split at A<;>first|exact .inl (by assumption)|exact .inr (by assumption)|cases A
 .have A:=a y G;rcases z with z|z<;>(simp only [z,zj,j5]at A;exact A)
section
variable {κ:Type} [DecidableEq κ]
def cU(z:List (κ×V))(A:κ):Option V:=(z.find? λD=>decide (D.1=A)).map (·.2)
def putK(A:List (κ×V))(D:κ)(v:V):List (κ×V):=
 if(A.any λz=>decide (z.1=D))=I then A.map (λz=>if z.1=D then(z.1,v)else z)else A++[(D,v)]
def i2{p:κ×V}{A:List (κ×V)}{z:κ}(D:p.1=z):cU (p::A) z=Y p.2:=by simp [cU,gb,D]
def i3{p:κ×V}{A:List (κ×V)}{z:κ}(D:¬p.1=z):cU (p::A) z=cU A z:=by simp [cU,gb,D]
theorem ou(z:κ):∀D:List (κ×V),(D.any λG=>decide (G.1=z))=(cU D z).isSome
 |[]=>rfl
 |p::a=>by
  rw [uE];by_cases A:p.1=z
  .simp only [i2 A,cq A,Bool.true_or,Sd]
  .rw [i3 A,bU A,zk];exact ou z a
theorem AM(D A:κ)(y:V):∀T:List (κ×V),cU (T.map λM=>if M.1=D then(M.1,y)else M) A=(cU T A).map λa=>if A=D then y else a
 |[]=>rfl
 |p::b=>by
  have U:=AM D A y b;rw [aZ];by_cases G:p.1=D
  .rw [ai G];by_cases z:p.1=A
   .rw [i2 (p:=(p.1,y)) z,i2 z,l8,ai (z.symm.trans G)]
   .rw [i3 (p:=(p.1,y)) z,i3 z,U]
  .rw [N G];by_cases z:p.1=A
   .rw [i2 (p:=p) z,i2 z,l8,N (λc=>G (z.trans c))]
   .rw [i3 (p:=p) z,i3 z,U]
theorem AN(A D:κ)(y:V):∀M:List (κ×V),cU M A=O->cU (M++[(A,y)]) D=if D=A then Y y else cU M D
 |[],_=>by
  by_cases z:A=D
  .rw [ai z.symm];exact i2 (p:=(A,y)) z
  .rw [N (λG=>z G.symm)];exact i3 (p:=(A,y)) z
 |p::b,a=>by
  rw [dg];have S:¬p.1=A:=λG=>by rw [i2 G]at a;cases a
  rw [i3 S]at a;by_cases z:p.1=D
  .rw [i2 z,i2 z,N (λG=>S (z.trans G))]
  .rw [i3 z,i3 z,AN A D y b a]
def J5(A:List (κ×V))(D G:κ)(y:V):cU (putK A D y) G=if G=D then Y y else cU A G:=by
 unfold putK;by_cases z:(A.any λU=>decide (U.1=D))=I
 .rw [ai z,AM];rw [ou]at z;by_cases M:G=D
  .obtain⟨T,a⟩:=rA.mp z;rw [ai M,M,a,l8,ai S]
  .rw [N M];cases cU A G with
   |none=>rfl
   |some T=>rw [l8,N M]
 .rw [N z];refine AN D G y A ?_;rw [ou]at z;cases b:cU A D with
  |none=>rfl
  |some T=>rw [b]at z;exact(z S).elim
def sy(A:List (κ×V))(D:κ)(v:V):(putK A D v).length<=A.length+1:=by
 unfold putK;split
 .rw [z];lia
 .rw [br,dn,iP];lia
def AO{z:List (κ×V)}{A:κ}(v:V)(D:cU z A=O):putK z A v=z++[(A,v)]:=by unfold putK;rw [ou,D];exact N (by decide)
end
def fv.mw{o:Option V}{u:Option J}(z:fv o u):o.isSome=u.isSome:=by
 cases o with
 |none=>cases u with
  |none=>rfl
  |some _=>exact(show False from z).elim
 |some _=>cases u with
  |none=>exact(show False from z).elim
  |some _=>rfl
def fv.getD{o:Option V}{u:Option J}(z:fv o u)(G:RelV ut wl):RelV (o.getD ut) (u.getD wl):=by
 cases o with
 |none=>cases u with
  |none=>exact G
  |some _=>exact(show False from z).elim
 |some _=>cases u with
  |none=>exact(show False from z).elim
  |some _=>exact z
section
variable {κ:Type} [DecidableEq κ]
def KV.val{M:List (κ×V)}{N:List (κ×J)}(S:KV M N)(z:κ):fv (cU M z) (nK N z):=by
 unfold KV at S;induction S with
 |nil=>exact j2
 | @cons p a ps b c d e=>
  let⟨T,f⟩:=c;by_cases A:p.1=z
  .have D:=T.symm.trans A;have G:nK (a::b) z=Y a.2:=by simp [nK,gb,D]
   rwa [i2 A,G]
  .have D:¬a.1=z:=λU=>A (T.trans U);have G:nK (a::b) z=nK b z:=by simp [nK,gb,D]
   rwa [i3 A,G]
def KV.any{A:List (κ×V)}{D:List (κ×J)}(G:KV A D)(M:κ):(A.any λz=>decide (z.1=M))=D.any λz=>decide (z.1=M):=by
 unfold KV at G;induction G with
 |nil=>rfl
 |cons a c b=>rw [uE,uE,b,a.1]
def KV.wh{M:List (κ×V)}{S:List (κ×J)}(T:KV M S)(G:κ){y:V}{u:J}(U:RelV y u):KV (M.map λz=>if z.1=G then(z.1,y)else z) (S.map λz=>if z.1=G then(z.1,u)else z):=by
 unfold KV at T⊢;induction T with
 |nil=>exact .nil
 | @cons p e ps f a g b=>
  rw [aZ,aZ];refine .cons ?_ b;let⟨A,c⟩:=a;by_cases D:p.1=G
  .rw [ai D,ai (A.symm.trans D)];exists A,U
  .rw [N D,N (λd=>D (A.trans d))];exists A,c
def KV.put{M:List (κ×V)}{D:List (κ×J)}(G:KV M D)(z:κ){y:V}{u:J}(T:RelV y u):KV (putK M z y) (stored D z u):=by
 unfold putK stored;rw [G.any z];by_cases A:(D.any λU=>decide (U.1=z))=I
 .rw [ai A,ai A];exact G.wh z T
 .rw [N A,N A];exact Sg G ⟨S,T⟩
theorem KV.length{z:List (κ×V)}{A:List (κ×J)}(D:KV z A):z.length=A.length:=bO D
end
def jF{k:Key}{u:J}(M:RelV (kV k) u):(eK m p).is k u=I:=by
 cases k with
 |inl i=>let⟨z,G⟩:=(show∃z,u=pJ i z from M);subst G;exact HM m p i z
 |inr x=>let⟨z,G⟩:=(show∃z,u=y0 x z from M);subst G;exact HN m p x z
theorem wi:∀{z:List Key} {A:List J},Vals (z.map kV) A->ItemsAre (eK m p) z A
 |[],_,a=>by rw [hP]at a;cases a;exact .nil
 |k::z,_,a=>by
  rw [aZ]at a;cases a with
  |cons b c=>exact .cons (jF b) (wi c)
abbrev KT(H:U):List (List Key×V)->List (List Key×Z×J)->Prop:=cE λz A=>z.1=A.1/\H A.2.1=Y (.tup (z.1.map kV))/\RelV z.2 A.2.2
variable{LT:List (List Key×V)}{v0:List (List Key×Z×J)}
def KT.val{H:U}(T:KT H LT v0)(z:List Key):fv (cU LT z) ((fN v0 z).map (·.2)):=by
 induction T with
 |nil=>exact j2
 | @cons p a ps b c e f=>
  let⟨S,_,g⟩:=c;by_cases A:p.1=z
  .have D:=S.symm.trans A;have G:fN (a::b) z=Y a.2:=by simp [fN,gb,D]
   rwa [i2 A,G]
  .have D:¬a.1=z:=λd=>A (S.trans d);have G:fN (a::b) z=fN b z:=by simp [fN,gb,D]
   rwa [i3 A,G]
def KT.wh{H:U}(a:KT H LT v0)(D:List Key){y:V}{u:J}(b:RelV y u):KT H (LT.map λG=>if G.1=D then(G.1,y)else G) (v0.map (putAt D u)):=by
 induction a with
 |nil=>exact .nil
 | @cons p g ps h c i d=>
  rw [aZ,aZ];refine .cons ?_ d;let⟨z,T,e⟩:=c;unfold putAt;by_cases A:p.1=D
  .rw [ai A,ai (z.symm.trans A)];exists z,T,b
  .rw [N A,N (λf=>A (z.trans f))];exists z,T,e
def KT.put{H:U}(M:KT H LT v0)(z:List Key){b:Z}{y:V}{u:J}(a:H b=Y (.tup (z.map kV)))(T:RelV y u):KT H (putK LT z y) (hQ v0 z b u):=by
 have c:(LT.any λd=>decide (d.1=z))=(fN v0 z).isSome:=by rw [ou,(M.val z).mw,kU]
 unfold putK hQ;rw [c];by_cases D:(fN v0 z).isSome=I
 .rw [ai D,ai D];exact M.wh z T
 .rw [N D,N D];exact Sg M ⟨S,a,T⟩
theorem KT.keeps{H:U}(S:KT H LT v0)(T:∀M N,H M=Y (.tup N)->r M=Y (.tup N)):KT r LT v0:=
 Paired.cb S λ_ _ z=>⟨z.1,T _ _ z.2.1,z.2.2⟩
variable{P:aD}
theorem AQ{u:HO}(z:dv m p H P)(A:Rd H d u):d2 m p H P d u:=A.ok z
variable{KB:List (Key×V)}
theorem ov(D:dv m p H P)(G:Rd H d (.dK KB)):KB.length<=aU/\(d==er)=ao/\∃A,KV KB A/\P.DictOf (eK m p) d A:=
 show d2 m p H P d (.dK KB)from AQ D G
theorem J6(D:dv m p H P)(G:H d=Y (.dK KB)):KB.length<=aU/\(d==er)=ao/\∃A,KV KB A/\P.DictOf (eK m p) d A:=ov D (.inl G)
variable{AT:List Key}
def qD(A:dv m p H P)(D:H d=Y (.tup (AT.map kV))):(iL (eK m p)).is P AT d:=by
 let⟨_,G,M,o,N,S,T,U⟩:=(show d2 m p H P d (.tup (AT.map kV))from A d _ D)
 exact⟨o,G.toArray,T,N,S,U,by simpa using wi M⟩
def ow(S:dv m p H P)(M:Rd H d (.dT LT)):LT.length<=aU/\(d==er)=ao/\ ∃G,KT H LT G/\P.DictOfH (iL (eK m p)) d G:=by
 let⟨D,y,G,T,o,e,f,g,i,j,k,l⟩:=(show d2 m p H P d (.dT LT)from AQ S M)
 exists D,y,G,T,o,e,f,g,i,j,k,λz A=>?_,l;have w:∀{U:List (List Key×V)} {N:List (List Key×Z×J)},KT H U N->∀z∈N,(iL (eK m p)).is P z.1 z.2.1:=by
  intro U N b;induction b with
  |nil=>intro z A;exact nomatch A
  | @cons h b ps q c r n=>
   intro z A;rcases bg.mp A with M|A
   .subst M;exact qD S (c.1▸c.2.1)
   .exact n z A
 exact w T z A
theorem J7(D:dv m p H P)(G:H d=Y (.dT LT)):LT.length<=aU/\(d==er)=ao/\ ∃A,KT H LT A/\P.DictOfH (iL (eK m p)) d A:=ow D (.inl G)
def ir(H:U)(D:Z)(y:V)(G:Option V):Prop:=
 (∃z A,Rd H D (.dK z)/\y=kV A/\G=cU z A)\/∃z A M,Rd H D (.dT z)/\y=.ref M/\H M=Y (.tup (A.map kV))/\G=cU z A
def mx(H:U)(D:Z)(y v:V)(G:U):Prop:=
 (∃z A,H D=Y (.dK z)/\y=kV A/\z.length<aU/\G=upd H D (.dK (putK z A v)))\/
 ∃z A M,H D=Y (.dT z)/\y=.ref M/\H M=Y (.tup (A.map kV))/\z.length<aU/\G=upd H D (.dT (putK z A v))
theorem ir.k{H:U}{k:Key}(D:H d=Y (.dK KB)):ir H d (kV k) (cU KB k):=.inl ⟨KB,k,.inl D,S,S⟩
theorem mx.k{H:U}{k:Key}{v:V}(D:H d=Y (.dK KB))(G:KB.length<aU):mx H d (kV k) v (upd H d (.dK (putK KB k v))):=.inl ⟨KB,k,D,S,G,S⟩
def Inv.big(z:Inv h pr pv H t):er<t.heap.objs.size:=by have D:=(z.mod.glob.keeps z.bk).lt;exact Nat.lt_trans (by decide) D
section
variable {X:Cx} {pins:List (Z×aL)} {σ:St} {H:U} {s:ak} {a:Z} {y v:V} {u r:J} {o:Option V} {A:bZ} {E:J->ak->Prop}
def J8{c:J->ak->Prop}(g:A.units+1<cK)(D:Inv X pins σ H s)(h:ir H a y (Y v))(d:RelV y u)(e:∀z f,Inv X pins σ H f->RelV v z->c z f):aI (aM X.prog X.w) A (nG (.ref a) u) c E s:=by
 rcases h with⟨i,G,M,N,S⟩|⟨i,G,j,M,N,k,S⟩
 .subst N;let⟨l,m,n,T,U⟩:=ov D.bf M;let⟨z,hw,b⟩:=fv.some_of (v:=v) (o:=nK n G) (S▸T.val G);exact Sh (jF d) U.mapOf hw (e z _ (D.tok _) b)
 .subst N;cases (show u=cp j from d);let⟨l,m,p,T,U⟩:=ow D.bf M;let⟨z,hw,b⟩:=fv.some_of (v:=v) (o:=(fN p G).map (·.2)) (S▸T.val G);let⟨w,q,t⟩:=cv.mp hw;refine GI (nL g) (qD D.bf k) U q ?_;rw [t];exact e z _ (D.tok _) b
def J9{b:J->ak->Prop}(g:A.units+1<cK)(z:Inv X pins σ H s)(h:ir H a y o)(c:RelV y u)(d:∀e,Inv X pins σ H e->b (.bool (!o.isSome)) e):aI (aM X.prog X.w) A (fD .NotIn u (.ref a)) b E s:=by
 rcases h with⟨i,D,G,M,N⟩|⟨i,D,j,G,M,k,N⟩
 .subst M;let⟨l,S,m,T,U⟩:=ov z.bf G;refine Si (jF c) S U.mapOf ?_;rw [<-(T.val D).mw,<-N];exact d _ (z.tok _)
 .subst M;cases (show u=cp j from c);let⟨l,S,n,T,U⟩:=ow z.bf G;refine wpAny_notIn_heap (nL g) (qD z.bf k) S U ?_;have f:=(T.val D).mw
  rw [kU]at f;rw [<-f,<-N];exact d _ (z.tok _)
end
variable{Db:HO}
theorem wj(N:Inv h pr pv H t)(T:cX (H d))(U:ib d t.heap P)(b:∃G,P.get? d=Y G)(c:d2 h.prog h.w (upd H d Db) P d Db):Inv h pr pv (upd H d Db) {t with heap:=P,toks:=B}:=
 N.write (x:=d) (e:=d) T (.inl S) (λa G f g=>(U.2 a f).trans g) b c
theorem Ka{D:List (Key×J)}(T:KB.length<=aU)(b:(d==er)=ao)(c:KV KB D)(z:P.DictOf (eK m p) d D):d2 m p r P d (.dK KB):=⟨T,b,D,c,z⟩
variable{KE:Unit->ak->Prop}{y v:V}{u:J}
def Kb(C:sc.units+1<cK)(M:Inv h pr pv H t)(F:mx H d y v r)(n:RelV y u)(p:RelV v wl)(q:∀l,Inv h pr pv r l->KE () l):aI (aM h.prog h.w) sc (setItem (.ref d) u wl) KE s5 t:=by
 rcases F with⟨N,z,D,e,K,f⟩|⟨N,z,L,D,e,w,K,f⟩
 .subst e f;let⟨S,g,P,T,a⟩:=J6 M.bf D;have i:P.length<=aU:=by rw [<-T.length];exact S
  have j:(putK N z v).length<=aU:=by have:=sy N z v;lia
  refine wpAny_setItem_pairs (hsz:=i) (jF n) a λx b k=>q _ ?_;have Q:∃G,x.get? d=Y G:=let⟨G,_,_,X,_⟩:=b;⟨G,X⟩
  exact wj M (by rw [D];exact j2) k Q (Ka j g (T.put z p) b)
 .subst e f;cases (show u=cp L from n);let⟨S,g,R,T,a⟩:=J7 M.bf D;have i:R.length<=aU:=by rw [<-bO T];exact S
  have j:(putK N z v).length<=aU:=by have:=sy N z v;lia
  refine Sj (hsz:=i) (nL C) (qD M.bf w) a λx b k=>q _ ?_;let⟨G,V,W,X,ab,ad,al,_,am⟩:=b;refine wj M (by rw [D];exact j2) k ⟨G,X⟩ ⟨j,g,_,(T.put z w p).keeps λc an B=>?_,G,V,W,X,ab,ad,al,am⟩;rw [ah (cW B D (λS=>nomatch S))];exact B
def ox(i:a8):Prop:=∀z A,zc i ao z A=Gz [z,A] (nG z A)
def sA{T:dS}(z:Gx (.type FB) "__getitem__"=dA (Y (.builtin Ty))) (n:ox no)(A:aI (aM m p) sc (eval s0 T) (λo g=>aI (aM m p) sc (eval no T) (λi S=>S.TypeIs o FB/\aI (aM m p) sc (nG o i) IO s5 S) s5 g) s5 t):aI (aM m p) sc (eval (.Subscript s0 no pu) T) IO s5 t:=by
 refine Gy (g4 A (λo g q=>g4 q (λi S b=>?_) λ_ _ M=>M) λ_ _ M=>M);let⟨h,b⟩:=b;unfold RZ;refine aH ?_;rw [getitemInPython_of_ne h.not_modules];refine aH (uK h z ?_);have c:aI (aM m p) sc (zc no ao o i) (λd j=>aI (aM m p) sc (letTemporaryGo s0 o d>>=λ_=>dA d) IO s5 j) s5 S:=by rw [n o i];exact wpAny_operating (g4 b (λd j r=>aH (wpAny_letTemporaryGo (bu r))) λ_ _ M=>M)
 first
  |exact bu (aH c)
  |exact aH (bu (aH c))
  |exact aH c
def Kc{H:U}{y:V}{o:Option V}(M:Inv h pr pv H t)(a:ir H d y o):t.TypeIs (.ref d) "dict":=by
 rcases a with⟨b,c,z,_,_⟩|⟨b,c,D,z,_,_,_⟩
 .obtain⟨_,_,e,_,A⟩:=ov M.bf z;exact A.typeIs
 .obtain⟨_,_,f,_,A⟩:=ow M.bf z;exact A.typeIs
inductive Kd (A:VK) (x:V) (y:V) (z:U):Prop
 |mk(a v:_)(_:x=.ref a)(_:ir z a y (Y v))(_:A v z)
def Ke(A D:TE):TE:=λz H G=>A z H λM N=>D z N λy S=>Kd G M y S
inductive Kf (A:VK) (y:V) (x:V) (z:U):Prop
 |mk(a o:_)(_:x=.ref a)(_:ir z a y o)(_:A (.bl (!o.isSome)) z)
def Kg(A D:TE):TE:=λz H G=>A z H λy M=>D z M λN S=>Kf G y N S
def Kh(G M N:TE):TS:=λS z H=>N z H λv T=>G z T λU a=>M z a λy b=>∃A D,U=.ref A/\mx b A y v D/\S.nx z D
variable{i:a8}
def AR(M:h.A.units+1<cK)(N:PE h o ss)(T:PE h i xL)(U:ox i):PE h (.Subscript o i pu) (Ke ss xL):=by intro z a A H s b c;refine sA zl.lookup U (aN (N z a A H _ b c) λu d ⟨t,f,g,X,j⟩=>aN (T z d A f _ g j) λw x ⟨y,k,D,l,m,v,n,G,p⟩=>?_);subst n;obtain rfl:u=cp m:=X;exists Kc D G,J8 M D G l λB C q r=>⟨v,k,q,r,p⟩
def Ki(D:h.A.units+1<cK)(G:PE h i xL)(M:PE h o ss):PC h .NotIn i o (Kg xL ss):=by intro z N A H r T U;refine aN (G z N A H _ T U) λs a ⟨y,b,c,d,f⟩=>aN (M z a A b _ c f) λu t ⟨v,g,X,j,k,l,m,n,p⟩=>?_;subst m;obtain rfl:u=cp k:=j;exact J9 D X n d λw q=>⟨.bl (!l.isSome),g,q,S,p⟩
variable{V8:TE}
def sC(D:h.A.units+1<cK)(G:PE h o ss)(M:PE h i xL)(N:PE h no V8)(T:lZ no (Y (.Subscript o i v6)) pu.line h.env=dA ao):PS h (.Assign [.Subscript o i v6] no pu) (Kh ss xL V8):=by intro A U z H C a b;refine Sk (aN (N A U z H _ a b) λE c ⟨v,d,f,g,X⟩=>aN (G A c z d _ f X) λu j ⟨F,k,l,m,n⟩=>aN (M A j z k _ l n) λK L ⟨y,P,p,q,r,s,t,w,x⟩=>?_) T;subst t;obtain rfl:u=cp r:=m;exact Kb D p w q g λQ B=>⟨z,s,B,x⟩
theorem Kj{H:U}(z:aD)(G:er<z.objs.size):d2 m p H (z.push {cls:=.type "dict",data:=.dict #[]}) z.objs.size (.dK []):=
 ⟨cP _,iK.mpr (eP (fB G)),[],.nil,U7 z⟩
def Kk:TE:=λ_ H A=>∀z,H z=O->A (.ref z) (upd H z (.dK []))
theorem wk:PE h (.Dict [] [] pu) Kk:=λM z N H T A D=>
 Sl ⟨.ref z.heap.objs.size,_,A.laid (a:=z.heap.objs.size) (o:=.dK []) (t':=z.toks) (λ_ _ G=>e8 _ G) (aR _) (Kj z.heap A.big),S,D _ (A.bf.fresh (aR _))⟩
def wm:List (TE×TE)->St->U->(List (V×V)->U->Prop)->Prop
 |[],_,H,a=>a [] H
 |(tk,c)::d,b,H,a=>tk b H λz A=>c b A λy D=>wm d b D λG M=>a ((z,y)::G) M
abbrev VV:List (V×V)->List (J×J)->Prop:=cE λz A=>RelV z.1 A.1/\RelV z.2 A.2
def wo(z:Cx)(T:b2)(a:List (Option a8))(b:List a8)(c:List (TE×TE)):Prop:=
 ∀(D:List (Z×aL)) (G:ak) (A:St) (H:U) (M:List (V×V)->U->Prop),Inv z D A H G->wm c A H M->
  aI (aM z.prog z.w) z.A (evalPairs (pairTrees a b z.env T)) (λd e=>∃N S,Inv z D A S e/\VV N d/\M N S) z.xe G
theorem Kl:wo h pu [] [] []:=λM N S H T D G=>pairTrees_nil_walk ⟨[],H,D,.nil,G⟩
theorem Km{v:a8}{N:List (Option a8)}{a:List (TE×TE)}(b:PE h no ss)(c:PE h v xL)(d:wo h pu N tz a):wo h pu (Y no::N) (v::tz) ((ss,xL)::a):=λA e D H C f g=>
 pairTrees_cons_walk (aN (b A e D H _ f g) λu z ⟨i,j,k,l,m⟩=>aN (c A z D j _ k m) λE n ⟨y,o,p,q,r⟩=>aN (d A n D o _ p r) λF K ⟨s,t,w,x,B⟩=>⟨(i,y)::s,t,w,.cons ⟨l,q⟩ x,B⟩)
structure M1(z:Cx)(o:a8)(m:aa)(G:b2)(A:a8)(D:b2):Prop where
 base:j3 o m z.env (eval o z.env)=eval o z.env
 bL:((fp D (cA [A] z.env)).all (λx=> !x.1)&&(l2 D (l3 [] z.env)).all (λx=>x.1.isSome)
  &&decide (([A]:List a8).length+([]:List rC).length+(if([]:List rC).isEmpty then 0 else 1)<30))=I
 line:(G.endLine==D.line)=I
 trees:fp D (cA [A] z.env)=[(ao,eval A z.env)]
structure M2(z:Cx)(o:a8)(m:aa)(M:b2)(A D:a8)(G:b2):Prop where
 base:j3 o m z.env (eval o z.env)=eval o z.env
 bL:((fp G (cA [A,D] z.env)).all (λx=> !x.1)&&(l2 G (l3 [] z.env)).all (λx=>x.1.isSome)
  &&decide (([A,D]:List a8).length+([]:List rC).length+(if([]:List rC).isEmpty then 0 else 1)<30))=I
 line:(M.endLine==G.line)=I
 trees:fp G (cA [A,D] z.env)=[(ao,eval A z.env),(ao,eval D z.env)]
def AS(H:U)(A:Z):Prop:=(∃z,Rd H A (.dK z))\/∃z,Rd H A (.dT z)
def Kn{H:U}(c:Inv h pr pv H t)(g:AS H d):t.TypeIs (.ref d) "dict"/\(∀G,cp d=.ref G->∃z,t.heap.get? G=Y z/\z.dict=O)/\(d==er)=ao:=by
 rcases g with⟨D,N⟩|⟨D,N⟩
 .obtain⟨_,S,i,_,A⟩:=ov c.bf N;exists A.typeIs,λG T=>?_,S;cases T;let⟨z,_,_,a,b,_⟩:=A;exists z,a,b.2.1
 .obtain⟨_,S,j,_,A⟩:=ow c.bf N;exists A.typeIs,λG T=>?_,S;cases T;let⟨z,_,_,a,b,_⟩:=A;exists z,a,b.2.1
section
variable {X:Cx} {pins:List (Z×aL)} {σ:St} {H:U} {s:ak} {a:Z} {y d:V} {u r:J} {o:Option V} {A:bZ} {E:J->ak->Prop}
def Ko{b:J->ak->Prop}(j:A.units+1<cK)(z:Inv X pins σ H s)(k:ir H a y o)(c:RelV y u)(e:RelV d r)(f:∀g h,Inv X pins σ H h->RelV (o.getD d) g->b g h):aI (aM X.prog X.w) A (gO (.builtin "dict.get") [.ref a,u,r]) b E s:=by
 rcases k with⟨l,G,M,N,S⟩|⟨l,G,i,M,N,m,S⟩
 .subst N;let⟨n,T,q,U,D⟩:=ov z.bf M;refine uL GJ D.typeIs Sm (Sn _ _ _) (meets_dict_get_default (eK X.prog X.w) a (jF c) T r) ⟨_,D.mapOf,f _ _ (z.tok _) ?_⟩;rw [S];exact(U.val G).getD e
 .subst N;cases (show u=cp i from c);let⟨n,T,p,U,D⟩:=ow z.bf M;refine uL GJ D.typeIs Sm (Sn _ _ _) (meetsH_dict_get_default (iL (eK X.prog X.w)) a i T r) ⟨nL j,G,p,qD z.bf m,D,f _ _ (z.tok _) ?_⟩;rw [S];exact(U.val G).getD e
end
def Kp(M N S:TE):TE:=λz H T=>M z H λU D=>∃A,U=.ref A/\AS D A/\N z D λy a=>S z a λb G=>∃o,ir G A y o/\T (o.getD b) G
def Kq(M:h.A.units+1<cK)(N:PE h o ss)(T:PE h no xL)(U:PE h s0 V8)(z:M2 h o "get" pu no s0 v6):PE h (.Call (.Attribute o "get" pu) [no,s0] [] v6) (Kp ss xL V8):=by intro A a D H L b c;refine GK z.base z.bL z.line GL GJ PySem.F.type_dict_get (aN (N A a D H _ b c) λu d ⟨P,g,G,X,i,j,k,l⟩=>?_);subst j;obtain rfl:u=cp i:=X;let⟨m,n,_⟩:=Kn G k;exists m,n,?_;rw [z.trees];refine pX S (uF (pV (aN (T A d D g _ G l) λQ p ⟨y,q,r,s,t⟩=>pV (aN (U A p D q _ r t) λR V ⟨W,v,w,x,ab,B,C⟩=>uA ?_))));exact Ko M w B s x λad al E K=>⟨_,v,E,K,C⟩
def Inv.Kr{i:Nat}{ch:List Z}(e:Inv h pr pv H t)(b:∀z o,z∉ch->t.heap.get? z=Y o->P.get? z=Y o)(U:∀z∈ch,i1 h pr H z)(g:t.heap.objs.size<=d)(j:d2 h.prog h.w (upd H d Db) P d Db):Inv h pr pv (upd H d Db) {t with heap:=P,toks:=i}:=by
 have s:=e.bf.fresh g;have a:∀z u,H z=Y u->z∉ch:=λz u A G=>by have D:=(U z G).1;rw [D]at A;cases A
 refine e.step (g':=t.gens) (d':=t.drawn) (ch:=ch) (λz N=>⟨(U z N).2.2.2.1,(U z N).2.1,(U z N).2.2.2.2.1,(U z N).2.2.2.2.2⟩) (λz o _ _ T A _=>b z o T A) (λz o _ _ T A _=>⟨o.slots,b z o T A⟩)
  (λz o _ A r=>?_) (λz o T A=>⟨o,b z o T A⟩) (λz k A=>?_) (λz o u A=>?_) (λz X A=>⟨#[],?_⟩) (λw l=>?_) (λz u A=>?_) e.bare
 .rwa [ah (fB (gM (dN A) g))]
 .rwa [ah (cB A s)]
 .rwa [ah (cB A s)]
 .rw [ah (cB A s),A];simp
 .obtain⟨o,m,n,p,q⟩:=l;exists o,m,n,b _ o (λG=>(U _ G).2.1 rfl) p,q
 .by_cases N:z=d
  .subst N;rw [M]at A;cases A;exact j
  .rw [ah N]at A;refine(e.bf z u A).iY (λc v T D=>b c v ?_ D) (λc D=>ah (cB D s)▸D) λc k D=>ah (cB D s)▸D;rcases T with G|G
   .rw [G];exact a z u A
   .exact a c _ G
variable{h':aD}
def Inv.lock{u:HO}(b:Inv h pr pv H t)(N:H d=Y u)(T:cX (Y u)):∃G,Inv h pr pv (upd H d (.bP G u)) t:=by
 have M:=b.bf d u N;have c:∃G,t.heap.get? d=Y G:=by
  cases u with
  |lst D=>let⟨_,_,_,_,z⟩:=M;exists _,z
  |dK f=>let⟨_,_,_,_,o,_,_,z,_⟩:=M;exists o,z
  |dT f=>let⟨_,_,_,_,o,_,_,z,_⟩:=M;exists o,z
  |set s n=>let⟨o,_,_,_,z,_⟩:=M;exists o,z
  |ins i j fs=>let⟨_,_,_,z,_⟩:=M;exists _,z
  |ext k=>let⟨_,⟨_,z⟩,_⟩:=M;exists _,z
  |_=>exact g5 T
 let⟨G,z⟩:=c;have g:d2 h.prog h.w (upd H d (.bP G u)) t.heap d (.bP G u):=by
  exists z,M.iY (λU v _ A=>A) (λU A=>?_) λU D A=>?_
  .rw [ah (λa=>by rw [a,N]at A;cases A;exact T)];exact A
  .rw [ah (λa=>by rw [a,N]at A;cases A;exact T)];exact A
 exists G,b.write (x:=d) (e:=d) (t':=t.toks) (h':=t.heap) (N▸T) (.inl S) (λU v _ A=>A) ⟨G,z⟩ g
theorem Inv.qE{u:HO}(M:Inv h pr pv H t)(N:H d=Y u)(S:cX (Y u)):∀A D,h.jx d≠Y (.bP A D):=λA D T=>by have G:=M.base.iZ d A D T;rw [N]at G;cases G;exact S
variable{Sc:aL}
def Inv.unlock{u:HO}(D:Inv h pr pv H t)(e:H d=Y (.bP Sc u))(l:∀f g,h.jx d≠Y (.bP f g)):Inv h pr pv (upd H d u) t:=by
 have U:∀A o,H A=Y o->(∀f g,o≠.bP f g)->A≠d:=λA o z m G=>by rw [G,e]at z;cases z;exact m _ _ S
 have T:∀A,H A=O->A≠d:=λA z G=>by rw [G,e]at z;cases z
 exists D.ok,D.os,D.bare,⟨D.base.keep,D.base.slot,λA o z b j=>?_,D.base.there,λA X z=>?_,λA o a z=>?_,λA n z=>?_⟩,D.loc,D.cell,?_,λa c z=>?_,λp q=>?_,λA o z=>?_,D.len
 .rw [ah (T A (D.base.free A o z b j))];exact D.base.free A o z b j
 .have N:=D.base.ki A X z;rwa [ah (U A _ N (λ_ _ G=>nomatch G))]
 .have N:=D.base.iZ A o a z;rw [ah (λG=>by rw [G]at z;exact l _ _ z)];exact N
 .obtain⟨r,N⟩:=D.base.kj A n z;exact⟨r,by rwa [ah (U A _ N (λ_ _ G=>nomatch G))]⟩
 .rw [ah (T _ D.free)];exact D.free
 .rw [ah (T c (D.gG a c z))];exact D.gG a c z
 .obtain⟨z,b,σ⟩:=D.pin p q;exists z,ah (T _ b)▸b,σ
 .by_cases i:A=d
  .rw [i,M]at z;cases z;rw [i];let⟨_,a⟩:=D.bf d _ e;exact a.iY (λc v _ N=>N) (λc N=>by rwa [ah (U c _ N (λ_ _ G=>nomatch G))]) λc X N=>by rwa [ah (U c _ N (λ_ _ G=>nomatch G))]
  .rw [ah i]at z;exact(D.bf A o z).iY (λc v _ N=>N) (λc N=>by rwa [ah (U c _ N (λ_ _ G=>nomatch G))]) λc X N=>by rwa [ah (U c _ N (λ_ _ G=>nomatch G))]
inductive Ks (M:TS) (G:Ends) (N:St) (H:U):Prop
 |mk(d u:_)(_:H d=Y u)(_:cX (Y u))(_:∀A,M ⟨λD z=>z d=Y (.bP A u)/\G.nx D (upd z d u),λv z=>z d=Y (.bP A u)/\G.rt v (upd z d u),λD z=>z d=Y (.bP A u)/\G.bk D (upd z d u),λD z=>z d=Y (.bP A u)/\G.ct D (upd z d u)⟩ N (upd H d (.bP A u)))
inductive Kt (D:TE) (G:St) (H:U) (M:VK):Prop
 |mk(d u:_)(_:H d=Y u)(_:cX (Y u))(_:∀z,D G (upd H d (.bP z u)) λv A=>A d=Y (.bP z u)/\M v (upd A d u))
variable{wP:a7}{IN:TS}
def my(b:PS h wP IN):PS h wP (Ks IN):=by
 intro c d e H k M hw;let⟨l,u,N,S,hw⟩:=hw;let⟨f,g⟩:=M.lock N S;refine aN (b c d e _ _ g (hw f)) λU m z=>?_;cases U with
 |next=>let⟨A,T,D,G,z⟩:=z;exists A,_,D.unlock G (M.qE N S),z
 |brk=>let⟨A,T,D,G,z⟩:=z;exists A,_,D.unlock G (M.qE N S),z
 |cont=>let⟨A,T,D,G,z⟩:=z;exists A,_,D.unlock G (M.qE N S),z
 |ret v=>let⟨i,A,T,D,j,G,z⟩:=z;exists i,A,_,D.unlock G (M.qE N S),j,z
def AU(N:PE h no ss):PE h no (Kt ss):=by intro S T U H z D hw;let⟨i,u,G,M,hw⟩:=hw;let⟨a,b⟩:=D.lock G M;refine aN (N S T U _ _ b (hw a)) λv j ⟨c,k,d,e,f,g⟩=>?_;exists c,_,d.unlock f (D.qE G M),e,g
variable{Wg:It->U->Prop}
def wq{H:U}{A:It}{D:Nat->aD->Prop}{tk:Nat}(G:Inv h pr pv H t)(o:aL)(d:Turn h.prog h.w h.K no A [t.heap.objs.size] t.heap.objs.size D) (e:D 0 (t.heap.push o)) (f:Wg A H):vz h pr pv no Wg (.ref t.heap.objs.size) {t with heap:=t.heap.push o,toks:=tk}:=by
 exists t.heap.objs.size,[t.heap.objs.size],D,A,H,S,G.kept λc z M=>e8 _ M,d,e,λc g=>?_,f;have M:c=t.heap.objs.size:=by simpa using g
 subst M;exact G.og (aR _) (G.bf.fresh (aR _))
def qF(z:aa):It:=⟨λi _=>i<z.cps.size,λi H v A=>A=H/\∃c,z.cps[i]?=Y c/\v=.str ⟨#[c]⟩,λi _=>z.cps.size<=i⟩
def AV{K:af}(D:Z)(N:aa)(g:dD)(b:String)(h:b="str_ascii_iterator"\/b="str_iterator"):Turn m p K no (qF N) [D] D (λi T=>T.IsStrIter D b N g i)where
 mem:=by simp
 obj:=λi T A G M=>by
  have z:G=D:=by simpa using M
  subst z;let⟨o,z,c,V⟩:=A;exact⟨o,z,λv x=>by rw [V]at x;cases x⟩
 keep:=λi T d A X=>let⟨o,ab,ad⟩:=A;⟨o,X D (by simp) o ab,ad⟩
 item:=by
  intro e q hw r f i y a B H C U j A t;subst q hw r;let⟨k,l,al,P,n,Q⟩:=j D (by simp);have am:Walks e.prog e.w e.A D [D] [D] N.cps.size (SignAt N) (λi T=>T.IsStrIter D b N g i):=by
   rcases h with z|z
   .rw [z];exact Walks.strAscii (U.ok.hd f) D N g
   .rw [z];exact Walks.strWide (U.ok.hd f) D N g
  have an:["enumerate","zip","dict_itemiterator","dict_reverseitemiterator","odict_iterator","itertools.zip_longest","itertools.pairwise"].contains b=ao:=by
   rcases h with z|z
   .rw [z];decide
   .rw [z];decide
  refine am.item i a _ _ t A λv d E ap F as=>?_;let⟨c,u,a0,rfl⟩:=ap;have a1:Inv e y B H {a with heap:=d,toks:=E}:=U.turned (λG o M z=>as G o (by simpa using M) z) k l P n Q
  let⟨a4,z,a2,a3⟩:=id F;exists _,S,qp (s:={a with heap:=d,toks:=E}) z a2 a3 an ⟨.str ⟨#[c]⟩,H,a1,⟨u,S⟩,⟨S,c,a0,S⟩,F,λG M=>(j G M).1⟩
 done:=by
  intro e q hw r f i y a B H C U j A t;subst q hw r;let⟨k,l,al,P,n,Q⟩:=j D (by simp);have L:N.cps[i]?=O:=So t
  rcases h with z|z
  .rw [z]at A;exact wpAny_pyNext_ascii_end (U.ok.hd f) A L λd w=>⟨S,U.turned (t':=a.toks) (λG o M z=>w G o M z) k l P n Q⟩
  .rw [z]at A;exact wpAny_pyNext_wide_end (U.ok.hd f) A L λd w=>⟨S,U.turned (t':=a.toks) (λG o M z=>w G o M z) k l P n Q⟩
 self:=λa5 i a bd C A T=>by
  rcases h with z|z
  .rw [z]at A;exact wpAny_pyIter_striter_ascii A T
  .rw [z]at A;exact wpAny_pyIter_striter_wide A T
inductive Ku (z:It->U->Prop) (v:V) (A:U):Prop
 |mk(x:_)(_:v=.str x)(_:z (qF x) A)
def Kv(z:TE):TI:=λA H D=>z A H λv G=>Ku D v G
def AW(c:PE h no ss):PI h s0 no (Kv ss):=by
 intro d e f H k g A;refine aN (c d e f H _ g A) λv M ⟨y,l,N,i,z,j,T⟩=>?_;subst j;let⟨U,rfl⟩:=i;cases a:z.cps.all (· <128)
 .exact wpAny_pyIter_wide a (wq (tk:=M.toks) N _ (AV _ z U "str_iterator" (.inr S)) ⟨_,gB _ S,S,S⟩ T)
 .exact wpAny_pyIter_ascii a (wq (tk:=M.toks) N _ (AV _ z U "str_ascii_iterator" (.inl S)) ⟨_,gB _ S,S,S⟩ T)
variable{GM:Array g6}
def AX{o:aL}(b:(d==er)=ao)(D:t.heap.get? d=Y o)(c:o.ExactDict)(a:o.data=.dict GM B)(s:s5 (.ref t.heap.objs.size) {t with heap:=t.heap.push {cls:=.type "dict_keyiterator",data:=.fields #[.ref d,.int 0 0,.int GM.size 0,.int B 0]}}):aI (aM m p) sc (y4 (.ref d)) s5 IO t:=by
 have G:t.TypeIs (.ref d) "dict":=⟨o,D,c.1⟩
 refine GN G zm (rG zm G F.entry_dict_iter ?_ (F.args_dict_iter_1 _));unfold Builtin.«dict.__iter__»;refine aH ?_;unfold U8;refine aH (zo G ?_);show aI _ _ (dA (cp d)) _ _ t
 refine bu ?_;show aI _ _ (GO d>>=_) _ _ t
 unfold GO;rw [N (by rw [b];exact d5)];refine aH (bu ?_);refine aH (j6 D a ?_);refine aH (uM D a ?_);refine aH (zi (bu ⟨_,S,"dict_keyiterator",_,⟨_,gB _ S,S⟩,p3.lookup,?_⟩));simpa [rx]using s
variable{s:ak}
def AY{i:Nat}{e:g6}{f:Option J->ak->Prop}(D:s.heap.IsKeyIter d q i B wE)(g:s.heap.get? q=Y Sc)(h:Sc.data=.dict GM wE)(hsz:GM.size=B) (k:GM[i]?=Y e) (l:∀b,b.IsKeyIter d q (i+1) B wE->ib d s.heap b->f (Y e.key) {s with heap:=b}):aI (aM m p) sc (pR (.ref d)) f s5 s:=by
 let⟨o,c,z,a⟩:=id D;unfold pR;refine aH (Sq (GP (name:=dO "__next__") D.typeIs p3 (rG p3 D.typeIs Sr ?_ (Ss _))));refine aH (bu ?_);refine aH ?_;refine aH ?_
 first|refine aH (zp D.typeIs (bu ?_))|refine aH (zq D.typeIs (bu ?_))
 refine aH (Su c a ?_);have n:Sv "dict_keyiterator"=ao:=by decide
 simp only [n,nJ,ie];show aI _ _ (if(cp q==kQ)=I then _ else _) _ _ s
 rw [N (show¬((cp q==kQ)=I)from d5)];refine aH (bu ?_);refine aH (j6 g h ?_);rw [N (by rw [hsz];simp)];refine aH (bu ?_);refine aH (uM g h ?_);rw [N (by simp)];refine bu ?_;let⟨G,M⟩:=Array.getElem?_eq_some_iff.mp k;simp only [show¬((i:Int)<0)from by lia,ie,uD,zr G];refine aH ?_
 first|refine aH (zp D.typeIs (bu ?_))|refine aH (zq D.typeIs (bu ?_))
 refine aH (Sw D.typeIs ?_);show aI _ _ (setField (.ref d) 1 (rx ((i:Int)+1))>>=_) _ _ s
 refine aH (Sx c a (by simp) ?_);have j:(s.heap.update d (Sy (·.setIfInBounds 1 (rx ((i:Int)+1))))).IsKeyIter d q (i+1) B wE:=
  ⟨_,uN _ c (Obj.isFreed_of_fields (Sz a _)),(Obj.cls_mapFields ..).trans z,by rw [Sz a];simp [rx]⟩
 refine aH (nM ?_);refine aH (Sw (s:={s with heap:=s.heap.update d (Sy (·.setIfInBounds 1 (rx ((i:Int)+1))))}) j.typeIs ?_);show aI _ _ (dA GM[i].key) _ _ _
 rw [M];exact bu (bu ⟨_,S,bu (l _ j (iQ ..))⟩)
def AZ{prog:aw}{i:Nat}{a:aL}{T:Array g6}{b:Option J->ak->Prop}(h:sc.handled=O)(z:t.heap.IsKeyIter d q i B wE)(c:t.heap.get? q=Y a)(s:a.data=.dict T wE)(hsz:T.size=B) (j:B<=i) (k:∀e,Heap.ExtBut d t.heap e->b O {t with heap:=e}):aI (aM prog p) sc (pR (.ref d)) b s5 t:=by
 let⟨o,f,n,g⟩:=id z;unfold pR;refine aH (Sq (GP (name:=dO "__next__") z.typeIs p3 (rG p3 z.typeIs Sr ?_ (Ss _))));refine aH (bu ?_);refine aH ?_;refine aH ?_
 first|refine aH (zp z.typeIs (bu ?_))|refine aH (zq z.typeIs (bu ?_))
 refine aH (Su f g ?_);have l:Sv "dict_keyiterator"=ao:=by decide
 simp only [l,nJ,ie];show aI _ _ (if(cp q==kQ)=I then _ else _) _ _ t
 rw [N (show¬((cp q==kQ)=I)from d5)];refine aH (bu ?_);refine aH (j6 c s ?_);rw [N (by rw [hsz];simp)];refine aH (bu ?_);refine aH (uM c s ?_);rw [N (by simp)];refine bu ?_;have m:T.size<=i:=by rw [hsz];exact j
 simp only [show¬((i:Int)<0)from by lia,ie,uD,So m];refine aH ?_
 first|refine aH (zp z.typeIs (bu ?_))|refine aH (zq z.typeIs (bu ?_))
 show aI _ _ (setField (.ref d) 0 .none>>=_) _ _ t;refine aH (Sx f g (by simp) ?_);show aI _ _ (newExc (.type "StopIteration") []>>=_) _ _ _
 refine aH ?_;simp only [newExc,newTuple];refine aH (zi ?_ (by size_fits));refine aH (m:=SA _ _) (wpAny_of_eq (a:=kQ) (by first|rfl|(simp only [SA];rfl)) ?_);refine zi ?_ (by size_fits);simp only [raiseNew];refine aH (wpAny_handled ?_);rw [show sc.in1.handled=O from h];refine aH (bu (wpAny_throw ?_));refine aH (GQ (T:="StopIteration") (b:=I) ⟨_,gB _ S,S⟩ isSubtype_stop ?_);exact bu (k _ (((iQ ..).extBut.push _).push _))
variable{At:Type}
def A0{U:sB->At->Prop}{M:List sB}{N:List At}(a:cE U M N):∀{i:Nat} {A:sB},M[i]?=Y A->∃D,N[i]?=Y D/\U A D:=by
 induction a with
 |nil=>intro i A z;simp at z
 | @cons A D M N b d c=>
  intro i e z;cases i with
  |zero=>
   simp only [List.getElem?_cons_zero,zt]at z;subst z;exists D,S,b
  |succ f=>
   simp only [List.getElem?_cons_succ]at z⊢;exact c z
variable{WH:Array g6}
def A1{o:aL}(N:o.data=.dict GM B)(M:o.data=.dict WH wE):WH=GM/\wE=B:=by rw [N]at M;cases M;exists S,S
def lx(K:af)(D:Z):It:=
 ⟨λi H=>∃(z:List V) (A:V),av K H D z/\z[i]?=Y A,λi H v M=>∃G A,v=.ref G/\H G=O/\M=upd H G (.tup [.int (i:Nat),A])/\∀z,av K H D z->z[i]?=Y A,λi H=>∃z:List V,av K H D z/\z.length<=i⟩
def Kw{K:af}(C U M:Z):Turn m p K (.Tuple tz B pu) (lx K C) [U,M] U (λi c=>(∃d,IsEnum c U M ((i:Nat):Int) d)/\c.IsListIter M C i/\U≠M)where
 mem:=by simp
 obj:=λi c a G N=>by
  let⟨⟨d,T⟩,⟨o,l,V,al⟩,_⟩:=a;have n:G=U\/G=M:=by simpa using N
  rcases n with D|D
  .rw [D];exists _,T,λv A=>nomatch A
  .rw [D];exact⟨o,l,λv A=>by rw [al]at A;cases A⟩
 keep:=λi c X a E=>let⟨⟨d,T⟩,am,e⟩:=a;⟨⟨d,E U (by simp) _ T⟩,am.at λo A=>E M (by simp) o A,e⟩
 item:=by
  intro f q hw r V i F z L H P b g a s;subst q hw r;let⟨⟨d,T⟩,h,e⟩:=a;let⟨an,j,k,t⟩:=s;let⟨ap,w,x,as⟩:=b.list k;let⟨u,a0,a1⟩:=w.get t;have Q:U<z.heap.objs.size:=dN T
  have a2:M<z.heap.objs.size:=by let⟨_,A,_⟩:=h;exact dN A
  refine wpAny_pyNext_enum_item T h x.isList (x:=u) (by simpa using a0) e λX l a3 a4 hsz a5=>?_;exists _,S,wpAny_letOwnedTupleGo_enum (s:={z with heap:=X,toks:=z.toks+1}) l λy bd R=>?_;have be:y.get? z.heap.objs.size=Y {cls:=.type "tuple",data:=.seq #[.int i z.toks,u]}:=(R.2 _ (RM Q)).trans a4
  have bi:d2 f.prog f.w (upd H z.heap.objs.size (.tup [.int (i:Nat),j])) y z.heap.objs.size (.tup [.int (i:Nat),j]):=
   ⟨by show 2<=aU;decide,[.int i z.toks,u],.cons ⟨_,S⟩ (.cons a1 .nil),⟨_,be,S,_,S⟩⟩
  have bk:Inv f F L (upd H z.heap.objs.size (.tup [.int (i:Nat),j])) {z with heap:=y,toks:=z.toks+1}:=
   b.Kr (ch:=[U,M]) (λG bl N A=>(R.2 G (λD=>N (by simp [D]))).trans (a5 G bl (λD=>N (by simp [D])) (λD=>N (by simp [D])) A)) g (aR _) bi
  exists .ref z.heap.objs.size,_,bk,S,⟨_,j,S,b.bf.fresh (aR _),S,λcl bm=>by rw [b.z6 bm k];exact t⟩,⟨⟨u,?_⟩,a3.at λo A=>(R.2 M (eP e)).trans A,e⟩,λG N=>?_
  .have bn:((i+1:Nat):Int)=(i:Int)+1:=by lia
   rw [bn];exact bd
  .have bs:G<z.heap.objs.size:=by
    have n:G=U\/G=M:=by simpa using N
    rcases n with D|D
    .rw [D];exact Q
    .rw [D];exact a2
   rw [ah (fB bs)];exact(g G N).1
 done:=by
  intro f q hw r V i F z L H P b g a s;subst q hw r;let⟨⟨d,T⟩,h,e⟩:=a;let⟨an,k,t⟩:=s;let⟨ap,w,x,as⟩:=b.list k;let⟨bt,bv,cn,ca,cd,ce⟩:=g M (by simp);have co:=w.length
  exact wpAny_pyNext_enum_end (b.ok.hd V) T h x.isList (by simp;lia) λX ci=>⟨S,b.turned (t':=z.toks) (λG o N A=>ci G o N A) bt bv ca cd ce⟩
 self:=λcr i z cs P a c=>let⟨⟨_,T⟩,_⟩:=a;SD T c
inductive Kx (K:af) (A:It->U->Prop) (D:List V) (z:U):Prop
 |mk(a xs:_)(_:D=[.ref a])(_:av K z a xs)(_:A (lx K a) z)
def Ky(K:af)(z:TA):TI:=λA H D=>z A H λG M=>Kx K D G M
def sD(D:Gl h "enumerate")(i:h.G "enumerate"=O)(j:PA h [no] Ix)(k:cA [no] h.env=[(ao,eval no h.env)]:=by rfl):PI h (.Tuple tz B Wc) (.Call (.Name "enumerate" v6) [no] [] pu) (Ky h.K Ix):=by
 intro l m n H L a o;refine Call_ (r5 a D i boot_enumerate (Ge (aN (j pu l m n H _ a o) λP z ⟨Q,p,G,q,r⟩=>?_) k S));let⟨s,R,t,u,v⟩:=r;subst t;cases q with
 |cons w x=>
  cases x;cases w;let⟨V,W,y,X⟩:=G.list u;refine call_enumerate_list y.isList λab b A hsz C=>SD b ?_;have E:=G.kept (t':=z.toks) C
  exists z.heap.objs.size+1,[z.heap.objs.size+1,z.heap.objs.size],_,_,p,S,E,Kw s (z.heap.objs.size+1) z.heap.objs.size,⟨⟨.none,b⟩,A,Nat.succ_ne_self _⟩,λM F=>?_,v;have K:M=z.heap.objs.size+1\/M=z.heap.objs.size:=by simpa using F
  have c:z.heap.objs.size<=M:=by
   rcases K with N|N
   .rw [N];exact Nat.le_add_right _ _
   .rw [N];exact aR _
  exact G.og c (G.bf.fresh c)
end L2
namespace TL
open PySem.Builtin PySem.Builtin.Str PySem.StrLaws
abbrev tl(z:aa):List Nat:=z.cps.toList
def pre(z A:List Nat):Bool:=A.take z.length==z
def par(z:List Nat):List Nat->List Nat->Option (List Nat×List Nat)
 |_,[]=>O
 |acc,c::a=>if pre z (c::a)=I then Y (acc,(c::a).drop z.length)else par z (acc++[c]) a
theorem join_eq(y:aa)(z:List aa):zu y z=GR y z:=glued_eq_join y z
end TL
namespace L2
theorem wt:∀{z:List aa} {A:List J},Vals (z.map V.str) A->StrsAre A z
 |[],_,.nil=>.nil
 |y::z,_,.cons a b=>by let⟨D,rfl⟩:=a;exact .cons y D (wt b)
variable{h:Cx}
def Kz:lr h "str.join" (λd e H f=>∃D G,∃z:List aa,d=.str D/\e=[.ref G]/\(av h.K H G (z.map V.str)\/ax h.K H G (z.map V.str))/\ (z.map (·.length)).sum+z.length*D.length<=16777216/\f (.str (zu D z)) H):=by
 intro p q r H d e v s f M X T N;let⟨D,G,z,rfl,rfl,A,g,N⟩:=N;let⟨t,rfl⟩:=X;cases T with
 |cons i T=>
  cases T;cases i;rcases A with A|A
  .obtain⟨U,a,⟨o,j,k,l,_,m⟩,_⟩:=M.list A;exact U9 (items:=U.toArray) ⟨o,k,l,j,m⟩ (GS▸wt a) g λb c=>⟨.str _,H,M.tok c,⟨b,S⟩,N⟩
  .obtain⟨U,a,n,_⟩:=M.tuple A;exact Va (items:=U.toArray) n (GS▸wt a) g λb c=>⟨.str _,H,M.tok c,⟨b,S⟩,N⟩
variable{FB:String}
def A2{C:aa->Prop}{g:aa->V}(b:∀(z:aa) (G:dD) (D:ak) (A:J->ak->Prop),C z->(∀(u:J) (M:Nat),RelV (g z) u->A u {D with toks:=M})->aI (aM h.prog h.w) h.A (gO (.builtin FB) [.str z G]) A h.xe D):lr h FB (λU a H A=>∃z,U=.str z/\a=[]/\C z/\A (g z) H):=by intro i D j H U a v k A c d e N;let⟨z,rfl,rfl,f,N⟩:=N;let⟨G,rfl⟩:=d;cases e;exact b z G D _ f λu M X=>⟨g z,H,c.tok M,X,N⟩
theorem KA:lr h "str.isdigit" (λA D H G=>∃z,A=.str z/\D=[]/\True/\G (.bl (zv z)) H):=
 A2 (C:=λ_=>True) (g:=λz=>.bl (zv z)) λ_ _ M _ _ N=>PySem.SC.isdigit (N _ M.toks S)
theorem KC:lr h "str.isalpha" (λA D H G=>∃z,A=.str z/\D=[]/\True/\G (.bl (zw z)) H):=
 A2 (C:=λ_=>True) (g:=λz=>.bl (zw z)) λ_ _ M _ _ N=>PySem.SC.isalpha (N _ M.toks S)
def KG(A:V->List V->U->VK->Prop)(to:TE):TE:=λD H G=>to D H λz M=>(∃N,z=.str N)/\A z [] M G
def Ba(D:V->List V->U->VK->Prop)(to te:TE):TE:=λz H G=>to z H λA M=>(∃N,A=.str N)/\te z M λy S=>D A [y] S G
variable{op:aa}{pu v6:b2}{V1:V->List V->U->VK->Prop}{no o:a8}{ss:TE}
def Bb(b:Slot "str" op FB)(c:ze (.builtin FB)=dA (.type "method_descriptor"))(d:lr h FB V1)(f:PE h o ss)(g:j3 o op h.env (eval o h.env)=eval o h.env:=by rfl) (X:(pu.endLine==v6.line)=I:=by rfl):PE h (.Call (.Attribute o op pu) [] [] v6) (KG V1 ss):=by intro N i T H j k l;refine PySem.Call_method0 g X (aN (f N i T H _ k l) λv m ⟨q,n,p,a,A⟩=>?_);let⟨⟨r,rfl⟩,A⟩:=A;let⟨s,rfl⟩:=_root_.id a;exists "str",_,SE,b,c,zd _ _ _,(λ_ no=>nomatch no),pX S (R6 (d N m T n _ [] _ [] j p a .nil A))
variable{xL:TE}
def KH(b:Slot "str" op FB)(c:ze (.builtin FB)=dA (.type "method_descriptor"))(d:lr h FB V1)(f:PE h o ss)(g:PE h no xL)(X:cA [no] h.env=[(ao,eval no h.env)]:=by rfl) (i:j3 o op h.env (eval o h.env)=eval o h.env:=by rfl) (j:(pu.endLine==v6.line)=I:=by rfl):PE h (.Call (.Attribute o op pu) [no] [] v6) (Ba V1 ss xL):=by intro A k D H l m n;refine PySem.Call_method1 i X j (aN (f A k D H _ m n) λv p ⟨C,q,r,a,G⟩=>?_);let⟨⟨E,rfl⟩,G⟩:=G;let⟨K,rfl⟩:=_root_.id a;exists "str",_,SE,b,c,zd _ _ _,(λ_ no=>nomatch no),pX S (uF (pV ?_));exact aN (g A p D q _ r G) λu s ⟨y,t,w,x,B⟩=>uA (d A s D t _ [y] _ [u] l w a (.cons x .nil) B)
theorem KI(N:PE h o ss)(T:PE h no xL)(U:cA [no] h.env=[(ao,eval no h.env)]:=by rfl)(a:j3 o "join" h.env (eval o h.env)=eval o h.env:=by rfl)(b:(pu.endLine==v6.line)=I:=by rfl):PE h (.Call (.Attribute o "join" pu) [no] [] v6) (Ba (λc d H f=>∃A D,∃z:List aa,c=.str A/\d=[.ref D]/\(av h.K H D (z.map V.str)\/ax h.K H D (z.map V.str))/\ (z.map (·.length)).sum+z.length*A.length<=16777216/\f (.str (zu A z)) H) ss xL):=
 KH F.slot_str_join F.type_str_join Kz N T U a b
def KJ:eD h (fD .NotIn) (λA y H D=>∃(c:Nat) (z:aa),A=.str ⟨#[c]⟩/\y=.str z/\D (.bl (!decide (c∈z.cps.toList))) H):=by intro a b d H A y v u D G M N T;let⟨c,z,rfl,rfl,U⟩:=T;let⟨e,rfl⟩:=M;let⟨f,rfl⟩:=N;exact Vb (dV G U (bD Bool.not (Vc z c).symm))
end L2
namespace KL
open PySem.W PySem.Calls
variable{SL:j7}{P:aD}
def KN:∀(z:List Int) (D:List J),kW SL P D (z.map zx)->rD D z:=by
 intro z;induction z with
 |nil=>
  intro D A;rw [hP]at A;cases A;exact .nil
 |cons n z b=>
  intro D A;rw [aZ]at A;cases A with
  |cons a c=>
   cases a;exact .cons _ _ (b _ c)
variable{B:Nat}{t0:List J}
def KO{N:GU}(e:N.most=Y B){args:List eJ}(a:N.row.toRowW.claim.pre args=I) (g:kW SL P t0 args):∃b c A,t0=[cp b]/\args=[WData.list (A.map zx)]/\P.get? b=Y {cls:=.type "list",data:=.seq c.toArray}/\rD c A/\A.length<=B:=by
 have h:WShape.hasAll [] args [.list .int]=I:=(pre_splitW a).1;have d:N.pre.holds [] {args:=args}=I:=(pre_splitW a).2
 let⟨r,s,rfl,i,j⟩:=hasAllW_cons h;obtain rfl:=hasAllW_nil j;let⟨t,rfl,k⟩:=hasW_list i;let⟨A,rfl⟩:=items_int k;have l:A.length<=B:=by
  unfold OpenLaw.pre at d;have G:(WTm.not (.lt (.lit (.int (B:Int))) (.len (.arg 0)))).holds [] {args:=[.list (A.map .int)]}=I:=by have G:=(holds_andW d).1;rw [e]at G;exact G
  have M:=condW_of G (w_not (w_lt w_lit (w_len_list (w_arg S))));rw [z]at M;refine GV λu=>?_;have m:(B:Int)<((A.length:Nat):Int):=by lia
  first
   |(rw [cq m]at M;exact absurd M (by decide))
   |(simp at M;lia)
 cases g with
 |cons n o=>
  cases o;cases n with
  |list p q=>exists _,_,A,S,S,p,KN A _ q,l
theorem KP(z:GU)(args:List eJ):z.row.toRowW.claim.post args (.bool I) args=I:=
 postW_of (r:=z.row.toRowW) (X:=(I==I))
  (show SF [] (.bool I) .bool=I by first|rfl|decide|simp [SF,WShape.arms,WShape.armsAll])
  (show(WTm.eq .res (.lit (.bool I))).value [] {args:=args,res:=Y (.bool I),after:=args}=Y (.bool (I==I))from w_eq_bool (w_res S) w_lit) S
variable{op:aa}{m:aw}{s4:List aa}{Wd:(aa->Option J)->aD->Prop}{VZ:au->aD->Prop}
def attach{d:GU}{n:Nat}{z:DefRec}(B:d.most=Y n) (C:z.params.defaults=[])(E:∀T D U v:J,za (docDef z.name z.params z.body z.scope T D U) ⟨[v],[]⟩=dA [(op,v)])(F:z.scope.names.lookup op=Y .local\/z.scope.names.lookup op=Y .cell)(H:z.scope.kind=.function) (K:z.scope.isCoroutine=ao) (L:z.scope.isGenerator=ao)(P:∀(b:au) (j A c:ak) (e k:aa->Option J) (G:Z) (o:aL) (T D U:J) (M:Z) (a:List J) (f:List Int),Ground m s4 [] Wd b j e k A.heap->VZ b A.heap->A.heap.get? G=Y o->o.data=.func (docDef z.name z.params z.body z.scope T D U)->A.heap.CodeRec D z.name->e z.name=Y (.ref G)->A.heap.get? M=Y {cls:=.type "list",data:=.seq a.toArray}->rD a f->f.length<=n->c.gens= #[]->c.os=A.os->Fr A.heap A.heap.objs.size c.heap (l4 (eI z.name z.scope A.heap.objs.size G D).kindOf [(op,.ref M)] λ_=>O)->Cl A.heap.objs.size (fE (A.heap.objs.size+1) z.scope.names []) c.heap (l5 (eI z.name z.scope A.heap.objs.size G D).kindOf [(op,.ref M)] λ_=>O)->aI (aM d.prog b) (p4.deeper (eI z.name z.scope A.heap.objs.size G D)) (execs z.body (eI z.name z.scope A.heap.objs.size G D)) (λg h=>g=.ret (.bool I)/\OldK A.heap h.heap/\h.os=A.os/\jZ h.gens) (λ_ _=>False) c):WalkO m s4 Wd VZ d.row.toRowW z [] (λg a=>gO g a):=by
 intro b j A e k s Q G o T D U R V t u w x W X args be bi ab bk bl ad bm;obtain rfl:R=.none:=Dflts.none x C;obtain rfl:V=.none:=Dflts.noKw x;let⟨M,a,f,rfl,rfl,al,am,an⟩:=KO B ab ad;refine SG ?_;refine call_cells_ret (o:=o) (by rw [depth_caller];decide) t (fd_plain u) s.T.nolimit w (E T D U (.ref M)) (λy ap=>?_) (λas a0 a1 a2=>?_) K L H
 .obtain rfl:y=(op,cp M):=bb.mp ap;rcases F with i|i
  .exact .inl i
  .exact .inr ⟨i,Gw _ _ _ (.inl i)⟩
 .refine g4 (P b j A {A with heap:=as,toks:=a0} e k G o T D U M a f s Q t (fd_plain u) w W al am an X S a1 a2) (λg h l=>?_) (λ_ _ l=>l);let⟨rfl,a3,a4,a5⟩:=l;exists .inl ⟨.bool I,.bool I,[],S,λ_=>S,.bool I,KP d _,λ_=>⟨Vd,λ_ bd=>(nomatch bd)⟩⟩,a3,a4,a5
end KL
namespace L2
def inClass(z:a7)(A:Nat):a7:=match z with
 |.ClassDef _ _ _ a _ _ _ _ _ _ _=>a.getD A (.Pass ⟨0,0,0,0⟩)
 |_=>.Pass ⟨0,0,0,0⟩
def oy(z:a7):Arguments:=match z with
 |.FunctionDef _ a _ _ _ _ _ _ _ _=>a
 |_=>{posonlyargs:=[],args:=[],vararg:=O,kwonlyargs:=[],kw_defaults:=[],kwarg:=O,defaults:=[]}
def jG(z:a7):List a7:=match z with
 |.FunctionDef _ _ a _ _ _ _ _ _ _=>a
 |_=>[]
def ei(z:a7):eh:=match z with
 |.FunctionDef _ _ _ _ _ _ a _ _ _=>a
 |_=>{kind:=.function,names:=[],isGenerator:=ao,isCoroutine:=ao}
abbrev aE:gi:=λ_ _ _ _ _ _=>False
abbrev E0:XK:=λ_ _ _=>False
variable{h:Cx}
theorem cx:Passes aE h E0:=λ_ _ _ _ _ _ _ A=>A.elim
structure a9(K:af)(x A:aa)(z:a7)(D:Z)(G:bc):Prop where
 ex:∃(N:J) (S:Option Z) (kV T U:J) (a:Option Z) (M ct:J) (b:Array (Option J)),
  G=nF x A (oy z) (jG z) (ei z) .none kV T U a M ct/\K.lookup D=Y ⟨N,S,.func G,b⟩/\rB K M A=I
 kp:kT K (.ref D)=I
variable{wP:a7}{d:Z}{op GE:aa}{s4 LE:List aa}{AC:Sp}{B:Nat}{m:aw}{p:au}{L:aa->Option J}{P:aD}{K:af}
def a9.ok{i:bc}(l:a9 K GE op wP d i)(N:qv s4 LE (ei wP))(n:∀z H A D,AC z H A D->z.length=LE.length)(o:∀(T:J) (a:bZ) (h:List dS) (b:ak) (H:U) (z:List V) (A:VK) (D:XK),dj B (a.deeper (eI op (ei wP) b.heap.objs.size d T))->AC z H A D->∃c,gh (hh aE m p K L P s4 op (ei wP) d T a h b H D).qn (jG wP) c/\c (Ends.fn A) (start s4 z) H):f_ (B+1) d i LE AC:=by let⟨u,v,x,y,M,C,T,E,F,rfl,lk,e⟩:=l.ex;refine Aw lk e N n λa h b H z A D q r=>?_;let⟨c,s,t⟩:=o T a h b H z A D q r;exists c,s.qn,t
variable{o0:bc}
def a9.binds{c:aa}(g:a9 K c op wP d o0)(h:∀(D M N:J) (T:Option Z) (U a:J) (b:List J),b.length=s4.length->za (nF c op (oy wP) (jG wP) (ei wP) .none D M N T U a) ⟨b,[]⟩=dA (s4.zip b)):Binds K o0 s4 []:=by let⟨i,j,D,M,N,T,U,a,k,rfl,lk,l⟩:=g.ex;exact .all (h D M N T U a)
variable{wl SB VO VP VQ V0:J}{Pv VY:Option Z}{V3:Array (Option J)}
theorem oz(h:K.lookup d=Y ⟨V0,VY,.func (nF GE op (oy wP) (jG wP) (ei wP) .none SB VO VP Pv wl VQ),V3⟩)(c:rB K wl op=I) (i:kT K (.ref d)=I):a9 K GE op wP d (nF GE op (oy wP) (jG wP) (ei wP) .none SB VO VP Pv wl VQ):=⟨⟨V0,VY,SB,VO,VP,Pv,wl,VQ,V3,S,h,c⟩,i⟩
def KQ(A:eh)(z:aa):Bool:=decide ((A.names.lookup z=Y .local\/A.names.lookup z=Y .cell\/A.names.lookup z=Y .free)/\(z=="__debug__")=ao/\(z=="__classdict__")=ao)
variable{pu:b2}
theorem T(i:Nat)(G:h.N[i]?=Y op:=by rfl)(M:KQ h.env.scope op=I:=by exact GW I):PE h (.Name op pu) (jy i):=let A:=d6 M;HX G A.1 A.2.1 A.2.2
variable{ST VR:Prop}
def b1(D:ST):if ao=I then VR else ST:=by rwa [N d5]
def cf(D:ST):if I=I then ST else VR:=by rwa [ai S]
def ec{c:Prop}[Decidable c](G:c->ST)(M:¬c->VR):if c then ST else VR:=by
 by_cases z:c
 .rw [ai z];exact G z
 .rw [N z];exact M z
def KR{c:Prop}[Decidable c](D:c)(G:ST):if(!decide c)=I then VR else ST:=by rw [cq D];exact b1 G
end L2
open L2
namespace L3
structure Bc(H:U)(G:aD)(a z N:Z):Prop where
 ex:∃A D M ts a0,G.get? a=Y A/\(A.cls=.ref N/\D[0]?=Y a0)/\A.data=.fields D/\D[1]?=Y (.ref z)/\z≠a/\G.get? z=Y M/\M.data=.fields ts/\ts[3]?=Y .none
 fa:H a=O
 fT:H z=O
def bA(S:aw)(T:au):gi:=λa H A b c z=>∃(G M N:Z) (D:U),c=.ref G/\z.os=A.os/\jZ z.gens/\Un (eb a) [] H D A.heap z.heap/\dv S T D z.heap/\
 Bc D z.heap G M N/\A.heap.get? G=O/\A.heap.get? M=O/\b (.ref N) O D
variable{P:aD}{d:Z}{m:aw}{p:au}
def d2.got{H:U}{o:HO}(A:d2 m p H P d o):∃M,P.get? d=Y M:=by
 cases o with
 |lst a=>let⟨_,_,_,_,z⟩:=A;exists _,z
 |tup a=>let⟨_,_,_,M,z,_⟩:=A;exists _,z
 |dK b=>let⟨_,_,_,_,o,_,_,z,_⟩:=A;exists _,z
 |dT b=>let⟨_,_,_,_,o,_,_,z,_⟩:=A;exists _,z
 |set c n=>let⟨o,_,_,_,z,_⟩:=A;exists _,z
 |ins D e fs=>let⟨_,_,_,z,_⟩:=A;exists _,z
 |own y=>exact A
 |xd fs=>let⟨_,⟨_,_,_,z,_⟩,_⟩:=A;exists _,z
 |r0 lo f=>let⟨_,_,_,z⟩:=A;exists _,z
 |bP M u=>let⟨z,_⟩:=A;exists _,z
 |k9 ps=>exact⟨_,show P.get? d=Y _ from A⟩
 |met g y=>exact⟨_,show P.get? d=Y _ from A⟩
 |ext h=>let⟨_,z,_⟩:=A;exact z
variable{r:U}{t:ak}{h:Cx}{pr:List (Z×aL)}{s3:L2.St}
theorem Bd(A:Inv h pr s3 r t){o:HO}(D:r d=Y o):∃G,t.heap.get? d=Y G:=d2.got (A.bf d o D)
def KS(D:Inv h pr s3 r t)(G:t.heap.get? d=O):r d=O:=by
 cases a:r d with
 |none=>rfl
 |some o=>
  let⟨M,A⟩:=Bd D a;rw [G]at A;cases A
def Be(M:Inv h pr s3 r t)(bt:h.stack=h.env::h.outer)(R:h.ex=[])(bv:h.env.frame=Y h.env.locals){ls:List Z}(y:∀z∈ls,r z=O/\h.ea.heap.get? z=O){b k:Z}{B:J}{d:aD}{C:XK}(V:r b=O) (ab:h.ea.heap.get? b=O)(ad:zy (pL t.heap (ls++eb h.stack)) h.outer b (.ref k) B d) (al:t.heap.UpToSlots d) (am:C (.ref k) O r):bA h.prog h.w h.outer h.jx h.ea C (.ref b) {t with heap:=d}:=by
 let⟨an,ca,ap,as,a0,N,a1,E,a2,a3,a4,a5,i,bd,F,H,be⟩:=ad;have l:∀z,z∈eb h.stack->z=h.env.locals\/z∈h.fs:=λz T=>bg.mp (M.r3 z T)
 have m:∀z o,t.heap.get? z=Y o->z∉ls->z∉eb h.stack->d.get? z=Y o:=λz o A e U=>an z o (uk _ A λD=>(bR.mp D).elim e U);have K:∀z u,r z=Y u->z∉ls/\z∉eb h.stack:=λz u A=>⟨λD=>(by rw [(y z D).1]at A;cases A),λD=>(by rw [M.r4 z D]at A;cases A)⟩
 have n:∀z o,h.ea.heap.get? z=Y o->z≠h.env.locals:=λz o A=>fB (gM (dN A) M.ok.above);have p:∀z o,h.ea.heap.get? z=Y o->z∉ls:=λz o A D=>by rw [(y z D).2]at A;cases A
 have f:∀z:Z,z∉h.ex:=λz D=>by rw [R]at D;cases D
 have L:∀z o,z∈h.fs->t.heap.get? z=Y o->∃P,d.get? z=Y {o with slots:=P}:=λz o T A=>by let⟨_,bi,g,q⟩:=M.funs.mem T;rw [A]at g;cases g;exact al z o A q
 have bk:r N=O:=by
  cases G:r N with
  |none=>rfl
  |some u=>
   obtain⟨j,σ⟩:=Bd M G;let⟨e,U⟩:=K N u G;rw [uk _ σ λD=>(bR.mp D).elim e U]at i;cases i
 have bl:h.ea.heap.get? N=O:=by
  cases G:h.ea.heap.get? N with
  |none=>rfl
  |some j=>
   let⟨s,a⟩:=M.base.there N j G (f N);have D:N∈eb h.stack:=by refine GX λU=>?_;rw [uk _ a λD=>(bR.mp D).elim (p N j G) U]at i;cases i
   rcases l N D with A|A
   .exact absurd A (n N j G)
   .obtain⟨_,bi,g,q⟩:=ap.mem A;rw [F]at g;cases g;exact absurd H (q E)
 exists b,N,k,r,S,M.os,M.bare,⟨λz o A X T H1=>?_,λz o A X T H1=>?_,λz o A X H1=>M.base.free z o A X (f z),λz o A H1=>?_,M.base.ki,M.base.iZ,M.base.kj⟩,λz u A=>?_,⟨⟨as,a0,a1,E,B,a2,a3,a4,a5,bd,F,H,be⟩,V,bk⟩,ab,bl,am
 .refine m z o (M.base.keep z o A X T (f z)) (p z o A) λD=>?_;rcases l z D with G|G
  .exact n z o A G
  .exact T G
 .obtain⟨P,a⟩:=M.base.slot z o A X T (f z);let⟨Q,w⟩:=L z _ T a;exists Q,w
 .obtain⟨s,a⟩:=M.base.there z o A (f z);by_cases T:z∈h.fs
  .obtain⟨Q,w⟩:=L z _ T a;exists _,w
  .exact⟨s,m z s a (p z o A) λD=>(l z D).elim (n z o A) T⟩
 .refine(M.bf z u A).iY (λc v bm σ=>?_) (λ_ G=>G) λ_ _ G=>G;have bn:∃x,r c=Y x:=by
   rcases bm with G|G
   .exact⟨u,G▸A⟩
   .exact⟨_,G⟩
  let⟨x,bs⟩:=bn;let⟨e,U⟩:=K c x bs;exact m c v σ e U
variable{q Q:Z}{Ch:XK}{s5:J->ak->Prop}
def KU(M:Inv h pr s3 r t)(N:h.stack=h.env::h.outer)(e:h.ex=[])(a:h.env.frame=Y h.env.locals)(f:Bc r t.heap d q Q)(c:h.ea.heap.get? d=O)(g:h.ea.heap.get? q=O)(z:Ch (.ref Q) O r){i:kS} :aI i h.A (Gv h.env (.ref d)) (λ_ k=>bA h.prog h.w h.outer h.jx h.ea Ch (.ref d) k) s5 t:=by
 let⟨⟨l,m,n,p,A,S,s,b,u,v,w,x,y⟩,X,B⟩:=f;have C:∀T∈h.stack,∀D,T.frame=Y D->D∈[d,q]++eb h.stack:=λT E D U=>eH _ (j0.mpr ⟨T,E,U⟩)
 have F:zy (pL t.heap ([d,q]++eb h.stack)) (h.env::h.outer) d (.ref Q) A t.heap:=
  ⟨λD o G=>y1 _ G,um _ (by simp),N▸GY M.stack C,l,m,q,n,p,S,s,b,u,um _ (by simp),v,w,x,y⟩
 refine wpAny_leaves_onW (N▸M.ok.frames) a F λL H K=>?_;refine Be M N e a (ls:=[d,q]) (λD U=>?_) X c H K z;rcases bg.mp U with G|G
 .rw [G];exists X,c
 .rw [bb.mp G];exists B,g
variable{t0:List J}
def KW{X:Cx}(z:Inv X pr s3 r t)(M:X.stack=X.env::X.outer)(a:X.ex=[])(b:X.env.frame=Y X.env.locals){c:Z}(G:Heap.MadeExcOf t.heap P d (.ref c) t0)(h:Ch (.ref c) O r){i:kS} :aI i X.A (Gv X.env (.ref d)) (λ_ k=>bA X.prog X.w X.outer X.jx X.ea Ch (.ref d) k) s5 {t with heap:=P}:=by
 have l:∀N∈X.stack,∀D,N.frame=Y D->D∈([]:List Z)++eb X.stack:=λN m D T=>eH _ (j0.mpr ⟨N,m,T⟩);refine wpAny_leaves_madeW (base:=pL t.heap ([]++eb X.stack)) (h:=t.heap) (M▸z.ok.frames) b (λD o U=>y1 _ U) (by rw [<-M];exact GY z.stack l) G λq A n _ _ p=>?_;refine Be z M a b (ls:=[]) (λD T=>nomatch T) (KS z G.new) ?_ n ((Ve G.keeps).trans p) h;cases U:X.ea.heap.get? d with
 |none=>rfl
 |some o=>
  let⟨s,f⟩:=z.base.there d o U (by rw [a];simp);rw [G.new]at f;cases f
abbrev fU:List J:=[.type "Exception",.type "BaseException",.type "object"]
set_option tactic.hygienic true
variable{FB:String}
def wu{K:af}(D:K.In P)(z:gP K d t0 FB=I):∃g h M N S T U a b c r s t u v w mN,P.get? d=Y (zz M N d h S g T U a b c r s t u v w FB)/\P.Ns h mN/\mN "__init__"=O/\OwnTail P t0 g:=by
 unfold gP at z;split at z
 .rename_i x y i B;split at z
  .rename_i V C j k l m E n o F;simp only [bx,iM,Bool.not_eq_true']at z;let⟨⟨⟨⟨⟨H,L⟩,p⟩,A⟩,G⟩,q⟩:=z;subst H L;let⟨M,S,X,Q,N,T,U,a,b,c,ab⟩:=y;dsimp only at o p G q;subst o p;have R:i= #[j,k,l,m,Y (.builtin E),n]:=by
    cases i with
    |mk ad=>exact bD Array.mk F
   subst R;exists C,Q,M,N,S,T,U,a,b,c,x,j,k,l,m,n,_,D _ _ B,.of_isNs (PySem.W.isNs_of_in D G),PySem.W.nsMap_none_of_in D G q,PySem.W.tail_of_in D A
  .cases z
 .cases z
set_option tactic.hygienic false
variable{B:Nat}{Sc:aL}{Ps:kS}{sc:bZ}{op GE:aa}{pi s2:Z}{We Wv:List J}{Tm Wb WL WM:Bool}{s4:List aa}{Ww WN:Option Bool}{Pv VY:Option Z}{Wx Wz WA WB WO WP WQ WR:Option J}{Ty:String}
def KX{M:Array F9}{N:Drawn}{T:OsState}{b:Bool->ak->Prop}{i:aa}  {c:List J}   {o:List J}    {u v:Option J} {y:aa}    {H:List aa} {K:List J}     (z:P.get? q=Y (zz i op q pi We c Tm s4 o Wb Ww Pv Wx Wz u v WA FB)) (e:P.get? d=Y (zz y GE d s2 Wv t0 WL H K WM WN VY WB WO WP WQ WR Ty))(al:P.get? Q=Y Sc) (am:Sc.cls=.ref q) (an:t0.contains (.type "BaseException")=I) (ap:(cp q::c).contains (.ref d)=ao)(as:b ao ⟨P,M,N,B,T⟩):aI Ps sc (excMatches (.ref Q) (.ref d)) b s5 ⟨P,M,N,B,T⟩:=by
 have a0:(cp d::t0).contains (.type "BaseException")=I:=by rw [SH,an,Bool.or_true]
 have a1:=tc_notTuple;unfold excMatches
 repeat (first|(with_reducible refine GZ al ?_;rw [am])|with_reducible refine GZ e ?_|with_reducible refine GZ z ?_|(with_reducible refine SI e ?_;rw [a0])|(with_reducible refine SI z ?_;rw [ap])|wp_step)
 exact as
variable{wP:a7}{LE:List aa}{AC:Sp}{o0:bc}{L:aa->Option J}{K:af}
def KY{c:aa}{i:Nat}(l:a9 K op c wP d o0)(M:qv s4 LE (ei wP))(n:∀z H A D,AC z H A D->z.length=LE.length)(o:∀(T:J) (a:bZ) (g:List dS) (b:ak) (H:U) (z:List V) (A:VK) (D:XK),dj i (a.deeper (eI c (ei wP) b.heap.objs.size d T))->AC z H A D->∃j,gh (hh (bA m p) m p K L P s4 c (ei wP) d T a g b H D) (jG wP) j/\j (Ends.fn A) (start s4 z) H):k_ (i+1) d o0 LE AC:=by let⟨s,t,u,v,x,y,T,B,C,rfl,lk,N⟩:=l.ex;exact Aw lk N M n λa g b H z A D q r=>o T a g b H z A D q r
def wx(A P:List aa)(z:eh):Bool:=decide (z.kind=.function/\z.isCoroutine=ao/\z.isGenerator=ao/\A.Nodup/\A.take P.length=P/\(∀D∈P,z.names.lookup D=Y .local\/z.names.lookup D=Y .cell)/\∀y∈z.names,y.2≠.free)
theorem Bg{D:eh}(M:wx s4 LE D=I):qv s4 LE D:=let z:=d6 M;⟨z.1,z.2.1,z.2.2.1,z.2.2.2.1,z.2.2.2.2.1,z.2.2.2.2.2.1,z.2.2.2.2.2.2⟩
theorem _root_.Lake.L2.a9.go{c:aa}{i:bc}(o:a9 K op c wP d i)(A:List aa)(e:∀(T:J) (a:bZ) (g:List dS) (b:ak) (H:U) (z:List V) (D:VK) (M:XK),dj B (a.deeper (eI c (ei wP) b.heap.objs.size d T))->AC z H D M->A.Nodup->(a.deeper (eI c (ei wP) b.heap.objs.size d T)).units+1<cK->20000<aU->∃k,gh (hh aE m p K L P A c (ei wP) d T a g b H M).qn (jG wP) k/\k (Ends.fn D) (start A z) H)(q:wx A s4 (ei wP)=I:=by decide+kernel)(r:∀z H D M,AC z H D M->z.length=s4.length:=by intro _ _ _ _ h;cases h;subst_vars;rfl):f_ (B+1) d i s4 AC:=
 have l:=Bg q
 o.ok l r λT a g b H z D M N h=>e T a g b H z D M N h l.nd (by have:=N.un;cutsat) (by decide)
theorem _root_.Lake.L2.a9.ew{c:aa}{i:bc}(o:a9 K op c wP d i)(A:List aa)(w:∀(T:J) (a:bZ) (g:List dS) (b:ak) (H:U) (z:List V) (D:VK) (M:XK),dj B (a.deeper (eI c (ei wP) b.heap.objs.size d T))->AC z H D M->A.Nodup->(a.deeper (eI c (ei wP) b.heap.objs.size d T)).units+1<cK->20000<aU->∃k,gh (hh (bA m p) m p K L P A c (ei wP) d T a g b H M) (jG wP) k/\k (Ends.fn D) (start A z) H)(q:wx A s4 (ei wP)=I:=by decide+kernel)(r:∀z H D M,AC z H D M->z.length=s4.length:=by intro _ _ _ _ h;cases h;subst_vars;rfl):k_ (B+1) d i s4 AC:=
 have l:=Bg q
 KY o l r λT a g b H z D M N h=>w T a g b H z D M N h l.nd (by have:=N.un;cutsat) (by decide)
variable{wl:J}
def dw{c:List aa}{e:eh}{i:List dS}{H:U}:Passes (bA m p) (hh (bA m p) m p K L P c op e d wl sc i t H Ch) Ch:=by
 intro y B C j N E T k;let⟨l,w,F,A,rfl,n,M,q,r,s,f,u,v⟩:=k;have a:∀z,j.heap.get? z=O->t.heap.get? z=O:=λz N=>by
  cases D:t.heap.get? z with
  |none=>rfl
  |some o=>
   let⟨Q,b⟩:=T.base.there z o D (λx=>nomatch x);rw [N]at b;cases b
 exact KU (T.qm n q r M (ch:=[]) λ_ D=>nomatch D) S rfl rfl s (a l f) (a w u) v
def KZ(z:Z)(A:XK):TS:=λ_ _ H=>A (.ref z) O H
variable{Tk:List dS}{pu v6 Wc:b2}{WS:String}
def jH{b:eh}{c:Z}{H:U}(o:ExcBaseFacts FB Ty WS t0) (A:fU.contains (.type FB)=I) (q:gP K d fU Ty=I)(r:Gl (hh (bA m p) m p K L P s4 GE b c wl sc Tk t H Ch) op) (s:L op=Y (.ref d)) (D:sc.handled=O) (u:(op==("__debug__":aa))=ao:=by decide):PS (hh (bA m p) m p K L P s4 GE b c wl sc Tk t H Ch) (.Raise (Y (.Call (.Name op pu) [] [] v6)) O Wc) (KZ d Ch):=by
 intro a3 a4 a5 bd be N v;let⟨x,y,B,C,E,z,Q,R,V,X,ab,ad,al,am,an,ap,mN,as,a0,a1,i⟩:=wu N.fb q;refine wpAny_Raise_call_subU (C:=d) (nm:=B) (q:=C) (N:=y) (bs:=E) (bm:=x) (hdct:=z) (sn:=Q) (sub:=R) (ab:=V) (col:=X) (dd:=ab) (k0:=ad) (k1:=al) (k2:=am) (k3:=an) (k5:=ap)
  o A j8 (mN:=mN) (i.hasType (by decide)) (show(sc.deeper _).handled=O from D) S a1 (ob N r s ⟨S,?_⟩ u)
 exact evalArgs_empty ⟨S,cP _,as,a0,i,λbi bk a2=>KW N S rfl rfl a2 v⟩
def mroIn(K:af)(z:Z):Bool:=match K.lookup z with
 |some ⟨_,_,.cls a,_⟩=>a.mro==.ref z::fU
 |_=>ao
set_option tactic.hygienic true
def K0{K:af}(M:K.In P)(z:mroIn K d=I){i:Option J}(n:P.get? d=Y (zz op GE d q We t0 Tm s4 Wv Wb Ww Pv Wx i Wz WA WB FB)):t0=fU:=by
 unfold mroIn at z;split at z
 .rename_i c p A r o;cases ((M _ _ o).symm.trans n);exact(p5 (iM.mp z)).2
 .cases z
set_option tactic.hygienic false
variable{sK:U}{s':ak}
def land(a:Inv h pr s3 sK t)(i:s'.os=t.os)(j:jZ s'.gens)(N:Un (eb h.stack) [] sK r t.heap s'.heap)(k:dv h.prog h.w r s'.heap)(x:r d=O)(y:r q=O)(B:t.heap.get? d=O) (E:t.heap.get? q=O)  (F:(pL s'.heap ([d,q]++eb h.stack)).StaysIn P) (H:s'.heap.UpToSlots P):Inv h pr s3 r {s' with heap:=P}:=by
 have l:=a.qm i N k j (ch:=[]) λ_ D=>nomatch D
 have e:∀z o,s'.heap.get? z=Y o->z≠d->z≠q->z∉eb h.stack->P.get? z=Y o:=λz o A K L X=>F z o (uk _ A λM=>by
  rcases bR.mp M with M|M
  .rcases bg.mp M with M|M
   .exact K M
   .exact L (bb.mp M)
  .exact X M)
 have m:∀z o,t.heap.get? z=Y o->z≠d:=λz o A D=>by rw [D,B]at A;cases A
 have n:∀z o,t.heap.get? z=Y o->z≠q:=λz o A D=>by rw [D,E]at A;cases A
 have p:∀z o,z∈eb h.stack->s'.heap.get? z=Y o->∃T,P.get? z=Y {o with slots:=T}:=λz o G A=>by obtain⟨_,ad,σ,Q⟩:=l.stack.mem G;rw [A]at σ;cases σ;exact H z o A Q
 refine a.qm (s':={s' with heap:=P}) i ⟨λz o A f G b=>?_,λz o A f G b=>?_,N.free,λz o A b=>?_,N.ki,N.iZ,N.kj⟩ (λz u A=>?_) j (ch:=[]) λ_ D=>nomatch D
 .exact e z o (N.keep z o A f G b) (m z o A) (n z o A) G
 .obtain⟨T,S⟩:=N.slot z o A f G b;let⟨s,g⟩:=p z _ G S;exists s,g
 .obtain⟨s1,S⟩:=N.there z o A b;by_cases G:z∈eb h.stack
  .obtain⟨s,g⟩:=p z _ G S;exists _,g
  .exact⟨s1,e z s1 S (m z o A) (n z o A) G⟩
 .refine(k z u A).iY (λc v R V=>?_) (λ_ D=>D) λ_ _ D=>D;have ab:∃w,r c=Y w:=by
   rcases R with D|D
   .exact⟨u,D▸A⟩
   .exact⟨_,D⟩
  let⟨w,U⟩:=ab;refine e c v V (λD=>?_) (λD=>?_) λD=>?_
  .rw [D,x]at U;cases U
  .rw [D,y]at U;cases U
  .rw [l.r4 c D]at U;cases U
abbrev Cx.kx(z:Cx)(A:bZ)(D:List (Z×aL)):Cx:={z with A:=A,calm:=ao,pn:=D,xe:=λ_ _=>False}
abbrev Cx.oA(z:Cx)(A:List (Z×aL))(D:J->ak->Prop):Cx:={z with pn:=A,xe:=D}
theorem K1(z:h.Ok)(D:sc.frames=h.A.frames)(G:List (Z×aL)):(Cx.kx h sc G).Ok:=
 ⟨z.mod,z.kind,z.glob,z.blt,z.above,z.inj,z.has,z.ml,(λM=>nomatch M),D.trans z.frames,z.n8,z.n9,z.bs,z.ip,z.mm,z.mn,z.funs,z.km⟩
theorem K2(z:h.Ok)(A:List (Z×aL))(D:J->ak->Prop):(Cx.oA h A D).Ok:=
 ⟨z.mod,z.kind,z.glob,z.blt,z.above,z.inj,z.has,z.ml,z.hd,z.frames,z.n8,z.n9,z.bs,z.ip,z.mm,z.mn,z.funs,z.km⟩
variable{H:U}
theorem Bh(z:Inv h pr s3 H t)(G:sc.frames=h.A.frames):Inv (Cx.kx h sc (h.pn++pr)) [] s3 H t:=
 ⟨K1 z.ok G _,z.os,z.bare,z.base,z.loc,z.cell,z.free,z.gG,λM D=>z.pin M (by rw [b0]at D;exact D),z.bf,z.len⟩
theorem sE(A:h.Ok)(z:Inv (Cx.kx h sc (h.pn++pr)) [] s3 H t):Inv h pr s3 H t:=
 ⟨A,z.os,z.bare,z.base,z.loc,z.cell,z.free,z.gG,λG M=>z.pin G (by rwa [b0]),z.bf,z.len⟩
theorem K3(z:Inv h pr s3 H t)(D:J->ak->Prop):Inv (Cx.oA h (h.pn++pr) D) [] s3 H t:=
 ⟨K2 z.ok _ _,z.os,z.bare,z.base,z.loc,z.cell,z.free,z.gG,λG A=>z.pin G (by rw [b0]at A;exact A),z.bf,z.len⟩
variable{WF:List (Z×aL)}
theorem qG(A:h.Ok)(z:Inv (Cx.oA h (h.pn++pr) s5) WF s3 H t):Inv h pr s3 H t:=
 ⟨A,z.os,z.bare,z.base,z.loc,z.cell,z.free,z.gG,λM N=>z.pin M (gN _ N),z.bf,z.len⟩
variable{Ev:Ends}
def K4(M:h.Ok){S:Flow}(N:SP (Cx.kx h sc (h.pn++pr)) [] Ev S t):SP h pr Ev S t:=by
 cases S with
 |next=>let⟨z,A,D,G⟩:=N;exists z,A,sE M D,G
 |brk=>let⟨z,A,D,G⟩:=N;exists z,A,sE M D,G
 |cont=>let⟨z,A,D,G⟩:=N;exists z,A,sE M D,G
 |ret u=>let⟨v,z,A,D,a,G⟩:=N;exists v,z,A,sE M D,a,G
def sF(M:h.Ok){fl:Flow}(N:SP (Cx.oA h (h.pn++pr) s5) [] Ev fl t):SP h pr Ev fl t:=by
 cases fl with
 |next=>let⟨z,A,D,G⟩:=N;exists z,A,qG M D,G
 |brk=>let⟨z,A,D,G⟩:=N;exists z,A,qG M D,G
 |cont=>let⟨z,A,D,G⟩:=N;exists z,A,qG M D,G
 |ret u=>let⟨v,z,A,D,U,G⟩:=N;exists v,z,A,qG M D,U,G
inductive PH (z:Cx):List rH->List (Z×TS)->Prop
 |nil:PH z [] []
 |cons {x:aa} {np pos:b2} {b:a7} {kx:List a7} {rest:List rH} {a:Z} {t:TS} {rs:List (Z×TS)} {newId:String}:
   Gl z x->z.G x=Y (.ref a)->gP z.K a fU newId=I->mroIn z.K a=I->(x==("__debug__":aa))=ao->
   (∀(A:bZ) (pn:List (Z×aL)),gh (Cx.kx z A pn) (b::kx) t)->PH z rest rs->PH z (.ExceptHandler (Y (.Name x np)) O (b::kx) pos::rest) ((a,t)::rs)
def catchR(z:Nat)(A:Ends):List (Z×TS)->Z->U->Prop
 |[],_,_=>False
 |(b,c)::d,a,H=>if a=b then c A (Gu z O) H else catchR z A d a H
def Bi(A:Nat)(D:List (Z×TS))(G:Ends):XK:=λc _ H=>∃z,c=.ref z/\catchR A G D z H
def K5(A:Nat)(D:XK->TS)(G:List (Z×TS)):TS:=λz M H=>D (Bi A G z) z M H
set_option tactic.hygienic true
def K6{H:U}:∀{M:List rH} {G:List (Z×TS)},PH h M G->catchR B Ev G d H->∃a,gP h.K d fU a=I/\mroIn h.K d=I:=by
 intro M G N;induction N with
 |nil=>intro z;exact z.elim
 |cons e f fV b hd g N c=>
  intro z;unfold catchR at z;split at z
  .rename_i A;subst A;exists _,fV,b
  .exact c z
set_option tactic.hygienic false
variable{Os:ak}
def K7(a:Inv h pr s3 sK Os)(C:t.os=Os.os)(j:jZ t.gens)(k:Un (eb h.stack) [] sK r Os.heap t.heap)(l:dv h.prog h.w r t.heap)(m:r d=O)(n:r Q=O)(o:Os.heap.get? d=O) (p:Os.heap.get? Q=O) {y:String} (B:gP h.K q fU y=I) (E:mroIn h.K q=I) (T:∀G:J,(h.A.mark (Y G)).frames=h.A.frames):∀{e:List rH} {U:List (Z×TS)},PH h e U->∀{M:aD},zy (pL t.heap ([d,Q]++eb h.stack)) (h.env::h.outer) d (.ref q) wl M->t.heap.UpToSlots M->catchR h.N.length Ev U q r->aI (aM h.prog h.w) h.A (handleBy (.ref d) h.env e) (SP h pr Ev) h.xe {t with heap:=M}:=by
 intro e U D;induction D with
 |nil=>intro M _ _ A;exact A.elim
 | @cons x an ap as kx rest s a1 U a2 F H fV a3 hd K D L=>
  intro M b f A;have c:=land a C j k l m n o p b.1 f
  refine wpAny_handleBy_cons (codeAny_handlers_test (ob (Bh c (T (.ref d))) F H ?_ hd)) (by intro z;cases z);let⟨a4,a5,bd,be,bi,bk,bl,bm,bn,bs,bt,bv,ca,cd,ce,ch,mN,g,ci,cl,P⟩:=wu c.fb B;let⟨cn,co,cr,cs,ct,c0,c1,c2,c3,c4,c5,c6,c7,c8,c9,db,dd,X,dl,dp,R⟩:=wu c.fb fV;obtain⟨ds,σ,u⟩:=b.there;unfold catchR at A;by_cases G:q=s
  .subst G;rw [ai S]at A;refine wpAny_excMatches_sub_self g σ u (P.hasType (by decide)) (codeAny_handlers_suite ?_);refine lands_againW b λV ab ad=>?_;have w:=land a C j k l m n o p ab.1 (f.trans ad)
   have al:Inv h pr (Gu h.N.length O) r {t with heap:=V}:=w.weak (RW▸w.len.symm) λi v z=>by
    rw [RV]at z;split at z
    .cases z
    .cases z
   exact g4 (K (h.A.mark (Y (.ref d))) (h.pn++pr) [] _ _ r Ev (Bh al (T (.ref d))) A) (λdx dK z=>K4 a.ok z) λ_ _ z=>z.elim
  .rw [N G]at A;refine KX g X σ u (R.hasType (by decide)) ?_ (L b f A);rw [K0 c.fb E g];have am:(cp s==cp q)=ao:=by
    rw [iK];intro z;cases z;exact G S
   rw [SH,am];rfl
variable{On:List a7}
def K8{U:rH}{b:List rH}{c:List (Z×TS)}{v:b2}{T:XK->TS}(i:h.stack=h.env::h.outer)(w:h.env.frame=Y h.env.locals)(a:∀(j:List (Z×aL)) (k:J->ak->Prop) (l:XK),Passes (bA h.prog h.w) (Cx.oA h j k) l->gh (Cx.oA h j k) On (T l))(m:PH h (U::b) c):PS h (.Try On (U::b) [] [] v) (K5 h.N.length T c):=by
 intro pr x s3 H Ev A y;refine wpAny_Try_except ?_;refine g4 (a (h.pn++pr) (λG t=>aI (aM h.prog h.w) h.A (noteFrame G h.env) (λ_ e=>aI (aM h.prog h.w) h.A (setFlight G O) (λ_ B=>aI (aM h.prog h.w) h.A (handleBy G h.env (U::b)) (SP h pr Ev) h.xe B) h.xe e) h.xe t) (Bi h.N.length c Ev) ?_ [] x s3 H Ev (K3 A _) y) (λE e z=>?_) λG e z=>z
 .intro ca cd r t G Os F K;let⟨d,q,Q,sK,rfl,n,p,D,g,L,P,X,M⟩:=K;let⟨ce,R,M⟩:=M;cases R;let⟨ci,V,ab⟩:=K6 m M;have s:=qG A.ok F
  have σ:=s.qm n D g p (ch:=[]) λ_ z=>nomatch z
  let⟨⟨ad,al,am,an,wl,ap,as,a1,a2,a3,a4,a5,bd⟩,be,bi⟩:=L;have bk:∀f∈h.stack,∀N,f.frame=Y N->N∈[d,q]++eb h.stack:=λf bl N a=>eH _ (j0.mpr ⟨f,bl,a⟩)
  have bm:zy (pL Os.heap ([d,q]++eb h.stack)) (h.env::h.outer) d (.ref Q) wl Os.heap:=
   ⟨λN o z=>y1 _ z,um _ (by simp),i▸GY σ.stack bk,ad,al,q,am,an,ap,as,a1,a2,um _ (by simp),a3,a4,a5,bd⟩
  refine wpAny_looks_onW (i▸σ.ok.frames) w bm λcl bn bs=>?_;refine wpAny_landsW bn λcn bt bv=>?_;exact K7 s n p D g be bi P X V ab (λ_=>S) m bt (bs.trans bv) M
 .cases E with
  |next=>exact uu (sF A.ok z)
  |brk=>exact sF (fl:=.brk) A.ok z
  |cont=>exact sF (fl:=.cont) A.ok z
  |ret u=>exact sF (fl:=.ret u) A.ok z
abbrev bW:=List (List Key×Z×V)
abbrev e3:bW->List (List Key×Z×J)->Prop:=cE λz A=>z.1=A.1/\z.2.1=A.2.1/\RelV z.2.2 A.2.2
def qH(M:aw)(N:au)(A:Z)(z:bW)(S:aD):Prop:=z.length<=aU/\(A==er)=ao/\(z.map (·.1)).Nodup/\
 ∃D,e3 z D/\∃o G T,S.get? A=Y o/\o.ExactDict/\o.data=.dict G T/\G.toList=D.map (jX (iL (eK M N)))
def dX(z:aw)(A:au)(D:Z)(G:bW):HO:=.ext (qH z A D G)
def b9(K:af)(H:U)(A:bW):Prop:=∀z∈A,ax K H z.2.1 (z.1.map kV)
def cm(z:bW)(A:List Key):Option V:=(z.find? λD=>decide (D.1=A)).map (·.2.2)
def cy(A:bW)(D:List Key)(G:Z)(v:V):bW:=if(cm A D).isSome then A.map (λz=>if z.1=D then(z.1,z.2.1,v)else z)else A++[(D,G,v)]
variable{KM:aD}{pp:bW}
def K9(z:qH m p d pp P)(A:∀o,P.get? d=Y o->KM.get? d=Y o):qH m p d pp KM:=by let⟨D,G,M,N,S,o,T,U,b,c⟩:=z;exists D,G,M,N,S,o,T,U,A o b,c
theorem sG(z:qH m p d pp P):d2 m p H P d (dX m p d pp):=
 ⟨z,(let⟨_,_,_,_,_,o,_,_,A,_⟩:=z;⟨o,A⟩),λM N D G=>K9 D G⟩
theorem sH(z:d2 m p H P d (dX m p d pp)):qH m p d pp P:=z.1
variable{v0:List (List Key×Z×J)}
def e3.keys(A:e3 pp v0):pp.map (·.1)=v0.map (·.1):=by
 induction A with
 |nil=>rfl
 |cons P _ b=>rw [aZ,aZ,P.1,b]
def e3.val(G:e3 pp v0)(z:List Key):fv (cm pp z) ((fN v0 z).map (·.2)):=by
 induction G with
 |nil=>exact j2
 | @cons p c ps d P _ b=>
  unfold cm fN at b⊢;rw [gb,gb,<-P.1];by_cases D:p.1=z
  .rw [cq D];exact P.2.2
  .rwa [bU D]
def e3.mem(N:e3 pp v0):∀z∈v0,∃A∈pp,A.1=z.1/\A.2.1=z.2.1:=by
 induction N with
 |nil=>intro z D;cases D
 | @cons A c ps d P _ b=>
  intro z D;rcases bg.mp D with G|G
  .subst G;exists A,bE,P.1,P.2.1
  .obtain⟨S,T,U⟩:=b z G;exists S,bC _ T,U
def e3.put(G:e3 pp v0)(z:List Key)(b:Z){v:V}{u:J}(U:RelV v u):e3 (cy pp z b v) (hQ v0 z b u):=by
 have d:(cm pp z).isSome=(fN v0 z).isSome:=by have:=(G.val z).mw;rwa [kU]at this
 unfold cy hQ;rw [d];by_cases A:(fN v0 z).isSome=I
 .rw [ai A,ai A];clear d A;induction G with
  |nil=>exact .nil
  | @cons p e ps i P _ c=>
   refine .cons ?_ c;unfold putAt;simp only [<-P.1];by_cases f:p.1=z
   .simp only [ai f];exists j2,P.2.1,U
   .simp only [N f];exact P
 .rw [N A,N A];have g:∀{M:bW} {T:List (List Key×Z×J)},e3 M T->e3 (M++[(z,b,v)]) (T++[(z,b,u)]):=by
   intro M T e;induction e with
   |nil=>exact .cons ⟨S,S,U⟩ .nil
   |cons P _ c=>exact .cons P c
  exact g G
def wy(aX:bW)(A:List Key)(D:Z)(v:V):(cy aX A D v).length<=aX.length+1:=by
 unfold cy;split
 .rw [z];lia
 .rw [br];exact aR _
variable{AT:List Key}{aX:bW}
def ly{K:af}(z:b9 K H aX)(v:V)(b:ax K H d (AT.map kV)):b9 K H (cy aX AT d v):=by
 unfold cy;split
 .intro N A;let⟨T,U,rfl⟩:=bH.mp A;split
  .exact z T U
  .exact z T U
 .intro N A;rcases bR.mp A with D|D
  .exact z N D
  .rwa [bb.mp D]
theorem b9.same{K:af}(G:b9 K H pp)(M:∀A D,ax K H A D->ax K r A D):b9 K r pp:=λN S=>M _ _ (G N S)
variable{t3:List V}
def bF{K:af}{o:HO}{c:Z}(z:cX (H d)\/H d=O)(h:ax K H c t3):ax K (upd H d o) c t3:=by
 have N:∀u,H c=Y u->(∀M,u=.tup M->c≠d):=λu T M U D=>by
  subst D;rw [T,U]at z;rcases z with z|z
  .exact z
  .cases z
 rcases h with(h|⟨b,h⟩)|h
 .exact .inl (.inl (ah (N _ h _ S)▸h))
 .refine .inl (.inr ⟨b,?_⟩);have:c≠d:=λD=>by
   subst D;rw [h]at z;rcases z with z|z
   .exact z
   .cases z
  rwa [ah this]
 .exact .inr h
def lz(z:Inv h pr s3 H t)(D:ax h.K H d (AT.map kV)):(iL (eK h.prog h.w)).is t.heap AT d:=by let⟨G,M,⟨o,N,c,S,T⟩,_⟩:=z.tuple D;exact⟨o,G.toArray,S,N,c,T,by simpa using wi M⟩
def jI(G:Inv h pr s3 H t)(M:H d=Y (dX h.prog h.w d pp))(N:b9 h.K H pp):pp.length<=aU/\(d==er)=ao/\∃z,e3 pp z/\t.heap.DictOfH (iL (eK h.prog h.w)) d z:=by
 let⟨S,T,U,z,D,o,c,X,e,f,g,a⟩:=sH (G.bf d _ M);exists S,T,z,D,o,c,X,e,f,g,a,λi j=>?_,D.keys▸U;let⟨l,m,n,p⟩:=D.mem i j;have:=lz G (N l m)
 rw [n,p]at this;exact this
variable{IO:J->ak->Prop}{v:V}
def La(N:sc.units+1<cK)(D:Inv h pr s3 H t)(S:H d=Y (dX h.prog h.w d pp))(T:b9 h.K H pp)(U:ax h.K H q (AT.map kV))(c:cm pp AT=Y v)(X:∀z M,Inv h pr s3 H M->RelV v z->s5 z M):aI (aM h.prog h.w) sc (nG (.ref d) (.ref q)) s5 IO t:=by let⟨l,m,e,f,g⟩:=jI D S T;let⟨z,hw,k⟩:=fv.some_of (v:=v) (o:=(fN e AT).map (·.2)) (c▸f.val AT);let⟨n,i,j⟩:=cv.mp hw;refine GI (nL N) (lz D U) g i ?_;rw [j];exact X z _ (D.tok _) k
def Bj(N:sc.units+1<cK)(z:Inv h pr s3 H t)(S:H d=Y (dX h.prog h.w d pp))(T:b9 h.K H pp)(U:ax h.K H q (AT.map kV))(c:∀G,Inv h pr s3 H G->s5 (.bool (cm pp AT).isSome) G):aI (aM h.prog h.w) sc (fD .In (.ref q) (.ref d)) s5 IO t:=by
 let⟨g,X,a,e,f⟩:=jI z S T;refine wpAny_in_heap (nL N) (lz z U) X f ?_;have M:=(e.val AT).mw
 rw [kU]at M;rw [<-M];exact c _ (z.tok _)
def sI{t':Nat}{sJ:bW}(S:Inv h pr s3 H t)(T:H d=Y (dX h.prog h.w d pp))(U:sJ.length<=aU)(c:(d==er)=ao)(G:e3 sJ v0)(X:P.DictOfH (iL (eK h.prog h.w)) d v0) (e:ib d t.heap P):Inv h pr s3 (upd H d (dX h.prog h.w d sJ)) {t with heap:=P,toks:=t'}:=by let⟨M,f,g,N,a,i,j,_,l⟩:=X;refine wj S (T▸j2) e ⟨M,N⟩ (sG ⟨U,c,G.keys▸l,v0,G,M,f,g,N,a,i,j⟩)
variable{KE:Unit->ak->Prop}
def Lb(S:sc.units+1<cK)(z:Inv h pr s3 H t)(G:H q=Y (dX h.prog h.w q pp))(T:b9 h.K H pp)(U:ax h.K H d (AT.map kV))(n:pp.length<aU)(c:RelV v wl)(X:∀M,Inv h pr s3 (upd H q (dX h.prog h.w q (cy pp AT d v))) M->KE () M):aI (aM h.prog h.w) sc (setItem (.ref q) (.ref d) wl) KE s5 t:=by
 let⟨e,f,g,N,b⟩:=jI z G T;have i:g.length<=aU:=bO N▸e
 have j:(cy pp AT d v).length<=aU:=by have:=wy pp AT d v;lia
 exact Sj (hsz:=i) (nL S) (lz z U) b λo l m=>X _ (sI z G j f (N.put AT d c) l m)
def wz(M:Inv h pr s3 H t)(N:H d=Y (dX h.prog h.w d pp)):t.TypeIs (.ref d) "dict"/\(∀q,cp d=.ref q->∃z,t.heap.get? q=Y z/\z.dict=O)/\(d==er)=ao:=by let⟨U,S,c,a,e,o,f,g,D,G,b,i⟩:=sH (M.bf d _ N);exists ⟨o,D,G.1⟩,λq T=>by cases T;exact⟨o,D,G.2.1⟩,S
inductive Bk (z:aw) (w:au) (K:af) (H:U) (a:Z) (y:V) (o:Option V):Prop
 |mk(c k b:_)(_:H a=Y (dX z w a c))(_:b9 K H c)(_:y=.ref b)(_:ax K H b (k.map kV))(_:o=cm c k)
inductive Lc (A:aw) (w:au) (K:af) (D:VK) (x:V) (y:V) (z:U):Prop
 |mk(a v:_)(_:x=.ref a)(_:Bk A w K z a y (Y v))(_:D v z)
def Bl(A:aw)(D:au)(K:af)(G M:TE):TE:=λz H N=>G z H λS T=>M z T λy U=>Lc A D K N S y U
inductive Ld (A:aw) (w:au) (K:af) (D:VK) (y:V) (x:V) (z:U):Prop
 |mk(a o:_)(_:x=.ref a)(_:Bk A w K z a y o)(_:D (.bl o.isSome) z)
def Bm(A:aw)(D:au)(K:af)(G M:TE):TE:=λz H N=>G z H λy S=>M z S λT U=>Ld A D K N y T U
inductive Le (A:aw) (w:au) (K:af) (D:Ends) (G:L2.St) (v:V) (x:V) (y:V) (z:U):Prop
 |mk(a c k b:_)(_:x=.ref a)(_:z a=Y (dX A w a c))(_:b9 K z c)(_:y=.ref b)(_:ax K z b (k.map kV))(_:c.length<aU)(_:D.nx G (upd z a (dX A w a (cy c k b v))))
def Lf(A:aw)(D:au)(K:af)(G M N:TE):TS:=λS z H=>N z H λv T=>G z T λU a=>M z a λy b=>Le A D K S z v U y b
def Lg(A:aw)(D:au)(K:af):TE:=λ_ H G=>∀z,H z=O->G (.ref z) (upd H z (dX A D z []))
variable{ss xL:TE}{o i:a8}
def ff(M:h.A.units+1<cK)(N:PE h o ss)(T:PE h i xL)(U:ox i):PE h (.Subscript o i pu) (Bl h.prog h.w h.K ss xL):=by intro z a A H C b c;refine sA zl.lookup U (aN (N z a A H _ b c) λu d ⟨E,e,f,g,X⟩=>aN (T z d A e _ f X) λj K ⟨y,k,D,l,m,v,n,⟨L,P,p,G,q,r,s,t⟩,w⟩=>?_);subst n r;obtain rfl:u=cp m:=g;cases (show j=cp p from l);exists (wz D G).1,La M D G q s t.symm λQ R x B=>⟨v,k,x,B,w⟩
def wA(D:h.A.units+1<cK)(G:PE h i xL)(M:PE h o ss):PC h .In i o (Bm h.prog h.w h.K xL ss):=by intro z N A H B T U;refine aN (G z N A H _ T U) λa b ⟨y,c,d,e,f⟩=>aN (M z b A c _ d f) λu C ⟨E,g,X,j,k,F,l,⟨m,n,p,q,r,s,t,v⟩,w⟩=>?_;subst l s v;obtain rfl:u=cp k:=j;cases (show a=cp p from e);exact Bj D X q r t λK x=>⟨.bl (cm m n).isSome,g,x,S,w⟩
variable{no:a8}{V8:TE}
def i4(D:h.A.units+1<cK)(G:PE h o ss)(M:PE h i xL)(N:PE h no V8)(T:lZ no (Y (.Subscript o i v6)) pu.line h.env=dA ao):PS h (.Assign [.Subscript o i v6] no pu) (Lf h.prog h.w h.K ss xL V8):=by intro A U z H L a b;refine Sk (aN (N A U z H _ a b) λP c ⟨v,d,e,f,g⟩=>aN (G A c z d _ e g) λu X ⟨Q,j,k,l,m⟩=>aN (M A X z j _ k m) λn R ⟨y,V,p,q,r,W,ab,s,t,w,x,B,C,E,F⟩=>?_) T;subst t B;obtain rfl:u=cp r:=l;cases (show n=cp s from q);exact Lb D p w x C E f λad K=>⟨z,_,K,F⟩
theorem ky:PE h (.Dict [] [] pu) (Lg h.prog h.w h.K):=λM z N H T A D=>
 Sl ⟨.ref z.heap.objs.size,_,A.laid (a:=z.heap.objs.size) (o:=dX h.prog h.w z.heap.objs.size []) (t':=z.toks) (λ_ _ G=>e8 _ G) (aR _) (sG ⟨cP _,iK.mpr (eP (fB A.big)),gc,[],.nil,_,#[],0,gB _ S,⟨S,S,S⟩,S,S⟩),S,D _ (A.bf.fresh (aR _))⟩
structure KD(K:af)(D:aw)(w:au)(a:Z)(G:List (Key×V)):Prop where
 at_:∀z:aD,K.In z->∃A,KV G A/\z.DictOf (eK D w) a A
 ns:(a==er)=ao
inductive KGet (z:aw) (w:au) (K:af) (a:Z) (y:V) (o:Option V):Prop
 |mk(b k:_)(_:KD K z w a b)(_:y=kV k)(_:o=cU b k)
inductive Lh (z:aw) (w:au) (K:af) (A:VK) (x:V) (y:V) (D:U):Prop
 |mk(a v:_)(_:x=.ref a)(_:KGet z w K a y (Y v))(_:A v D)
def Li(A:aw)(D:au)(K:af)(G M:TE):TE:=λz H N=>G z H λS T=>M z T λy U=>Lh A D K N S y U
inductive Lj (z:aw) (w:au) (K:af) (A:VK) (y:V) (x:V) (D:U):Prop
 |mk(a o:_)(_:x=.ref a)(_:KGet z w K a y o)(_:A (.bl o.isSome) D)
def Ll(A:aw)(D:au)(K:af)(G M:TE):TE:=λz H N=>G z H λy S=>M z S λT U=>Lj A D K N y T U
inductive Lm (z:aw) (w:au) (K:af) (A:VK) (y:V) (x:V) (D:U):Prop
 |mk(a o:_)(_:x=.ref a)(_:KGet z w K a y o)(_:A (.bl (!o.isSome)) D)
def Ln(A:aw)(D:au)(K:af)(G M:TE):TE:=λz H N=>G z H λy S=>M z S λT U=>Lm A D K N y T U
def wB(N:PE h o ss)(T:PE h i xL)(U:ox i):PE h (.Subscript o i pu) (Li h.prog h.w h.K ss xL):=by intro z a A H x b c;refine sA zl.lookup U (aN (N z a A H _ b c) λu d ⟨B,e,f,g,X⟩=>aN (T z d A e _ f X) λC E ⟨y,j,D,k,l,v,m,⟨K,G,n,p,q⟩,r⟩=>?_);subst m p;obtain rfl:u=cp l:=g;let⟨s,t,M⟩:=n.at_ _ D.fb;let⟨L,hw,w⟩:=fv.some_of (v:=v) (o:=nK s G) (q▸t.val G);exists M.typeIs,Sh (jF k) M.mapOf hw ⟨v,j,D.tok _,w,r⟩
def wC(N:PE h i xL)(T:PE h o ss):PC h .In i o (Ll h.prog h.w h.K xL ss):=by intro z U A H t a b;refine aN (N z U A H _ a b) λv c ⟨y,d,e,f,g⟩=>aN (T z c A d _ e g) λu w ⟨x,X,D,j,k,B,l,⟨m,G,M,n,p⟩,q⟩=>?_;subst l n p;obtain rfl:u=cp k:=j;let⟨C,r,s⟩:=M.at_ _ D.fb;refine wpAny_in_of (jF f) M.ns s.mapOf ?_;rw [<-(r.val G).mw];exists .bl (cU m G).isSome,X,D.tok _,S,q
def Bn(N:PE h i xL)(T:PE h o ss):PC h .NotIn i o (Ln h.prog h.w h.K xL ss):=by intro z U A H t a b;refine aN (N z U A H _ a b) λv c ⟨y,d,e,f,g⟩=>aN (T z c A d _ e g) λu w ⟨x,X,D,j,k,B,l,⟨m,G,M,n,p⟩,q⟩=>?_;subst l n p;obtain rfl:u=cp k:=j;let⟨C,r,s⟩:=M.at_ _ D.fb;refine Si (jF f) M.ns s.mapOf ?_;rw [<-(r.val G).mw];exists .bl (!(cU m G).isSome),X,D.tok _,S,q
section
variable (P:aw) (w:au) (K:af) (G:aa->Option J) (base:aD) (CX:gi) (k:Nat)
structure bz(x:aa)(ps:List aa)(sp:Sp):Prop where
 ex:∃z A,aV P w K G base CX k z A ps sp/\Binds K A ps []/\G x=Y (.ref z)/\kT K (.ref z)=I
structure cC(z:Z)(m:aa)(ps:List aa)(sp:Sp):Prop where
 ex:∃A D,aV P w K G base CX k A D ps sp/\Binds K D ps []/\Meth K z m A
 cl:fc K z
structure iu(x:aa)(z:Z)(ps:List aa)(sp:Sp):Prop where
 ex:∃A D,aV P w K G base CX k A D ps sp/\Binds K D ps []/\Mk K z A
 gl:G x=Y (.ref z)
end
variable{tz:List a8}{Fa:gi}{Ix:TA}
def gI(c:bz h.prog h.w h.K h.G h.base Fa B op s4 AC)(z:dj B h.A)(A:Passes Fa h Ch)(D:PA h (no::tz) Ix)(G:Gl h op:=by rfl)(M:(op==("__debug__":aa))=ao:=by decide)(N:cA (no::tz) h.env=(ao,iR no h.env)::cA tz h.env:=by rfl) (T:(fp pu (cA tz h.env)).any (·.1)=ao:=by rfl):PE h (.Call (.Name op v6) (no::tz) [] pu) (vP AC [] Ch Ix):=by let⟨f,g,U,a,b,d⟩:=c.ex;exact Jm U z G b d a .nil A D M N T
variable{UV:fC Bool}{E:XK}
def eL(G:PE h o ss)(c:cC h.prog h.w h.K h.G h.base Fa B d op s4 AC)(M:dj B h.A)(N:Passes Fa h E)(T:PA h (no::tz) Ix)(U:cA (no::tz) h.env=(ao,iR no h.env)::cA tz h.env:=by rfl) (a:(fp pu (cA tz h.env)).any (·.1)=ao:=by rfl)(b:iR (.Call (.Attribute o op v6) (no::tz) [] pu) h.env=(do
   let A<-iR o h.env
   pO v6.atName
   let(D,first)<-nD [A] (pS A op UV)
   ry pu D first (fp pu (cA (no::tz) h.env)) (l2 pu (l3 [] h.env))):=by rfl):PE h (.Call (.Attribute o op v6) (no::tz) [] pu) (sh d op AC [] E ss Ix):=by
 let⟨D,e,X,f,g⟩:=c.ex;exact Jn (pl:=UV) G c.cl g X M f .nil N T U a b
def dR(G:PE h o ss)(c:cC h.prog h.w h.K h.G h.base Fa B d op s4 AC)(M:dj B h.A)(N:Passes Fa h E)(T:iR (.Call (.Attribute o op v6) [] [] pu) h.env=(do
   let A<-iR o h.env
   pO v6.atName
   let(D,first)<-nD [A] (pS A op UV)
   ry pu D first (fp pu (cA [] h.env)) (l2 pu (l3 [] h.env))):=by rfl):PE h (.Call (.Attribute o op v6) [] [] pu) (sh d op AC [] E ss jA):=by
 let⟨D,X,U,a,b⟩:=c.ex;exact Jo (pl:=UV) G c.cl b U M a .nil N T
def iv(c:iu h.prog h.w h.K h.G h.base Fa B op d s4 AC)(z:dj (B+1) h.A)(A:Passes Fa h E)(D:PA h (no::tz) Ix)(G:Gl h op:=by rfl)(M:(op==("__debug__":aa))=ao:=by decide)(N:cA (no::tz) h.env=(ao,iR no h.env)::cA tz h.env:=by rfl) (T:(fp pu (cA tz h.env)).any (·.1)=ao:=by rfl):PE h (.Call (.Name op v6) (no::tz) [] pu) (si d AC [] E Ix):=by let⟨X,f,U,a,b⟩:=c.ex;exact Jp b U z G c.gl a .nil A D M N T
def Lo(c:iu h.prog h.w h.K h.G h.base Fa B op d s4 AC)(z:dj (B+1) h.A)(A:Passes Fa h E)(D:Gl h op:=by rfl)(G:(op==("__debug__":aa))=ao:=by decide):PE h (.Call (.Name op pu) [] [] v6) (si d AC [] E jA):=by let⟨U,a,M,N,T⟩:=c.ex;exact Jq T M z D c.gl N .nil A G
def Bo(X:Cx)(x:aa):Bool:=decide ((X.env.scope.names.lookup x=Y .local\/X.env.scope.names.lookup x=Y .cell)/\(X.fn x=I\/X.env.scope.names.lookup x=Y .local))
theorem bj(i:Nat)(G:h.N.Nodup)(M:PE h no ss)(N:h.N[i]?=Y op:=by rfl)(T:Bo h op=I:=by exact GW I)(U:lZ no (Y (.Name op v6)) pu.line h.env=dA ao:=by rfl):PS h (.Assign [.Name op v6] no pu) (vy ss (mr i)):=let D:=d6 T;Iv G N D.1 M U D.2
theorem bX(i:Nat)(A:h.N.Nodup)(D:h.N[i]?=Y op:=by rfl)(G:Bo h op=I:=by exact GW I):PG h (.Name op pu) (mr i):=let z:=d6 G;Iq A D z.1 z.2
theorem aJ(i:Nat)(z:PE h (.Name op pu) (jy i):=by exact L2.T _)(D:cA [.Name op pu] h.env=[(ao,iR (.Name op pu) h.env)]:=by rfl):PA h [.Name op pu] (jB (jy i) jA):=A z aC D
theorem aF(i:Nat)(z:PE h (.Name op pu) (jy i):=by exact L2.T _)(A:j3 (.Name op pu) GE h.env (iR (.Name op pu) h.env)=iR (.Name op pu) h.env:=by rfl):PE h (.Attribute (.Name op pu) GE v6) (vM h.K (jy i) GE):=fP z A
theorem bI(c:bz h.prog h.w h.K h.G h.base aE B op s4 AC)(T:dj B h.A)(U:PA h (no::tz) Ix)(a:Gl h op:=by rfl)(b:(op==("__debug__":aa))=ao:=by decide)(d:cA (no::tz) h.env=(ao,iR no h.env)::cA tz h.env:=by rfl) (e:(fp pu (cA tz h.env)).any (·.1)=ao:=by rfl):PE h (.Call (.Name op v6) (no::tz) [] pu) (vP AC [] E0 Ix):=gI c T cx U a b d e
variable{wp:Int}
theorem b7{a}(A:h.G op=Y (.int wp a))(D:Gl h op:=by rfl)(G:(op==("__debug__":aa))=ao:=by decide):PE h (.Name op pu) (tC (.int wp)):=ek D A ⟨_,S⟩ G
theorem hl{a}(A:h.G op=Y (.str GE a))(D:Gl h op:=by rfl)(G:(op==("__debug__":aa))=ao:=by decide):PE h (.Name op pu) (tC (.str GE)):=ek D A ⟨_,S⟩ G
theorem _root_.Lake.L2.dj.mo(G:dj B sc)(D:Nat)(M:D<=B:=by decide):dj D sc:=G.mono M
def gV(A D:List (List Key×Z×J)):List (List Key×Z×J):=D.foldl (λG z=>hQ G z.1 z.2.1 z.2.2) A
def hX(A D:bW):bW:=D.foldl (λG z=>cy G z.1 z.2.1 z.2.2) A
def Lp(D A:List (List Key×Z×J))(i:Nat)(z:List Key×Z×J)(G:A[i]?=Y z):gV D (A.take (i+1))=hQ (gV D (A.take i)) z.1 z.2.1 z.2.2:=by simp [gV,dq,G,List.foldl_append]
def Lq(A:List (List Key×Z×J))(D:List Key)(G:Z)(v:J):(hQ A D G v).length<=A.length+1:=by
 unfold hQ;split
 .rw [z];lia
 .rw [br];exact aR _
theorem Bp:∀(A z:List (List Key×Z×J)),(gV z A).length<=z.length+A.length
 |[],z=>aR _
 |x::a,z=>by
  have D:=Bp a (hQ z x.1 x.2.1 x.2.2);have G:=Lq z x.1 x.2.1 x.2.2
  show(gV (hQ z x.1 x.2.1 x.2.2) a).length<=_;rw [dn]
  lia
def Lr(D:AT∉v0.map (·.1)):fN v0 AT=O:=by
 unfold fN;rw [nN.mpr λG M=>by intro N;exact D (bH.mpr ⟨G,M,d6 N⟩)]
 rfl
theorem wD:∀(A z:List (List Key×Z×J)),((z++A).map (·.1)).Nodup->gV z A=z++A
 |[],z,_=>by simp [gV]
 |x::b,z,a=>by
  have D:x.1∉z.map (·.1):=by rw [aT,aZ,gC]at a;exactλG=>a.2.2 _ G _ bE S
  show gV (hQ z x.1 x.2.1 x.2.2) b=_;rw [uO (Lr D),wD b (z++[(x.1,x.2.1,x.2.2)]) (by simpa using a)];simp
def e3.merge(M:e3 pp v0):∀{A:bW} {z:List (List Key×Z×J)},e3 A z->e3 (hX A pp) (gV z v0):=by
 induction M with
 |nil=>exact id
 | @cons p a _ _ b d c=>
  intro A z N;show e3 (hX (cy A p.1 p.2.1 p.2.2) _) (gV (hQ z a.1 a.2.1 a.2.2) _)
  have S:hQ z a.1 a.2.1 a.2.2=hQ z p.1 p.2.1 a.2.2:=by rw [b.1,b.2.1]
  rw [S];exact c (N.put p.1 p.2.1 b.2.2)
theorem Bq:∀(A z:bW),(hX z A).length<=z.length+A.length
 |[],z=>aR _
 |x::a,z=>by
  have D:=Bq a (cy z x.1 x.2.1 x.2.2);have G:=wy z x.1 x.2.1 x.2.2
  show(hX (cy z x.1 x.2.1 x.2.2) a).length<=_;rw [dn]
  lia
theorem qI{K:af}{H:U}:∀{more z:bW},b9 K H z->b9 K H more->b9 K H (hX z more)
 |[],z,a,_=>a
 |x::c,z,a,b=>qI (more:=c) (ly a x.2.2 (b x bE)) λA D=>b A (bC _ D)
section
variable {prog:aw} {w:au} {knd:HeapKind prog w (List Key)} {A:bZ} {E:J->ak->Prop} {s:ak}
def Ls{T f:Z}{g:List (List Key×Z×J)}{N:List Key}{v:J}{j:Unit->ak->Prop}(p:knd.room A)(k:knd.is s.heap N f)(q:s.heap.DictOfH knd T g)(l:∀h,h.DictOfH knd T (hQ g N f v)->ib T s.heap h->j () {s with heap:=h}) (hsz:g.length<=aU):aI (aM prog w) A (G0 T (.ref f) (knd.hash N) v) j E s:=by
 let⟨u,m,n,G,o,z,U,i,M⟩:=q;unfold G0
 try with_reducible refine nM ?_
 refine aH (SJ p k G z U i M (λa=>?_) λx B b=>?_)
 .have r:=SK a;have sz:m.size<=aU:=by have D:=l9 U;lia
  refine aH (uP (SM (hz:=sz) G z (l _ ⟨_,_,n+1,uN _ G (zA (rI z _)),o.mapDictKeys _,rI z _,?_,?_,?_⟩ (iQ ..))))
  .rw [uO (zB a)];simp [U,jX]
  .rw [uO (zB a)];intro c d;rcases bR.mp d with D|D
   .exact knd.keeps (i c D) G z (iQ ..)
   .rw [bb.mp D];exact knd.keeps k G z (iQ ..)
  .rw [uO (zB a),aT,gC];exists M,by simp,λc d y e=>?_;rw [aZ,hP,bb]at e;rw [e];exactλD=>r (by rwa [show N=c from D.symm])
 .refine aH (uP (aH (wpAny_updateDict G z (wpAny_point (l _ ⟨_,_,n,uN _ G (zA (SN z _)),o.mapDict _,SN z _,?_,?_,?_⟩ (iQ ..))))))
  .rw [G1 (zC M b)];have D:=modify_map_putAt (jX knd) (λt:g6=>{t with val:=v}) N v (λ_ _=>S) M b
   rw [<-U]at D;let⟨C⟩:=m;simpa using D
  .rw [G1 (zC M b)];intro c d;let⟨y,e,rfl⟩:=bH.mp d;unfold putAt;split<;>exact knd.keeps (i y e) G z (iQ ..)
  .rwa [G1 (zC M b),keys_map_putAt]
end
abbrev tk(prog:aw)(w:au):HeapKind prog w (List Key):=iL (eK prog w)
def qJ(prog:aw)(w:au)(z:List (List Key×Z×J)):Prop:=(z.map λD=>(tk prog w).hash D.1).Nodup
set_option tactic.hygienic true
theorem Br:∀{G:List g6},(G.map (·.hash)).Nodup->∀z,(G.filter λD=>D.hash==z).length<=1
 |[],_,_=>by simp
 |a::c,b,z=>by
  rw [aZ,ej]at b;have N:=Br b.2 z
  rw [ig];split
  .rename_i D;have:(c.filter λD=>D.hash==z)=[]:=SO.mpr λM S T=>by
    have U:a.hash=z:=by simpa using D
    have d:M.hash=z:=by simpa using T
    exact b.1 (bH.mpr ⟨M,S,d.trans U.symm⟩)
   rw [this];exact aR _
  .exact N
set_option tactic.hygienic false
variable{sB:Type}
theorem Bs(z:sB->PUnit->fC (ForInStep PUnit)){T:PUnit->ak->Prop}:∀(U:List sB),(∀D∈U,aI Ps sc (z D nO) (λG b=>G=.yield nO/\b=t) s5 t)->T nO t->aI Ps sc (uG U nO z) T s5 t
 |[],_,a=>by rw [uH];exact bu a
 |D::G,c,a=>by rw [GC];refine aH (g4 (c D bE) (λy b M=>?_) λ_ _ M=>M);let⟨d,e⟩:=M;rw [d,e];exact Bs z G (λy f=>c y (bC _ f)) a
theorem Lu:Gx (.type "tuple") "__eq__"=dA (Y (.builtin "tuple.__eq__")):=PySem.F.slot_tuple_eq.lookup
variable{GM:Array g6}
def Lv{o:aL}{c:Nat}{T:Array g6->ak->Prop}(w:t.heap.get? d=Y o)(e:o.data=.dict GM c)(U:GM.toList=v0.map (jX (tk m p))) (f:∀z∈v0,(tk m p).is t.heap z.1 z.2.1) (k:qJ m p v0) (g:T GM t):aI (aM m p) sc (SQ FB d) T s5 t:=by
 unfold SQ;refine aH (j6 w e ?_);refine aH ?_;rw [<-Array.forIn_toList];refine Bs _ _ (λl a=>?_) (bu g);rw [U]at a;let⟨z,h,rfl⟩:=bH.mp a;have i:(GM.toList.map (·.hash)).Nodup:=by rwa [U,d7]
 have j:¬(GM.filter λy=>y.hash==(jX (tk m p) z).hash).size>1:=by
  have D:=Br i (jX (tk m p) z).hash;have:(GM.filter λy=>y.hash==(jX (tk m p) z).hash).size=(GM.toList.filter λy=>y.hash==(jX (tk m p) z).hash).length:=by rw [<-Array.toList_filter,rv]
  lia
 refine aH ?_;unfold Vf;refine aH (uK (T:="tuple") (Vg (knd:=eK m p) (f z h)) Lu (bu ?_));rw [ai (by decide),N j];exact bu ⟨S,S⟩
variable{Uf:List (List Key×Z×J)}
def wF{o:Z}(T:P.DictOfH (tk m p) d Uf)(U:P.DictOfH (tk m p) o v0)(a:d≠o)(N:ib d P KM):KM.DictOfH (tk m p) o v0:=by let⟨D,q,r,b,_,c,_⟩:=T;let⟨w,e,f,g,h,i,j,k,l⟩:=U;exists w,e,f,(N.2 o (eP a)).trans g,h,i,j,λz n=>(tk m p).keeps (k z n) b c N,l
set_option tactic.hygienic true
def Bt{o:Z}(R:sc.units<cK)(e:d≠o)(V:(o==er)=ao)(h:t.heap.DictOfH (tk m p) d Uf) (j:t.heap.DictOfH (tk m p) o v0) (W:Uf=[]->qJ m p v0) (hsz:Uf.length+v0.length<=aU)(G:∀z,z.DictOfH (tk m p) d (gV Uf v0)->z.DictOfH (tk m p) o v0->ib d t.heap z->KE () {t with heap:=z}):aI (aM m p) sc (G2 FB d o) KE s5 t:=by
 let⟨bl,bm,X,k,ab,f,ad,bn,bs⟩:=id h;let⟨bt,b,bv,l,ca,g,q,r,F⟩:=id j;have H:=l9 q
 unfold G2;rw [N (show¬(d==o)=I by simpa using e)];unfold GO;rw [N (show¬(o==er)=I by rw [V];exact d5)];refine aH (bu (aH (j6 l g ?_)));have walk:∀{M:Unit->ak->Prop},(∀z,z.DictOfH (tk m p) d (gV Uf v0)->ib d t.heap z->M () {t with heap:=z})->aI (aM m p) sc (do
   let al<-dictEpoch o;let am<-dictEntries o
   uG [:am.size] nO λi (_:PUnit)=>(do
     let an<-dictEntries o
     match an[i]? with
      |some w=>do
       nD [w.key,w.val] (G0 d w.key w.hash w.val)
       let ap<-dictEpoch o
       if(ap !=al)=I then do
         (unsupported (toString FB++toString ":source-changed-during-callback"):fC PUnit)
         dA (p1 nO)
        else dA (p1 nO)
      |_=>do
       (unsupported "internal:dict-merge":fC PUnit)
       dA (p1 nO):fC (ForInStep PUnit))
   dA ()) M s5 t:=by
  intro M as;refine aH (uM l g (aH (j6 l g (aH ?_))));rw [Vh];simp only [Vi,SR,SS,Nat.div_one];refine wpAny_forIn_list _ (λleft _ u=>∃z i,u={t with heap:=z}/\left=cj i (b.size-i)/\i<=b.size/\z.DictOfH (tk m p) d (gV Uf (v0.take i))/\ib d t.heap z) _ ?_ ?_ _ _
   ⟨t.heap,0,S,by simp,cP _,h,SU _ _⟩
  .rintro U left a0 u ⟨z,i,rfl,a,K,c,T⟩;have a1:=p6 λn=>by
    rw [Nat.sub_eq_zero_of_le n]at a;cases a
   have D:b.size-i=(b.size-(i+1))+1:=by cutsat
   rw [D,nP]at a;let⟨rfl,a⟩:=p5 a;have L:=(T.2 o (eP e)).trans l
   refine aH (j6 L g ?_);obtain⟨y,v⟩:∃y,v0[U]?=Y y:=⟨v0[U]'(by cutsat),gd _⟩
   have a2:b[U]?=Y (jX (tk m p) y):=by rw [zD q,v];rfl
   rw [a2];have sz:(gV Uf (v0.take U)).length<=aU:=by
    have cd:=Bp (v0.take U) Uf;have ce:(v0.take U).length<=v0.length:=by rw [dU];cutsat
    cutsat
   refine aH (nM (Ls (knd:=tk m p) R ((tk m p).keeps (r y (cG v)) k f T) c (λa3 a4 P=>?_) sz));refine aH (uM ((P.2 o (eP e)).trans L) g ?_);rw [N (by simp)];exact bu ⟨a3,U+1,S,a,a1,Lp Uf v0 U y v▸a4,T.trans P⟩
  .rintro a0 u ⟨z,i,rfl,a,K,c,T⟩;have D:=Nat.le_antisymm K (GV λn=>by
    have D:b.size-i=(b.size-(i+1))+1:=by cutsat
    rw [D,nP]at a;cases a)
   refine bu (as z ?_ T);rw [D,H,dB]at c;exact c
 dsimp only;split
 .refine aH (j6 k f ?_);split
  .rename_i a5;have x:Uf=[]:=by
    have bd:=SV.mp a5;have n:=l9 ad
    rw [bd]at n;exact kX.mp n.symm
   refine aH (Lv l g q r (W x) ?_);have Q:gV Uf v0=v0:=by rw [x,wD v0 [] (by simpa using F)];rfl
   split
   .have sz:b.size<=aU+1:=by cutsat
    refine aH (wpAny_updateDictKeysTo k f (bu (G _ ?_ (wF h j e (iQ ..)) (iQ ..))) sz);rw [Q];exists _,_,X+1,uN _ k (zA (rI f _)),ab.mapDictKeys _,rI f _,q,λU be=>(tk m p).keeps (r U be) k f (iQ ..),F
   .rename_i bi;have D:=SV.mp (by simpa using bi)
    have bk:=kX.mp (by rw [<-H,D];rfl);refine bu (G _ ?_ j (SU _ _));rwa [Q,bk,<-x]
  .exact walk λz c T=>G z c (wF h j e T) T
 .exact walk λz c T=>G z c (wF h j e T) T
set_option tactic.hygienic false
theorem Lw(D:aw)(G:au)(z o:Z)(f:(o==er)=ao):G3 D G (Builtin.«dict.update» ⟨[.ref z,.ref o],[]⟩) (λd b A=>d.in1.units<cK/\∃M T,A.heap.DictOfH (tk D G) z M/\A.heap.DictOfH (tk D G) o T/\M.length+T.length<=aU/\(M=[]->qJ D G T)/\ ((z=o/\b (.ok (.ret .none)) A)\/(z≠o/\∀U,U.DictOfH (tk D G) z (gV M T)->ib z A.heap U->b (.ok (.ret .none)) {A with heap:=U}))):=
 .of_wp λd b A ⟨g,M,T,e,a,hsz,h,i⟩=>by
  unfold Builtin.«dict.update»;refine aH ?_;unfold SW;refine aH (zo e.typeIs ?_);refine bu ?_;show aI _ _ (zE "dict.update" z (.ref o) [] .none) _ _ A
  unfold zE;refine aH (SX a.typeIs ?_);rw [N (by decide)];refine aH ?_;unfold SY;refine aH ?_;unfold S1;refine aH (GQ a.typeIs S2 ?_);simp only [S3,nJ,ie];refine aH (uK a.typeIs zm.lookup (bu ?_));simp only [G4,eQ];refine aH (bu ?_);rcases i with⟨j,c⟩|⟨ne,c⟩
  .subst j;unfold G2;rw [ai (by simp)];refine aH (uP (bu ?_));exact aH (bu (bu ⟨.none,S,c⟩))
  .refine Bt g ne f e a h hsz λU k m l=>?_;exact aH (bu (bu ⟨.none,S,c U k l⟩))
def jJ(z:aw)(A:au)(D:bW):Prop:=(D.map λG=>(tk z A).hash G.1).Nodup
def Bu(T:e3 pp v0)(N:jJ m p pp):qJ m p v0:=by
 unfold jJ at N;unfold qJ;have U:(pp.map λM=>(tk m p).hash M.1)=v0.map λM=>(tk m p).hash M.1:=by
  clear N;induction T with
  |nil=>rfl
  |cons a _ b=>rw [aZ,aZ,b,a.1]
 rwa [<-U]
def x_update{more:bW}(X:sc.units+1<cK)(D:Inv h pr s3 H t)(T:H d=Y (dX h.prog h.w d pp))(e:b9 h.K H pp)(f:H q=Y (dX h.prog h.w q more))(g:b9 h.K H more)(hsz:pp.length+more.length<=aU) (a:pp=[]->jJ h.prog h.w more)(U:(d=q->∀z,Inv h pr s3 H z->s5 .none z)/\(d≠q->∀z,Inv h pr s3 (upd H d (dX h.prog h.w d (hX pp more))) z->s5 .none z)):aI (aM h.prog h.w) sc (gO (.builtin "dict.update") [.ref d,.ref q]) s5 IO t:=by
 let⟨b,i,j,N,c⟩:=jI D T e;let⟨r,k,l,S,m⟩:=jI D f g;refine uL S4 c.typeIs PySem.F.entry_dict_update (PySem.F.args_dict_update_2 _ _) (Lw h.prog h.w d q k) ⟨X,j,l,c,m,by rwa [<-bO N,<-bO S],λn=>Bu S (a ?_),?_⟩
 .have:=bO N;rw [n]at this;exact kX.mp this
 .by_cases G:d=q
  .exact .inl ⟨G,U.1 G t D⟩
  .refine .inr ⟨G,λs o p=>U.2 G _ ?_⟩;exact sI (t':=t.toks) D T (cu (Bq more pp) hsz) i (e3.merge S N) o p
def Lx(G:aw)(M:au)(K:af)(b c:TE):TE:=λT H U=>b T H λd a=>∃z,d=.ref z/\(∃A,a z=Y (dX G M z A))/\c T a λy D=>∃A N S,y=.ref N/\D z=Y (dX G M z A)/\b9 K D A/\
 D N=Y (dX G M N S)/\b9 K D S/\A.length+S.length<=aU/\(A=[]->jJ G M S)/\(z=N->U .bw D)/\(z≠N->U .bw (upd D z (dX G M z (hX A S))))
def sL{o:a8}(e:h.A.units+1<cK)(f:PE h o ss)(g:PE h no xL)(A:M1 h o "update" pu no v6):PE h (.Call (.Attribute o "update" pu) [no] [] v6) (Lx h.prog h.w h.K ss xL):=by intro b z c H ad i j;refine GK A.base A.bL A.line GL S4 PySem.F.type_dict_update (aN (f b z c H _ i j) λu k ⟨al,l,d,m,n,p,⟨am,q⟩,r⟩=>?_);subst p;obtain rfl:u=cp n:=m;let⟨s,t,_⟩:=wz d q;exists s,t,?_;rw [A.trees];refine pX S (uF (pV (aN (g b k c l _ d r) λv an ⟨y,w,x,B,ap,C,as,E,K,L,P,Q,R,V,W,X⟩=>uA ?_)));subst E;cases (show v=cp C from B);exact x_update e x K L P Q R V ⟨λG ab M=>⟨.bw,w,M,S,W G⟩,λG ab M=>⟨.bw,_,M,S,X G⟩⟩
def Ly(w:sc.units+2<cK)(G:Inv h pr s3 H t)(x:H d=Y (dX h.prog h.w d pp))(y:b9 h.K H pp)(B:jJ h.prog h.w pp)(C:∀M n,H M=O->Inv h pr s3 (upd H M (dX h.prog h.w M pp)) n->s5 (.ref M) n):aI (aM h.prog h.w) sc (gO (.type "dict") [.ref d]) s5 IO t:=by
 let⟨K,L,e,T,f⟩:=jI G x y;refine callType_codes (Q₁:=λp q=>p=.ref t.heap.objs.size/\q={t with heap:=t.heap.push {cls:=.type "dict",data:=.dict #[]}}) PySem.F.kt_called_dict (PySem.F.kt_typeCall_dict_1 _) PySem.F.entry_dict_init (kt_code_dict_new _ ⟨S,S⟩) ?_;rintro p q ⟨rfl,rfl⟩;have g:(t.heap.push {cls:=.type "dict",data:=.dict #[]}).DictOfH (tk h.prog h.w) t.heap.objs.size []:=Vj t.heap
 have U:(t.heap.push {cls:=.type "dict",data:=.dict #[]}).DictOfH (tk h.prog h.w) d e:=by let⟨X,s,i,z,j,k,l,r,D⟩:=f;exists X,s,i,e8 _ z,j,k,l,λP Q=>?_,D;let⟨R,V,W,ab,ad,al,am⟩:=r P Q;exists R,V,W,e8 _ ab,ad,al,am
 have an:t.heap.objs.size≠d:=λb=>by let⟨X,_,_,z,_⟩:=f;exact absurd (dN z) (b▸jY _)
 exists g.typeIs,PySem.F.args_dict_init_2 _ _,?_;unfold Builtin.«dict.__init__»;refine aH ?_;unfold SW;refine aH (zo g.typeIs ?_);refine bu ?_;show aI _ _ (zE "dict.__init__" t.heap.objs.size (.ref d) [] .none) _ _ _
 unfold zE;refine aH (SX U.typeIs ?_);rw [N (by decide)];refine aH ?_;unfold SY;refine aH ?_;unfold S1;refine aH (GQ U.typeIs S2 ?_);simp only [S3,nJ,ie];refine aH (uK U.typeIs zm.lookup (bu ?_));simp only [G4,eQ];refine aH (bu ?_);have ap:=let⟨_,_,_,_,_,_,_,_,D⟩:=f;D
 refine Bt (by exact w) an L g U (λ_=>Bu T B) (by rwa [iP,uQ,<-bO T]) λa0 u a1 as=>?_;rw [wD e [] (by simpa using ap),dh]at u;refine aH (bu (bu ⟨S,C _ _ (G.bf.fresh (aR t.heap.objs.size)) ?_⟩));let⟨X,s,i,z,j,k,l,r,D⟩:=u;refine G.laid (a:=t.heap.objs.size) (o:=dX h.prog h.w t.heap.objs.size pp) (t':=t.toks) (λc b v=>?_) (aR _) (sG ⟨K,iK.mpr (eP (fB G.big)),T.keys▸D,e,T,X,s,i,z,j,k,l⟩);exact(as.2 c (fB (dN v))).trans (e8 _ v)
def Bv(T:h.A.units+2<cK):hA h (.type "dict") (λM H N=>∃G D,M=[.ref G]/\H G=Y (dX h.prog h.w G D)/\b9 h.K H D/\jJ h.prog h.w D/\∀A,H A=O->N (.ref A) (upd H A (dX h.prog h.w A D))):=by intro j k l H M m N U a b;let⟨G,D,rfl,c,d,e,f⟩:=b;let⟨u,rfl,g⟩:=vals1 a;cases g;exact Ly T U c d e λA n z i=>⟨.ref A,_,i,S,f A z⟩
theorem Lz(G:aw)(M:au)(A:Z)(S:(A==er)=ao):G3 G M (Builtin.«dict.__len__» ⟨[.ref A],[]⟩) (λ_ N z=>∃D,z.heap.DictOfH (tk G M) A D/\N (.ok (.ret (.int D.length z.toks))) {z with toks:=z.toks+1}):=
 .of_wp λc N z ⟨D,T,d⟩=>by
  let⟨e,f,g,U,h,a,b,i,j⟩:=T;show aI _ _ (dictSize A>>=_) _ _ z
  unfold dictSize;refine aH (aH (j6 U a (bu ?_)));refine aH (wpAny_pendingCount_other S (wpAny_ret_mkInt ?_));rwa [j9,l9 b]
def LA{G:aw}(c:(d==er)=ao)(T:t.heap.DictOfH (tk G p) d v0)(z:v0.length<=aU)(e:s5 (.int v0.length (t.toks+1)) {t with toks:=t.toks+1+1}):aI (aM G p) sc (gO (.builtin "len") [.ref d]) s5 IO t:=by
 have f:(v0.length:Int)<2^63:=by rw [y7]at z;lia
 refine Calls.call_function_entry kind_len plain_len entry_len (args_len1 _) ?_;unfold Vk;refine aH (m:=oneArg "len" _) (bu ?_);refine aH (m:=callSpecial? (.ref d) (dO "__len__")) (GP (name:=dO "__len__") T.typeIs S5 (uL S5 T.typeIs PySem.F.entry_dict_len (PySem.F.args_dict_len_1 _) (Lz G p d c) ⟨v0,T,?_⟩));refine aH (nM (bu (aH (wpAny_letGo ?_))));rw [N (by lia)];rw [N (by lia)];exact aH (wpAny_mkInt (bu ⟨_,S,e⟩))
def oB:hA h (.builtin "len") (λG H M=>∃D z,G=[.ref D]/\H D=Y (dX h.prog h.w D z)/\b9 h.K H z/\M (.int z.length) H):=by intro j U k H G l M N a b;let⟨D,z,rfl,c,d,e⟩:=b;let⟨u,rfl,f⟩:=vals1 a;cases f;let⟨g,A,m,T,i⟩:=jI N c d;refine LA A i (bO T▸g) ?_;exists .int z.length,H,N.tok _,⟨U.toks+1,by rw [bO T]⟩,e
variable{s:ak}
def LB{v:J}(g:sc.units<cK)(c:(tk m p).is s.heap AT q)(z:s.heap.DictOfH (tk m p) d v0)(hsz:v0.length<=aU)(n:∀T,fN v0 AT=Y T->s5 T.2 {s with toks:=s.toks+(tk m p).draws AT})(o:fN v0 AT=O->∀w,w.DictOfH (tk m p) d (v0++[(AT,q,v)])->ib d s.heap w->s5 v {s with heap:=w,toks:=s.toks+(tk m p).draws AT}):aI (aM m p) sc (G5 d (.ref q) v) s5 IO s:=by
 let⟨x,N,S,G,r,D,U,h,e⟩:=z;unfold G5
 try with_reducible refine nM ?_
 refine aH ((tk m p).pyHash g c (aH (SJ (s:={s with toks:=s.toks+(tk m p).draws AT}) g c G D U h e (λi=>?_) λt T j=>?_)))
 .have u:=SK i;have sz:N.size<=aU:=by have M:=l9 U;cutsat
  refine aH (uP (aH (SM (hz:=sz) (s:={s with toks:=s.toks+(tk m p).draws AT}) G D (bu (o (zB i) _ ⟨_,_,S+1,uN _ G (zA (rI D _)),r.mapDictKeys _,rI D _,?_,?_,?_⟩ (iQ ..))))))
  .simp [U,jX]
  .intro f k;rcases bR.mp k with M|M
   .exact(tk m p).keeps (h f M) G D (iQ ..)
   .rw [bb.mp M];exact(tk m p).keeps c G D (iQ ..)
  .rw [aT,gC];exists e,by simp,λf k y l=>?_;rw [aZ,hP,bb]at l;rw [l];exactλM=>u (by rwa [show AT=f from M.symm])
 .refine aH (j6 (s:={s with toks:=s.toks+(tk m p).draws AT}) G D ?_);rw [zD U t,j];exact aH (uP (bu (n T (zC e j))))
theorem LC(prog:aw)(w:au)(z T:Z)(v:J)(d:(z==er)=ao):G3 prog w (Builtin.«dict.setdefault» ⟨[.ref z,.ref T,v],[]⟩) (λsc a t=>sc.in1.units<cK/\∃D G,(tk prog w).is t.heap D T/\t.heap.DictOfH (tk prog w) z G/\G.length<=aU/\ (∀U,fN G D=Y U->a (.ok (.ret U.2)) {t with toks:=t.toks+(tk prog w).draws D})/\(fN G D=O->∀M,M.DictOfH (tk prog w) z (G++[(D,T,v)])->ib z t.heap M->a (.ok (.ret v)) {t with heap:=M,toks:=t.toks+(tk prog w).draws D})):=
 .of_wp λsc a t ⟨e,D,G,f,c,hsz,g,h⟩=>by
  unfold Builtin.«dict.setdefault»;refine aH ?_;unfold Vl;refine aH (zo c.typeIs ?_);refine bu ?_;show aI _ _ (if(z==er)=I then _ else(G5 z (.ref T) v>>=_)) _ _ t
  rw [N (d▸d5)];exact aH (LB e f c hsz (λU b=>bu ⟨_,S,g U b⟩) λb M i j=>bu ⟨_,S,h b M i j⟩)
def iw{k:List Key}(A:Z)(v:V)(D:cm pp k=O):cy pp k A v=pp++[(k,A,v)]:=by unfold cy;rw [D];rfl
def LD(k:sc.units+1<cK)(M:Inv h pr s3 H t)(T:H q=Y (dX h.prog h.w q pp))(i:b9 h.K H pp)(j:ax h.K H d (AT.map kV))(x:pp.length<aU)(l:RelV v wl)(m:∀D,cm pp AT=Y D->∀U G,Inv h pr s3 H G->RelV D U->s5 U G) (n:cm pp AT=O->∀G,Inv h pr s3 (upd H q (dX h.prog h.w q (cy pp AT d v))) G->s5 wl G):aI (aM h.prog h.w) sc (gO (.builtin "dict.setdefault") [.ref q,.ref d,wl]) s5 IO t:=by
 let⟨o,X,p,S,e⟩:=jI M T i;have z:=S.val AT
 refine uL S6 e.typeIs PySem.F.entry_dict_setdefault (PySem.F.args_dict_setdefault_3 _ _ _) (LC h.prog h.w q d wl X) ⟨k,AT,p,lz M j,e,bO S▸o,λy b=>?_,λf B a u=>?_⟩
 .rw [b]at z;cases c:cm pp AT with
  |none=>rw [c]at z;exact z.elim
  |some D=>
   rw [c]at z;exact m D c _ _ (M.tok _) z
 .rw [f]at z;cases c:cm pp AT with
  |some D=>rw [c]at z;exact z.elim
  |none=>
   have g:=S.put AT d l;rw [uO f]at g;have w:(cy pp AT d v).length<=aU:=by have:=wy pp AT d v;lia
   exact n c _ (sI M T w X g a u)
def LF(M:aw)(N:au)(K:af)(c d e:TE):TE:=λS H U=>c S H λf a=>∃A,f=.ref A/\(∃z,a A=Y (dX M N A z))/\d S a λy g=>e S g λv D=>∃z G T,y=.ref T/\D A=Y (dX M N A z)/\b9 K D z/\
 ax K D T (G.map kV)/\z.length<aU/\(∀b,cm z G=Y b->U b D)/\(cm z G=O->U v (upd D A (dX M N A (cy z G T v))))
variable{s0:a8}
def LG{o:a8}{c:TE}(i:h.A.units+1<cK)(j:PE h o ss)(k:PE h no xL)(l:PE h s0 c)(A:M2 h o "setdefault" pu no s0 v6):PE h (.Call (.Attribute o "setdefault" pu) [no,s0] [] v6) (LF h.prog h.w h.K ss xL c):=by intro M m N H a3 n p;refine GK A.base A.bL A.line GL S6 PySem.F.type_dict_setdefault (aN (j M m N H _ n p) λu q ⟨a4,r,f,s,t,w,⟨a5,x⟩,B⟩=>?_);subst w;obtain rfl:u=cp t:=s;let⟨C,E,_⟩:=wz f x;exists C,E,?_;rw [A.trees];refine pX S (uF (pV (aN (k M q N r _ f B) λK L ⟨y,P,Q,R,V⟩=>pV (aN (l M L N P _ Q V) λbd be ⟨v,W,X,g,bi,bk,ab,ad,al,am,an,ap,as,a0⟩=>uA ?_))));subst ad;cases (show K=cp ab from R);exact LD i X al am an ap g (λz T bl a1 U a2=>⟨z,W,U,a2,as z T⟩) λT a1 U=>⟨v,_,U,g,a0 T⟩
def Bw(z:Z)(o:aL)(A:aD):Prop:=A.get? z=Y o
theorem LH(r:sc.handled=O)(D G:Z)(s:G≠D){o:aL}(j:o.data=.dict GM B):Walks m p sc D [D,G] [D] GM.size (λi v=>∃A,GM[i]?=Y A/\A.key=v) (λi k=>k.IsKeyIter D G i GM.size B/\Bw G o k)where
 sub:=λa N=>by rw [bb.mp N];exact bE
 frame:=λ_ _ _ z l=>⟨z.1.at λb T=>l D bE b T,l G (bC _ bE) o z.2⟩
 item:=λi c M n t z U=>by
  obtain⟨A,g⟩:∃A,GM[i]?=Y A:=⟨GM[i],zr t⟩
  refine AY z.1 z.2 j S g λd u q=>?_;exact U A.key d c.toks ⟨A,g,S⟩ ⟨u,(q.2 G s).trans z.2⟩ λa b N T=>(q.2 a λe=>N (e▸bb.mpr S)).trans T
 done:=λc M n z U=>AZ r z.1 z.2 j S (aR _) λd x=>U d c.toks λa b N T=>x a b (λe=>N (e▸bb.mpr S)) T
 self:=λi c M n z U=>by have f:=z.1.typeIs;refine GN f zF (rG zF f S7 ?_ (S8 _));exact bu ⟨_,S,"dict_keyiterator",_,f,p3.lookup,U⟩
variable{prog:aw}{w:au}
theorem LI(U:(d==er)=ao){o:aL}(D:o.ExactDict)(N:o.data=.dict GM B):PySem.W.KdlSrc prog w "dict" d d GM.size (λi v=>∃T,GM[i]?=Y T/\T.key=v) (Bw d o)where
 type:=λ_ z=>⟨o,z,D.1⟩
 there:=λ_ z=>⟨dN z,dN z⟩
 keep:=λ_ _ z b=>b d (.inl S) o z
 notList:=by decide
 notTuple:=by decide
 hint:=λ_ _ _ _ z M=>PySem.W.kdl_hint_dict ⟨o,z,D.1⟩ M
 iter:=λ_ A c z=>⟨_,_,(λ_ _ M=>AX U z D N M),LH c _ d (fB (dN z)) N,⟨⟨_,gB _ S,S,S⟩,e8 _ z⟩⟩
def LJ(t:h.calm=I):hA h (.type "list") (λk H l=>∃b M,k=[.ref b]/\H b=Y (dX h.prog h.w b M)/\∀A,H A=O->l (.ref A) (upd H A (.lst (M.map λD=>V.ref D.2.1)))):=by
 intro bi m bk H k bl l d x B;let⟨b,M,rfl,C,E⟩:=B;let⟨u,rfl,F⟩:=vals1 x;cases F;let⟨K,L,bm,T,n,o,P,bn,Q,R,X,e⟩:=sH (d.bf b _ C);have ab:P.size=M.length:=by rw [l9 e,bO n]
 refine PySem.W.kdl_call (LI (prog:=h.prog) (w:=h.w) L R X) (d.ok.hd t) Q (ab▸K) λbs ad N c al U am=>?_;have an:Vals (M.map λD=>V.ref D.2.1) N.toList:=by
  let⟨p,ap⟩:=am;have as:∀(i:Nat) (G:List Key×Z×J),T[i]?=Y G->N.toList[i]?=Y (.ref G.2.1):=λi G f=>by
   have q:i<N.size:=by rw [p,l9 e];exact(cF.mp f).1
   let⟨bt,r,a0⟩:=ap i N[i] (zr q);rw [zD e i,f]at r;have a1:=(aS r).symm
   rw [R8,zr q,<-a0,a1];rfl
  have a2:N.toList.length=T.length:=by rw [rv,p,l9 e]
  have a3:∀(j:List (List Key×Z×V)) (g:List (List Key×Z×J)) (A:List J),e3 j g->A.length=g.length->(∀(i:Nat) (G:List Key×Z×J),g[i]?=Y G->A[i]?=Y (.ref G.2.1))->Vals (j.map λD=>V.ref D.2.1) A:=by
   intro j g A a4;induction a4 generalizing A with
   |nil=>
    intro U _;rw [kX.mp U];exact .nil
   | @cons D G ps bv f _ a5=>
    intro U s;cases A with
    |nil=>cases U
    |cons v A=>
     have bd:=aS (s 0 G S);refine .cons ?_ (a5 A (by simpa using U) λi y be=>s (i+1) y be);rw [bd,<-f.2.1];rfl
  exact a3 M T N.toList n a2 as
 exists .ref m.heap.objs.size,_,d.laid (a:=m.heap.objs.size) (o:=.lst (M.map λD=>V.ref D.2.1)) (t':=ad) al (aR _) ?_,S,E _ (d.bf.fresh (aR _));exact⟨by rwa [z],N.toList,c,an,by simpa using U⟩
def lA(D:aw)(G:au)(A:Z)(o:aL)(z:bW):It:=
 ⟨λi H=>H A=Y (.bP o (dX D G A z))/\i<z.length,λi H N S=>S=H/\∃M,z[i]?=Y M/\N=.ref M.2.1,λi H=>H A=Y (.bP o (dX D G A z))/\z.length<=i⟩
def wG{H:U}{o:aL}(j:Inv h pr s3 H t)(k:H d=Y (.bP o (dX h.prog h.w d pp))):(d==er)=ao/\t.heap.get? d=Y o/\o.ExactDict/\∃(A:Array g6) (M:Nat),o.data=.dict A M/\A.size=pp.length/\∀(i:Nat) (N:List Key×Z×V),pp[i]?=Y N->∃a:g6,A[i]?=Y a/\a.key=.ref N.2.1:=by
 let⟨b,l,_⟩:=j.bf d _ k;let⟨D,m,u,v,c,w,A,M,z,n,p,e⟩:=l;rw [b]at z;cases z;exists m,b,n,A,M,p,by rw [l9 e,bO c],λi N q=>?_;let⟨x,r,y,s,_⟩:=A0 c q;have f:=zD e i
 rw [r]at f;exists _,f,?_;rw [s];rfl
def LK{y:au}{K:af}{o:aL}(D:Z)(E:o.data=.dict GM B):Turn m y K no (lA m y d o pp) [D] D (λi T=>T.IsKeyIter D d i pp.length B)where
 mem:=by simp
 obj:=λi T z G M=>by
  have A:G=D:=by simpa using M
  subst A;let⟨e,A,c,g⟩:=z;exact⟨e,A,λv L=>by rw [g]at L;cases L⟩
 keep:=λi T h z am=>z.at λe A=>am D (by simp) e A
 item:=by
  intro an j hw k P i ap U as H Q N f z l;subst j hw k;let⟨x,n⟩:=l;let⟨p,q,a0,r,t,u⟩:=f D (by simp);let⟨a1,w,a2,a3,a4,a,hsz,R⟩:=wG N x;let⟨rfl,rfl⟩:=A1 E a;obtain⟨b,V⟩:∃b,pp[i]?=Y b:=⟨pp[i],gd n⟩
  let⟨a5,bd,be⟩:=R i b V;refine AY z w a hsz bd λh X bi=>?_;have bk:=N.turned (t':=U.toks) (λG ab M A=>(bi.2 G M).trans A) p q r t u
  let⟨e,A,c,g⟩:=id X;exists a5.key,S,qp (s:={U with heap:=h}) A c g (by decide) ⟨.ref b.2.1,H,bk,be,⟨S,b,V,S⟩,X,λG M=>(f G M).1⟩
 done:=by intro an j hw k P i ap U as H Q N f z l;subst j hw k;let⟨x,n⟩:=l;let⟨p,q,a0,r,t,u⟩:=f D (by simp);let⟨a1,w,a2,a3,a4,a,hsz,R⟩:=wG N x;let⟨rfl,rfl⟩:=A1 E a;exact AZ (N.ok.hd P) z w a hsz n λh bl=>⟨S,N.turned (t':=U.toks) (λG ab M A=>bl G ab M A) p q r t u⟩
 self:=λbm i U bn Q z T=>by refine GN z.typeIs zF (rG zF z.typeIs S7 ?_ (S8 _));exact bu ⟨_,S,"dict_keyiterator",_,z.typeIs,p3.lookup,T⟩
inductive LL (z:aw) (w:au) (D:It->U->Prop) (x:V) (A:U):Prop
 |mk(d o a:_)(_:x=.ref d)(_:A d=Y (.bP o (dX z w d a)))(_:D (lA z w d o a) A)
def LM(z:aw)(A:au)(K:af)(D:TE):TI:=λG H M=>D G H λN S=>LL z A M N S
def lB(T:PE h no ss):PI h s0 no (LM h.prog h.w h.K ss):=by intro U a b H n c d;refine aN (T U a b H _ c d) λu e ⟨p,q,G,f,g,o,r,z,i,j⟩=>?_;subst z;obtain rfl:u=cp g:=f;let⟨k,l,m,s,t,M,hsz,v⟩:=wG G i;refine AX k l m M (wq (tk:=e.toks) G _ (LK _ M) ⟨_,gB _ S,S,?_⟩ j);rw [hsz]<;>rfl
end L3
local macro_rules | `(tactic| dsimp) => `(tactic| dsimp only [L2.xK, L2.xP, L2.xW])
open L3
namespace Cf
section
variable {α:Type} [DecidableEq α]
theorem qK:∀{A u:List α},A.Nodup->(∀z∈A,z∈u)->A.length<=u.length
 |[],u,_,_=>cP _
 |a::b,u,c,d=>by
  let⟨M,D⟩:=ej.mp c;have N:=d a bE
  have G:∀z∈b,z∈u.erase a:=λz S=>by grind
  have:=qK D G;grind
def dW(u:List α)(z:α):List α:=if u.contains z=I then u else u++[z]
def kz{u:List α}{z y:α}:y∈dW u z↔y∈u\/y=z:=by unfold dW;grind
def Bx{u:List α}{z:α}(G:u.Nodup):(dW u z).Nodup:=by
 unfold dW;by_cases A:u.contains z=I
 .rw [ai A];exact G
 .rw [N A];have M:z∉u:=λD=>A (gQ.mpr D)
  rw [gC];exists G,by simp,λU S a T=>?_;rw [bb.mp T];exactλD=>M (D▸S)
def By{u:List α}{z:α}:u.length<=(dW u z).length:=by
 unfold dW;split
 .exact aR _
 .rw [br];lia
def LN{u:List α}{z:α}(A:(dW u z).length=u.length):z∈u/\dW u z=u:=by grind [dW]
def cS(u:List α)(z:List α):List α:=z.foldl dW u
theorem hn:∀{A u:List α} {y:α},y∈cS u A↔y∈u\/y∈A
 |[],u,y=>by simp [cS]
 |a::b,u,y=>by
  show y∈cS (dW u a) b↔_;rw [hn,kz,bg];constructor
  .rintro((z|z)|z)
   .exact .inl z
   .exact .inr (.inl z)
   .exact .inr (.inr z)
  .rintro(z|z|z)
   .exact .inl (.inl z)
   .exact .inl (.inr z)
   .exact .inr z
theorem mz:∀{m u:List α},u.Nodup->(cS u m).Nodup
 |[],u,b=>b
 |a::c,u,b=>mz (m:=c) (Bx b)
theorem mB:∀{m u:List α},u.length<=(cS u m).length
 |[],u=>aR _
 |a::b,u=>cu By (mB (m:=b))
theorem oC:∀{m u:List α},(cS u m).length=u.length->(∀z∈m,z∈u)/\cS u m=u
 |[],u,_=>⟨λ_ A=>(nomatch A),S⟩
 |a::b,u,A=>by
  have e:u.length<=(dW u a).length:=By;have f:(dW u a).length<=(cS (dW u a) b).length:=mB
  have G:(cS (dW u a) b).length=u.length:=A;have N:(dW u a).length=u.length:=by lia
  let⟨T,M⟩:=LN N;rw [M]at G;let⟨U,c⟩:=oC (m:=b) G;exists λz d=>?_,?_
  .rcases bg.mp d with D|D
   .rw [D];exact T
   .exact U z D
  .show cS (dW u a) b=u;rw [M];exact c
end
variable{sB:Type}
def Bz[DecidableEq sB]{u:List sB}{A:sB}(D:A∈u):dW u A=u:=by simp_all [dW,ai]
def BB[DecidableEq sB]{u:List sB}{A:sB}(D:¬A∈u):dW u A=u++[A]:=by simp_all [dW,N]
abbrev Pred:=aA->cw->Prop
def eR(N:ae)(M:Pred)(S:ae)(z A:aA):Prop:=match S with
 |.var b _=>∃G,g7 N b=Y G/\z=.name G/\A=.node b
 |.app b c a=>∃D,M (b5 c) (.fn D)/\((z=b5 a/\A=.name D)\/∃G,uR N D=Y G/\z=.node G/\A=.node b)
 |.letE b _ d G=>(z=b5 d/\A=.name b)\/(z=b5 G/\A=.node b)
 |.ifz b _ a G=>(z=b5 a/\A=.node b)\/(z=b5 G/\A=.node b)
 |.pair b a G=>(z=b5 a/\A=.first b)\/(z=b5 G/\A=.second b)
 |.fst b d=>∃D,M (b5 d) (.pair D)/\z=.first D/\A=.node b
 |.snd b d=>∃D,M (b5 d) (.pair D)/\z=.second D/\A=.node b
 |.new b d=>z=b5 d/\A=.inside b
 |.get b d=>∃D,M (b5 d) (.ref D)/\z=.inside D/\A=.node b
 |.set b e d=>(z=b5 d/\A=.node b)\/∃D,M (b5 e) (.ref D)/\z=b5 d/\A=.inside D
 |_=>False
def ed(z:ae)(A:Pred)(D G:aA):Prop:=∃M∈aG z,eR z A M D G
def fG(z:ae):Pred:=λA D=>(⟨A,D⟩:hv)∈rJ z
def e4(z:iS):Pred:=λA D=>(⟨A,D⟩:hv)∈z
variable{l py:ae}{wr TW:Pred}{nw:aA}
def eR.mono(U:∀a b,wr a b->TW a b){c:aA}(z:eR py wr l c nw):eR py TW l c nw:=by
 cases l<;>simp only [eR]at z⊢<;>first
  |exact z
  |(let⟨D,G,M⟩:=z;exists D,U _ _ G,M)
  |(rcases z with z|⟨D,G,M⟩
    .exact .inl z
    .exact .inr ⟨D,U _ _ G,M⟩)
variable{v1:aA}
theorem ed.mono(T:∀G M,wr G M->TW G M)(U:ed l wr nw v1):ed l TW nw v1:=
 let⟨a,b,hw⟩:=U;⟨a,b,hw.mono T⟩
variable{ul:cw}
def iy{D:iS}:ul∈nQ D nw↔e4 D nw ul:=by
 unfold nQ e4;rw [bH];constructor
 .rintro⟨G,M,rfl⟩;let⟨U,N⟩:=dz.mp M
  have:G.place=nw:=by simpa using N
  rwa [<-this]
 .intro T;exists ⟨nw,ul⟩,dz.mpr ⟨T,by simp⟩,S
variable{B wE:Nat}
def wH{G M N T:aA}:(∃U,(⟨nw,v1,U⟩:ka)∈([⟨G,M,B⟩,⟨N,T,wE⟩]:List ka))↔(nw=G/\v1=M)\/(nw=N/\v1=T):=by
 constructor
 .rintro⟨U,z⟩;rcases bg.mp z with z|z
  .cases z;exact .inl ⟨S,S⟩
  .cases bb.mp z;exact .inr ⟨S,S⟩
 .rintro(⟨rfl,rfl⟩|⟨rfl,rfl⟩)
  .exact⟨_,bE⟩
  .exact⟨_,bC _ bE⟩
def BC{U:iS}:(∃A,(⟨nw,v1,A⟩:ka)∈kb py U l)↔eR py (e4 U) l nw v1:=by
 cases l with
 |num A n=>simp [kb,eR]
 |var A y=>
  grind [kb,eR]
 |fn A y d=>simp [kb,eR]
 |app A i a=>
  simp [kb,eR,di];constructor
  .rintro⟨M,v,D,hw⟩;cases v with
   |fn z=>
    exists z,iy.mp D,?_;grind
   |num=>cases hw
   |pair z=>cases hw
   |ref z=>cases hw
  .rintro⟨z,G,j⟩;exists A,.fn z,iy.mpr G,?_;grind
 |letE A y b d=>exact wH
 |ifz A c a d=>exact wH
 |pair A a d=>exact wH
 |fst A b=>
  simp [kb,eR,di];constructor
  .rintro⟨M,v,D,hw⟩;cases v with
   |pair z=>
    exists z,iy.mp D,?_;cases bb.mp hw;exists S,S
   |num=>cases hw
   |fn z=>cases hw
   |ref z=>cases hw
  .rintro⟨z,G,rfl,rfl⟩;exists A,.pair z,iy.mpr G,bb.mpr S
 |snd A b=>
  simp [kb,eR,di];constructor
  .rintro⟨M,v,D,hw⟩;cases v with
   |pair z=>
    exists z,iy.mp D,?_;cases bb.mp hw;exists S,S
   |num=>cases hw
   |fn z=>cases hw
   |ref z=>cases hw
  .rintro⟨z,G,rfl,rfl⟩;exists A,.pair z,iy.mpr G,bb.mpr S
 |new A b=>simp [kb,eR]
 |get A b=>
  simp [kb,eR,di];constructor
  .rintro⟨M,v,D,hw⟩;cases v with
   |ref z=>
    exists z,iy.mp D,?_;cases bb.mp hw;exists S,S
   |num=>cases hw
   |fn z=>cases hw
   |pair z=>cases hw
  .rintro⟨z,G,rfl,rfl⟩;exists A,.ref z,iy.mpr G,bb.mpr S
 |set A k b=>
  simp [kb,eR,bg,di];constructor
  .rintro⟨M,hw|⟨v,D,hw⟩⟩
   .grind
   .cases v with
    |ref z=>
     have:=bb.mp hw;injection this with g h N;exact .inr ⟨z,iy.mp D,g,h⟩
    |num=>cases hw
    |fn z=>cases hw
    |pair z=>cases hw
  .rintro(⟨rfl,rfl⟩|⟨z,G,rfl,rfl⟩)
   .grind
   .exact⟨A,.inr ⟨.ref z,iy.mpr G,bb.mpr S⟩⟩
 |add A a d=>simp [kb,eR]
def oD{D:iS}:(∃z,(⟨nw,v1,z⟩:ka)∈uS l D)↔ed l (e4 D) nw v1:=by
 unfold uS ed;constructor
 .rintro⟨z,N⟩;rw [S9,di]at N;let⟨S,T,hw⟩:=N
  exists S,T,BC.mp ⟨z,hw⟩
 .rintro⟨S,T,hw⟩;let⟨z,U⟩:=BC.mpr hw
  grind [S9]
def oE{M:iS}:(⟨nw,ul⟩:hv)∈nR l M↔fG l nw ul\/∃D,ed l (e4 M) D nw/\e4 M D ul:=by
 unfold nR;rw [bR,di];constructor
 .rintro(N|⟨U,hw,T⟩)
  .exact .inl N
  .unfold Ta at T;rw [bH]at T;let⟨h,a,b⟩:=T;injection b with c d;subst c d;exact .inr ⟨U.src,oD.mp ⟨U.by_,hw⟩,iy.mp a⟩
 .rintro(N|⟨D,hw,e⟩)
  .exact .inl N
  .obtain⟨f,g⟩:=oD.mpr hw;refine .inr ⟨⟨D,nw,f⟩,g,?_⟩;unfold Ta;rw [bH];exists ul,iy.mpr e,S
structure oF(A:ae)(z:Pred):Prop where
 iz:∀p a,fG A p a->z p a
 way:∀D d a,ed A z D d->z D a->z d a
def gJ(A:ae):Pred:=λD G=>∀z:Pred,oF A z->z D G
theorem qL(G:ae):oF G (gJ G):=
 ⟨λM z A D c=>c.iz M z A,λN S z T A D c=>c.way N S z (T.mono λM a U=>U D c) (A D c)⟩
theorem least_le(c:oF l wr)(M:gJ l nw ul):wr nw ul:=M wr c
theorem LO{z:iS}(G:∀M∈nR l z,M∈z):oF l (e4 z):=
 ⟨λU N A=>G _ (oE.mpr (.inl A)),λA a N S T=>G _ (oE.mpr (.inr ⟨A,S,T⟩))⟩
def hY(z:ae):Pred:=λA D=>A∈aq z/\D∈bp z
def hZ:nw∈aq l↔(∃G∈aG l,nw=b5 G)\/(∃D,nw=.name D/\((∃y M,p7 D y M∈aG l)\/∃y T M,Tc D y T M∈aG l))\/(∃D,(nw=.first D\/nw=.second D)/\∃U M,G6 D U M∈aG l)\/∃D,nw=.inside D/\∃T,G7 D T∈aG l:=by
 unfold aq;dsimp only;rw [bR,bR,bR,di,di,di,di];refine rK ⟨λ⟨G,z,A⟩=>⟨G,z,bb.mp A⟩,λ⟨G,z,A⟩=>⟨G,z,bb.mpr A⟩⟩ (rK ⟨?_,?_⟩ (rK ⟨?_,?_⟩ ⟨?_,?_⟩))
 .rintro⟨G,z,A⟩;cases G<;>first|(cases A;done)|exact⟨_,bb.mp A,.inl ⟨_,_,z⟩⟩|exists _,bb.mp A,.inr ⟨_,_,_,z⟩
 .rintro⟨D,rfl,⟨y,M,z⟩|⟨y,T,M,z⟩⟩<;>exists _,z,bb.mpr S
 .rintro⟨G,z,A⟩;cases G<;>first|(cases A;done)|exists _,(bg.mp A).imp id bb.mp,_,_,z
 .rintro⟨D,A,U,M,z⟩;exists _,z,bg.mpr (A.imp id bb.mpr)
 .rintro⟨G,z,A⟩;cases G<;>first|(cases A;done)|exists _,bb.mp A,_,z
 .rintro⟨D,rfl,T,z⟩;exists _,z,bb.mpr S
def i5:ul∈bp l↔ul=.num\/(∃z y N,ul=.fn z/\p7 z y N∈aG l)\/(∃z G y,ul=.pair z/\G6 z G y∈aG l)\/∃z T,ul=.ref z/\G7 z T∈aG l:=by
 unfold bp;rw [bg,j0];refine rK .rfl ⟨?_,?_⟩
 .rintro⟨G,A,M⟩;cases G<;>first|(cases M;done)|exact .inl ⟨_,_,_,(aS M).symm,A⟩|exact .inr (.inl ⟨_,_,_,(aS M).symm,A⟩)|exact .inr (.inr ⟨_,_,(aS M).symm,A⟩)
 .rintro(⟨z,y,N,rfl,A⟩|⟨z,G,y,rfl,A⟩|⟨z,T,rfl,A⟩)<;>exists _,A,S
def wI(G:G8 B∈bp l):∃y D,p7 B y D∈aG l:=by rcases i5.mp G with z|⟨a,y,D,z,b⟩|⟨a,x,y,z,b⟩|⟨a,d,z,b⟩<;>cases z;grind
def BD(G:Vm B∈bp l):∃D,G7 B D∈aG l:=by rcases i5.mp G with z|⟨b,y,c,z,a⟩|⟨b,x,y,z,a⟩|⟨b,D,z,a⟩<;>cases z;exists _,a
def BE(G:Vn B∈bp l):∃M D,G6 B M D∈aG l:=by rcases i5.mp G with z|⟨b,y,D,z,a⟩|⟨b,x,y,z,a⟩|⟨b,d,z,a⟩<;>cases z;exists _,_,a
theorem gk(A:l∈aG py):G9 (ag l)∈aq py:=hZ.mpr (.inl ⟨l,A,S⟩)
def oG(a:∀c b,wr c b->b∈bp l)(z:ed l wr v1 nw):nw∈aq l:=by
 let⟨f,D,z⟩:=z;have A:=gk D
 cases f<;>simp [eR]at z<;>try exact z.elim
 .obtain⟨N,_,_,rfl⟩:=z;exact A
 .obtain⟨G,T,⟨_,rfl⟩|⟨N,_,_,rfl⟩⟩:=z
  .let⟨y,N,g⟩:=wI (a _ _ T);exact hZ.mpr (.inr (.inl ⟨G,S,.inl ⟨y,N,g⟩⟩))
  .exact A
 .rcases z with⟨_,rfl⟩|⟨_,rfl⟩
  .exact hZ.mpr (.inr (.inl ⟨_,S,.inr ⟨_,_,_,D⟩⟩))
  .exact A
 .rcases z with⟨_,rfl⟩|⟨_,rfl⟩<;>exact A
 .rcases z with⟨_,rfl⟩|⟨_,rfl⟩
  .exact hZ.mpr (.inr (.inr (.inl ⟨_,.inl S,_,_,D⟩)))
  .exact hZ.mpr (.inr (.inr (.inl ⟨_,.inr S,_,_,D⟩)))
 .obtain⟨G,_,_,rfl⟩:=z;exact A
 .obtain⟨G,_,_,rfl⟩:=z;exact A
 .obtain⟨_,rfl⟩:=z;exact hZ.mpr (.inr (.inr (.inr ⟨_,S,_,D⟩)))
 .obtain⟨G,_,_,rfl⟩:=z;exact A
 .rcases z with⟨_,rfl⟩|⟨G,T,_,rfl⟩
  .exact A
  .let⟨nw,h⟩:=BD (a _ _ T);exact hZ.mpr (.inr (.inr (.inr ⟨_,S,_,h⟩)))
def lC(z:fG l nw ul):hY l nw ul:=by
 unfold fG rJ at z;rw [di]at z;let⟨N,D,z⟩:=z;have A:=gk D
 cases N<;>simp only [uT,bb,gR,Td]at z<;>try exact z.elim
 .obtain⟨rfl,rfl⟩:=z;exists A,i5.mpr (.inl S)
 .split at z
  .rw [bb,Td]at z;let⟨rfl,rfl⟩:=z;exists A,i5.mpr (.inl S)
  .cases z
 .obtain⟨rfl,rfl⟩:=z;exists A,i5.mpr (.inr (.inl ⟨_,_,_,S,D⟩))
 .obtain⟨rfl,rfl⟩:=z;exists A,i5.mpr (.inr (.inr (.inl ⟨_,_,_,S,D⟩)))
 .obtain⟨rfl,rfl⟩:=z;exists A,i5.mpr (.inr (.inr (.inr ⟨_,_,S,D⟩)))
 .obtain⟨rfl,rfl⟩:=z;exists A,i5.mpr (.inl S)
theorem BF(e:ae):oF e (hY e):=⟨λ_ _ z=>lC z,λ_ _ _ A z=>⟨oG (λ_ _ D=>D.2) A,z.2⟩⟩
theorem wJ(D:gJ l nw ul):hY l nw ul:=least_le (BF l) D
def BG:(⟨nw,ul⟩:hv)∈nS l↔hY l nw ul:=by unfold nS hY;grind
theorem BH(z:Nat):∀A:List sB,(A.map λ_=>z).sum=A.length*z
 |[]=>by simp
 |a::b=>by
  rw [aZ,eC,BH z b,dn,Te]
  lia
def BI(e:ae):(nS e).length=p8 e:=by unfold nS p8;rw [Ha];simp only [z];exact BH _ _
variable{e:ae}
theorem BJ:∀(M:Nat) (z:iS),z.Nodup->(∀A∈z,gJ e A.place A.abs)->p8 e<M+z.length->(∀A∈uU e M z,gJ e A.place A.abs)/\∀A∈nR e (uU e M z),A∈uU e M z
 |0,z,a,b,f=>by
  have:z.length<=(nS e).length:=qK a λA U=>by
   have:=wJ (b A U);let⟨D,G⟩:=A
   exact BG.mpr this
  grind [BI]
 |M+1,z,a,b,f=>by
  have g:Vacfab.roundOf e z=cS z (nR e z):=rfl;unfold uU;rw [g];by_cases c:(cS z (nR e z)).length=z.length
  .rw [ai c];grind [oC]
  .rw [N c];have:=mB (m:=nR e z) (u:=z)
   refine BJ M _ (mz a) (λA U=>?_) (by lia);rcases hn.mp U with T|T
   .grind
   .let⟨D,G⟩:=A;have d:∀D G,e4 z D G->gJ e D G:=λD G h=>b ⟨D,G⟩ h
    rcases oE.mp T with T|⟨i,w,j⟩
    .exact(qL e).iz D G T
    .exact(qL e).way i D G (w.mono d) (d _ _ j)
def BK:e4 (uU e (p8 e+1) []) nw ul↔gJ e nw ul:=by let⟨G,M⟩:=BJ (e:=e) (p8 e+1) [] gc (λS N=>nomatch N) (by simp);exists λz=>G _ z,λz=>least_le (LO M) z
def LP{D:iS}:(⟨nw,ul⟩:hv)∈zG l D↔hY l nw ul/\e4 D nw ul:=by unfold zG hY e4 zH;grind
def LQ:e4 (d8 l) nw ul↔gJ l nw ul:=by
 unfold d8;show(⟨nw,ul⟩:hv)∈_↔_
 rw [LP,BK];exists λz=>z.2,λz=>⟨wJ z,z⟩
def eS(z:ae)(D:aA->cw->Bool):iS:=(aq z).flatMap λA=>((bp z).filter (D A)).map λG=>⟨A,G⟩
variable{At:Type}
theorem wK(c:sB->Bool)(z:sB->At):∀M:List sB,(M.filterMap λA=>if c A=I then Y (z A)else O)=(M.filter c).map z
 |[]=>rfl
 |A::a=>by
  rw [kR,ig];by_cases D:c A=I
  .rw [ai D,ai D,aZ,wK c z a]
  .rw [N D,N D,wK c z a]
def LR(z:ae)(A:iS):zG z A=eS z (zH A):=by unfold zG eS;congr 1;funext p;exact wK _ _ _
theorem filter_flatMap(c:At->Bool)(z:sB->List At):∀G:List sB,(G.flatMap z).filter c=G.flatMap λM=>(z M).filter c
 |[]=>rfl
 |M::a=>by rw [b3,b3,nT,filter_flatMap c z a]
def wL(z:ae)(A:hv->Bool):(nS z).filter A=eS z λD G=>A ⟨D,G⟩:=by unfold nS eS;rw [filter_flatMap];congr 1;funext D;rw [rL];rfl
def LS(z:ae):nS z=eS z λ_ _=>I:=by rw [<-wL z λ_=>I];exact(Hb.mpr λ_ _=>S).symm
variable{SZ Wq:aA->cw->Bool}
def LU(T:∀z∈aq l,∀A∈bp l,SZ z A=Wq z A):eS l SZ=eS l Wq:=by
 unfold eS;have:∀G:List aA,(∀z∈G,∀A∈bp l,SZ z A=Wq z A)->(G.flatMap λz=>((bp l).filter (SZ z)).map λA=>(⟨z,A⟩:hv))=G.flatMap λz=>((bp l).filter (Wq z)).map λA=>(⟨z,A⟩:hv):=by
  intro G;induction G with
  |nil=>intro _;rfl
  |cons z c a=>
   intro T;rw [b3,b3,a λU b=>T U (bC _ b)];rw [kY (T z bE)]
 exact this _ T
def LV:e4 (eS l SZ) nw ul↔hY l nw ul/\SZ nw ul=I:=by unfold eS e4 hY;grind
def wM(c:(aq l).Nodup)(G:aA->cw->Bool)(d:nw∈aq l):nQ (eS l G) nw=(bp l).filter (G nw):=by
 unfold nQ eS;rw [filter_flatMap,p9];have U:∀A:aA,(((((bp l).filter (G A)).map λT=>(⟨A,T⟩:hv)).filter λM=>M.place==nw).map λM=>M.abs)=if A=nw then(bp l).filter (G nw)else []:=by
  intro A;by_cases a:A=nw
  .subst a;rw [ai S,rL];have:((λM:hv=>M.place==A)∘λT=>(⟨A,T⟩:hv))=λ_=>I:=by
    funext T;simp
   rw [this,Hb.mpr λ_ _=>S,d7];exact nU _
  .simp_all [rL]
 have b:=funext U;rw [b];have e:∀(N:List aA),N.Nodup->(N.flatMap λA=>if A=nw then(bp l).filter (G nw)else [])=if nw∈N then(bp l).filter (G nw)else []:=by
  intro N;induction N with
  |nil=>grind
  |cons A f g=>
   grind
 grind
def LW(z:ae)(A:aA->cw->Bool):(eS z A).length=((aq z).map λD=>((bp z).filter (A D)).length).sum:=by grind [eS,Ha]
noncomputable def gm(z:ae):aA->cw->Bool:=λA D=> @decide (gJ z A D) (Hc _)
def qM:gm l nw ul=I↔gJ l nw ul:=by simp_all [gm]
def oH(z:ae):d8 z=eS z (gm z):=by unfold d8;rw [LR];refine LU λA _ D _=>?_;rw [ic,qM,<-BK];unfold zH e4;exact gQ
theorem LX(A:iS):Vacfaf.kindsOf l A=eS l λD G=>(nQ A D).any (uV G):=wL l _
theorem BL(A:nV):rM l A=eS l λD G=>(cH A D).any λM=>(rJ l).contains ⟨M,G⟩:=wL l _
def kids:ae->List ae
 |.num _ _=>[]
 |.var _ _=>[]
 |.fn _ _ d=>[d]
 |.app _ e a=>[e,a]
 |.letE _ _ b d=>[b,d]
 |.ifz _ c f b=>[c,f,b]
 |.pair _ a d=>[a,d]
 |.fst _ b=>[b]
 |.snd _ b=>[b]
 |.new _ b=>[b]
 |.get _ b=>[b]
 |.set _ g b=>[g,b]
 |.add _ a d=>[a,d]
def gn(z:ae):aG z=z::(kids z).flatMap aG:=by cases z<;>simp [aG,kids]
def gW(z:ae):z∈aG z:=by grind [gn]
def h3{y:ae}(z:y∈kids l):gf y<gf l:=by
 cases l<;>simp only [kids,bg,gR,g8]at z<;>try exact z.elim
 all_goals first
  |(subst z;simp;done)
  |(subst z;simp;lia)
  |(rcases z with rfl|rfl<;>simp<;>lia)
  |(rcases z with rfl|rfl|rfl<;>simp<;>lia)
def sM:∀{z A:ae},A∈aG z->∀y∈aG A,y∈aG z:=by
 intro z;induction a:gf z using Tf generalizing z with
 |_ n b=>
  intro A G y M;rw [gn]at G;rcases bg.mp G with D|D
  .subst D;exact M
  .obtain⟨N,T,U⟩:=di.mp D;have:=b (gf N) (by rw [<-a];exact h3 T) S U y M
   rw [gn];exact bC _ (di.mpr ⟨N,T,this⟩)
theorem i6{y:ae}(D:py∈aG l)(G:y∈kids py):y∈aG l:=
 sM D y (by rw [gn];exact bC _ (di.mpr ⟨y,G,gW y⟩))
def oI(D:ae)(G:List (dr×Nat))(z:Nat):Prop:=(∃M∈G,M.2=z)\/(∃y A,p7 z y A∈aG D)\/∃y A c,Tc z y A c∈aG D
variable{VS:List (dr×Nat)}
def oI.up{x:ae}(N:l∈kids x)(z:oI l VS B):oI x VS B:=by
 have u:∀{M},M∈aG l->M∈aG x:=λz=>by rw [gn];exact bC _ (di.mpr ⟨l,N,z⟩)
 rcases z with z|⟨y,d,z⟩|⟨y,d,c,z⟩
 .exact .inl z
 .exact .inr (.inl ⟨y,d,u z⟩)
 .exact .inr (.inr ⟨y,d,c,u z⟩)
def LY:∀(U:ae) (D:List (dr×Nat)) (A G:Nat),(A,Y G)∈qa D U->oI U D G:=by
 intro U;induction U with
 |num A n=>intro D A G z;cases z
 |var A x=>
  intro D T G z;simp only [qa,bb,uW]at z;let⟨rfl,z⟩:=z;cases h:D.find? (λM=>M.1==x)with
  |none=>rw [h]at z;cases z
  |some M=>
   rw [h]at z;cases z;exact .inl ⟨M,fq h,S⟩
 |fn A x G f=>
  intro D T g z;rcases oI.up (x:=.fn A x G) (bE) (f _ _ _ z)with⟨M,N,rfl⟩|z
  .rcases bg.mp N with rfl|N
   .exact .inr (.inl ⟨x,G,gW _⟩)
   .exact .inl ⟨M,N,S⟩
  .exact .inr z
 |letE A x d G b e=>
  intro D T g z;rcases bR.mp z with z|z
  .exact(b _ _ _ z).up bE
  .rcases oI.up (x:=.letE A x d G) (bC _ bE) (e _ _ _ z)with⟨M,N,rfl⟩|z
   .rcases bg.mp N with rfl|N
    .exact .inr (.inr ⟨x,d,G,gW _⟩)
    .exact .inl ⟨M,N,S⟩
   .exact .inr z
 |app A i a b e|pair A i a b e|set A i a b e|add A i a b e=>
  intro D T g z;rcases bR.mp z with z|z
  .exact(b _ _ _ z).up bE
  .exact(e _ _ _ z).up (bC _ bE)
 |ifz A c k d b e j=>
  intro D T g z;rcases bR.mp z with z|z
  .exact(b _ _ _ z).up bE
  .rcases bR.mp z with z|z
   .exact(e _ _ _ z).up (bC _ bE)
   .exact(j _ _ _ z).up (bC _ (bC _ bE))
 |fst A d f|snd A d f|new A d f|get A d f=>
  intro D T g z;exact(f _ _ _ z).up bE
def LZ(z:g7 l wE=Y B):Tg B∈aq l:=by
 unfold g7 at z;cases a:(uX l).find? λG=>G.1==wE with
 |none=>grind
 |some G=>
  rw [a]at z;let⟨N,U⟩:=G
  cases z;rcases LY l [] N B (fq a)with⟨G,T,_⟩|z|z
  .cases T
  .exact hZ.mpr (.inr (.inl ⟨B,S,.inl z⟩))
  .exact hZ.mpr (.inr (.inl ⟨B,S,.inr z⟩))
set_option tactic.hygienic true
def L0(z:uR l wE=Y B):G9 B∈aq l:=by
 unfold uR at z;split at z
 .rename_i S y T M;cases z;have N:=fq M
  exact gk (i6 N (by simp [kids]))
 .cases z
set_option tactic.hygienic false
theorem jK{y:ae}(D:py∈aG l)(G:y∈kids py):b5 y∈aq l:=gk (i6 D G)
def qN(a:∀f G,wr f G->G∈bp l)(z:ed l wr v1 nw):v1∈aq l:=by
 let⟨g,M,z⟩:=z;cases g<;>simp only [eR]at z<;>try exact z.elim
 .obtain⟨N,c,rfl,_⟩:=z;exact LZ c
 .obtain⟨A,D,⟨rfl,_⟩|⟨N,c,rfl,_⟩⟩:=z
  .exact jK M (by simp [kids])
  .exact L0 c
 .rcases z with⟨rfl,_⟩|⟨rfl,_⟩<;>exact jK M (by simp [kids])
 .rcases z with⟨rfl,_⟩|⟨rfl,_⟩<;>exact jK M (by simp [kids])
 .rcases z with⟨rfl,_⟩|⟨rfl,_⟩<;>exact jK M (by simp [kids])
 .obtain⟨A,D,rfl,_⟩:=z;let⟨G,N,T⟩:=BE (a _ _ D);exact hZ.mpr (.inr (.inr (.inl ⟨A,.inl S,G,N,T⟩)))
 .obtain⟨A,D,rfl,_⟩:=z;let⟨G,N,T⟩:=BE (a _ _ D);exact hZ.mpr (.inr (.inr (.inl ⟨A,.inr S,G,N,T⟩)))
 .obtain⟨rfl,_⟩:=z;exact jK M (by simp [kids])
 .obtain⟨A,D,rfl,_⟩:=z;let⟨nw,T⟩:=BD (a _ _ D);exact hZ.mpr (.inr (.inr (.inr ⟨A,S,nw,T⟩)))
 .rcases z with⟨rfl,_⟩|⟨A,D,rfl,_⟩<;>exact jK M (by simp [kids])
def L4(e:∀A∈aG l,∀D,wr (b5 A) D->TW (b5 A) D)(z:ed l wr nw v1):ed l TW nw v1:=by
 let⟨A,c,z⟩:=z;exists A,c,?_;have d:∀y∈kids A,∀D,wr (b5 y) D->TW (b5 y) D:=λy f=>e y (i6 c f)
 cases A<;>simp only [eR]at z⊢<;>first
  |exact z
  |(let⟨S,T,U⟩:=z;exists S,d _ (by simp [kids]) _ T,U)
  |(rcases z with z|⟨S,T,U⟩
    .exact .inl z
    .exact .inr ⟨S,d _ (by simp [kids]) _ T,U⟩)
theorem BM{G:sB->At}:∀{A:List sB},(A.map G).Nodup->A.Nodup
 |[],_=>gc
 |a::c,b=>by rw [aZ,ej]at b;exact ej.mpr ⟨λM=>b.1 (bH.mpr ⟨a,M,S⟩),BM b.2⟩
structure e5(z:ae):Prop where
 cY:bJ z=eX (bJ z).length
def BN(z:nW l=I):e5 l:=by unfold nW at z;simp only [bx,iM]at z;exists z.2.1
section
variable {e:ae} (L:e5 e)
include L
def e5.at{i:Nat}{A:ae}(D:(aG e)[i]?=Y A):ag A=i:=by
 have G:(bJ e)[i]?=Y (ag A):=by unfold bJ;rw [bh,D];rfl
 rw [L.cY,List.getElem?_range (by have:=(cF.mp D).1;unfold bJ;rwa [z])]at G
 exact(aS G).symm
def e5.get{z:ae}(A:z∈aG e):(aG e)[ag z]?=Y z:=by let⟨i,D⟩:=hR.mp A;rwa [L.at D]
def e5.uniq{z y:ae}(A:z∈aG e)(D:y∈aG e)(G:ag z=ag y):z=y:=by have M:=L.get A;rw [G,L.get D]at M;grind
def e5.nodeAt(z:Nat):ma e z=(aG e)[z]?:=by
 unfold ma;cases a:(aG e)[z]? with
 |none=>
  rw [nN];intro A D G;have:ag A=z:=by simpa using G
  have S:=L.get D;grind
 |some A=>
  have M:=cG a;have N:=L.at a
  cases b:(aG e).find? λy=>ag y==z with
  |none=>
   grind
  |some y=>
   have:ag y=z:=by simpa using(mb b)
   rw [L.uniq (fq b) M (this.trans N.symm)]
def e5.nodup:(aG e).Nodup:=by
 have z:(bJ e).Nodup:=by rw [L.cY];exact Hd
 unfold bJ at z;exact BM z
def L5{T:Type}{A:ae->List T}(U:∀z,(A z).Nodup)(a:∀z y,z∈aG e->y∈aG e->∀M,M∈A z->M∈A y->z=y):((aG e).flatMap A).Nodup:=by
 have:∀D:List ae,D.Nodup->(∀z∈D,z∈aG e)->(D.flatMap A).Nodup:=by
  intro D;induction D with
  |nil=>intro _ _;exact gc
  |cons z k b=>
   intro c N;let⟨d,f⟩:=ej.mp c;rw [b3,gC];exists U z,b f λy G=>N y (bC _ G),λg h M S i=>?_;subst i;let⟨y,G,S⟩:=di.mp S;have:=a z y (N z bE) (N y (bC _ G)) g h S
   exact d (this▸G)
 exact this _ L.nodup λ_ j=>j
def kP:aA->Nat×Nat
 |.node a=>(0,a)|.name a=>(1,a)|.first a=>(2,a)|.second a=>(2,a)|.inside a=>(3,a)
def e5.places:(aq e).Nodup:=by
 have b:∀{c:ae->List aA} {D:Nat},(∀A,(c A).Nodup)->(∀A z,z∈c A->kP z=(D,ag A))->((aG e).flatMap c).Nodup/\∀z∈(aG e).flatMap c,(kP z).1=D:=λk G=>⟨L5 L k λA y U h z M d=>L.uniq U h (bD Prod.snd ((G A z M).symm.trans (G y z d))),λz l=>by let⟨A,_,M⟩:=di.mp l;rw [G A z M]⟩
 have i:∀{f g:List aA} {N T:Nat->Prop},(f.Nodup/\∀z∈f,N (kP z).1)->(g.Nodup/\∀z∈g,T (kP z).1)->(∀D,N D->T D->False)->(f++g).Nodup/\∀z∈f++g,N (kP z).1\/T (kP z).1:=λa z m=>⟨gC.mpr ⟨a.1,z.1,λA U y h n=>m _ (a.2 A U) (n▸z.2 y h)⟩,λA U=>(bR.mp U).imp (a.2 A) (z.2 A)⟩
 have j:∀{a:aA},[a].Nodup:=by simp
 dsimp only [aq];refine And.left (i (N:=(· =0)) (T:=λD=>D=1\/D=2\/D=3) (b (λA=>j) λA z G=>by rw [bb.mp G];rfl) ?_ λD M d=>by lia);refine i (N:=(· =1)) (T:=λD=>D=2\/D=3) (b (λA=>?_) λA z G=>?_) (i (N:=(· =2)) (T:=(· =3)) (b (λA=>?_) λA z G=>?_) (b (λA=>?_) λA z G=>?_) λD M d=>by lia) λD M d=>by lia
 all_goals cases A
 all_goals first|exact j|exact .nil|(cases G;done)|(rw [bb.mp G];rfl)|(simp;done)|(rcases bg.mp G with rfl|G<;>first|rfl|(rw [bb.mp G];rfl))
end
def size(z:ae):Nat:=(aG z).length
def size_eq(z:ae):size z=1+((kids z).map size).sum:=by
 unfold size;rw [gn,dn,Ha]
 lia
def size_pos(z:ae):0<size z:=by rw [size_eq];lia
def aW:Nat->ae->ae
 |n,.num _ k=>.num n k
 |n,.var _ x=>.var n x
 |n,.fn _ x b=>.fn n x (aW (n+1) b)
 |n,.app _ e a=>.app n (aW (n+1) e) (aW (n+1+size e) a)
 |n,.letE _ x d b=>.letE n x (aW (n+1) d) (aW (n+1+size d) b)
 |n,.ifz _ c f d=>.ifz n (aW (n+1) c) (aW (n+1+size c) f) (aW (n+1+size c+size f) d)
 |n,.pair _ a b=>.pair n (aW (n+1) a) (aW (n+1+size a) b)
 |n,.fst _ d=>.fst n (aW (n+1) d)
 |n,.snd _ d=>.snd n (aW (n+1) d)
 |n,.new _ d=>.new n (aW (n+1) d)
 |n,.get _ d=>.get n (aW (n+1) d)
 |n,.set _ g d=>.set n (aW (n+1) g) (aW (n+1+size g) d)
 |n,.add _ a b=>.add n (aW (n+1) a) (aW (n+1+size a) b)
theorem BO:size (.num B wE)=1:=rfl
variable{Do:dr}
theorem BP:size (.var B Do)=1:=rfl
def oJ:size (.fn B Do l)=1+size l:=by simp [size_eq (.fn B Do l),kids]
def oK:size (.app B l py)=1+size l+size py:=by simp [size_eq (.app B l py),kids];lia
def oL:size (.letE B Do l py)=1+size l+size py:=by simp [size_eq (.letE B Do l py),kids];lia
def oM{c:ae}:size (.ifz B c l py)=1+size c+size l+size py:=by simp [size_eq (.ifz B c l py),kids];lia
def oN:size (.pair B l py)=1+size l+size py:=by simp [size_eq (.pair B l py),kids];lia
def oO:size (.fst B l)=1+size l:=by simp [size_eq (.fst B l),kids]
def oP:size (.snd B l)=1+size l:=by simp [size_eq (.snd B l),kids]
def oQ:size (.new B l)=1+size l:=by simp [size_eq (.new B l),kids]
def oR:size (.get B l)=1+size l:=by simp [size_eq (.get B l),kids]
def oS:size (.set B l py)=1+size l+size py:=by simp [size_eq (.set B l py),kids];lia
def oT:size (.add B l py)=1+size l+size py:=by simp [size_eq (.add B l py),kids];lia
def fH(z:UInt8):Bool:=z==40||(z==41||z==32)
def i7(z:aj):Bool:= !z.isEmpty&&z.all λA=> !fH A
def ends(z:aj):Prop:=z=[]\/∃A D,z=A::D/\fH A=I
theorem BQ:∀(z A D:aj),(z.all λG=> !fH G)=I->dt A (z++D)=dt (A++z) D
 |[],A,D,_=>by simp
 |G::z,A,D,a=>by simp_all [fH,dt,BQ]
variable{sw PP:aj}
def L6(hw:PP.isEmpty=ao)(D:ends sw):dt PP sw=PP::dt [] sw:=by
 rcases D with rfl|⟨b,sw,rfl,a⟩
 .grind [dt]
 .unfold fH at a;simp [zj,iM]at a;unfold dt;grind
def wN(D:i7 sw=I)(G:ends PP):dt [] (sw++PP)=sw::dt [] PP:=by simp_all [i7,BQ,L6]
def i8(z:aj):dt [] (40::z)=[40]::dt [] z:=by rw [dt,ai (.inl S)];rfl
def i9(z:aj):dt [] (41::z)=[41]::dt [] z:=by rw [dt,ai (.inr S)];rfl
def lD(z:aj):dt [] (32::z)=dt [] z:=by rw [dt,N (by decide),ai S];rfl
theorem fg(z:aj):ends (41::z):=.inr ⟨41,z,S,by decide⟩
theorem ey(z:aj):ends (32::z):=.inr ⟨32,z,S,by decide⟩
def lE{x:dr}(z:gD x=I):i7 x=I:=by
 unfold gD at z;simp only [bx]at z;let⟨A,_,D,_⟩:=z
 unfold i7;rw [bx];exists A,js.mpr λG M=>?_;have:=js.mp D G M
 unfold kZ at this;simp [bx,j5]at this;grind [fH]
def L7:∀z:Fin 100,i7 (d9 z)=I/\zI (d9 z)=Y z.val/\d9 z≠[41]/\d9 z≠[40]/\(nX.contains (d9 z))=ao:=by decide+kernel
theorem kA{n:Nat}(z:n<=99):i7 (d9 n)=I/\zI (d9 n)=Y n/\d9 n≠[41]/\d9 n≠[40]/\(nX.contains (d9 n))=ao:=L7 ⟨n,by lia⟩
def name_num(A:gD Do=I):zI Do=O:=by
 unfold gD at A;simp only [bx]at A;let⟨M,_,D,_⟩:=A
 unfold zI;rw [N];rintro⟨_,G,_⟩;cases Do with
 |nil=>simp at M
 |cons a b=>
  rw [iN,bx]at D G;have S:=D.1
  have T:=G.1;unfold kZ at S;unfold iT at T;grind
def BR(A:gD Do=I):nX.contains Do=ao:=by simp_all [gD]
def sN(A:gD Do=I):Do≠[41]/\Do≠[40]:=by have:=lE A;constructor<;>(intro D;subst D;exact absurd this (by decide))
def toks:ae->List aj
 |.num _ n=>[d9 n]
 |.var _ x=>[x]
 |.fn _ x d=>[40]::az "fun"::x::(toks d++[[41]])
 |.app _ e a=>[40]::(toks e++(toks a++[[41]]))
 |.letE _ x b d=>[40]::az "let"::x::(toks b++(toks d++[[41]]))
 |.ifz _ c f b=>[40]::az "if"::(toks c++(toks f++(toks b++[[41]])))
 |.pair _ a d=>[40]::az "pair"::(toks a++(toks d++[[41]]))
 |.fst _ b=>[40]::az "fst"::(toks b++[[41]])
 |.snd _ b=>[40]::az "snd"::(toks b++[[41]])
 |.new _ b=>[40]::az "new"::(toks b++[[41]])
 |.get _ b=>[40]::az "get"::(toks b++[[41]])
 |.set _ g b=>[40]::az "set"::(toks g++(toks b++[[41]]))
 |.add _ a d=>[40]::az "add"::(toks a++(toks d++[[41]]))
def iA(D:i7 sw=I)(A:aj):dt [] (sw++32::A)=sw::dt [] A:=by rw [wN D (ey A),lD]
open Vacfaf (isTold)in
def L8:∀(G:ae),bo G=I->∀A,ends A->dt [] (bq G++A)=toks G++dt [] A:=by
 intro G;induction G with
 |num b n=>
  intro z A D;have:n<=99:=d6 z
  exact wN (kA this).1 D
 |var b x=>intro z A D;exact wN (lE z) D
 |fn b x g h=>
  intro z A D;simp only [bo,bx]at z;show dt [] (40::(az "fun"++([32]++(x++([32]++bq g)))++[41])++A)=_
  simp only [dg,ck,dh];rw [i8,iA (by decide),iA (lE z.1),h z.2.2 _ (fg A),i9];simp [toks]
 |app b i a e f=>
  intro z A D;simp only [bo,bx]at z;show dt [] (40::(bq i++([32]++bq a)++[41])++A)=_
  simp_all [i8,ey,lD,fg,i9,toks]
 |letE b x d g e f=>
  intro z A D;simp only [bo,bx]at z;show dt [] (40::(az "let"++([32]++(x++([32]++(bq d++([32]++bq g)))))++[41])++A)=_
  simp only [dg,ck,dh];rw [i8,iA (by decide),iA (lE z.1),e z.2.2.1 _ (ey _),lD,f z.2.2.2 _ (fg A),i9];simp [toks]
 |ifz b c j d e f k=>
  intro z A D;simp only [bo,bx]at z;show dt [] (40::(az "if"++([32]++(bq c++([32]++(bq j++([32]++bq d)))))++[41])++A)=_
  simp only [dg,ck,dh];rw [i8,iA (by decide),e z.1 _ (ey _),lD,f z.2.1 _ (ey _),lD,k z.2.2 _ (fg A),i9];simp [toks]
 |pair b a g e f=>
  intro z A D;simp only [bo,bx]at z;show dt [] (40::(az "pair"++([32]++(bq a++([32]++bq g)))++[41])++A)=_
  simp only [dg,ck,dh];rw [i8,iA (by decide),e z.1 _ (ey _),lD,f z.2 _ (fg A),i9];simp [toks]
 |set b a g e f=>
  intro z A D;simp only [bo,bx]at z;show dt [] (40::(az "set"++([32]++(bq a++([32]++bq g)))++[41])++A)=_
  simp only [dg,ck,dh];rw [i8,iA (by decide),e z.1 _ (ey _),lD,f z.2 _ (fg A),i9];simp [toks]
 |add b a g e f=>
  intro z A D;simp only [bo,bx]at z;show dt [] (40::(az "add"++([32]++(bq a++([32]++bq g)))++[41])++A)=_
  simp only [dg,ck,dh];rw [i8,iA (by decide),e z.1 _ (ey _),lD,f z.2 _ (fg A),i9];simp [toks]
 |fst b d h=>
  intro z A D;show dt [] (40::(az "fst"++([32]++bq d)++[41])++A)=_
  simp only [dg,ck,dh];rw [i8,iA (by decide),h z _ (fg A),i9];simp [toks]
 |snd b d h=>
  intro z A D;show dt [] (40::(az "snd"++([32]++bq d)++[41])++A)=_
  simp only [dg,ck,dh];rw [i8,iA (by decide),h z _ (fg A),i9];simp [toks]
 |new b d h=>
  intro z A D;show dt [] (40::(az "new"++([32]++bq d)++[41])++A)=_
  simp only [dg,ck,dh];rw [i8,iA (by decide),h z _ (fg A),i9];simp [toks]
 |get b d h=>
  intro z A D;show dt [] (40::(az "get"++([32]++bq d)++[41])++A)=_
  simp only [dg,ck,dh];rw [i8,iA (by decide),h z _ (fg A),i9];simp [toks]
set_option tactic.hygienic true
def L9:∀z:ae,bo z=I->∃D G,toks z=D::G/\D≠[41]/\nX.contains D=ao:=by
 intro z A;cases z
 case num a n=>exists _,_,S,(kA (d6 A)).2.2.1,(kA (d6 A)).2.2.2.2
 case var a x=>exists _,_,S,(sN A).1,BR A
 all_goals exact⟨_,_,S,by decide,by decide⟩
set_option tactic.hygienic false
def Ma(A:nX.contains sw=ao):sw≠az "fun"/\sw≠az "let"/\sw≠az "if"/\sw≠az "pair"/\sw≠az "fst"/\sw≠az "snd"/\sw≠az "new"/\sw≠az "get"/\sw≠az "set"/\sw≠az "add":=by refine⟨?_,?_,?_,?_,?_,?_,?_,?_,?_,?_⟩<;>(intro D;subst D;exact absurd A (by decide))
def ja(G z:ae)(A:Nat)(D:List aj):Th ⟨G,A,[41]::D⟩ z=Y ⟨z,A,D⟩:=by unfold Th;simp
def Mb:∀(U:ae),bo U=I->∀z A D,dH U<z->g9 z A (toks U++D)=Y ⟨aW A U,A+size U,D⟩:=by
 intro U;induction U with
 |num b k=>
  intro G z A D T;let⟨_,m,n,o,_⟩:=kA (d6 G)
  obtain⟨z,rfl⟩:∃M,z=M+1:=⟨z-1,by lia⟩
  show g9 (z+1) A (d9 k::D)=_;rw [Vacfaa.read.eq_def];dsimp only;rw [N n,ai o];simp only [m];rfl
 |var b x=>
  intro G z A D T;obtain⟨z,rfl⟩:∃M,z=M+1:=⟨z-1,by lia⟩
  show g9 (z+1) A (x::D)=_;rw [Vacfaa.read.eq_def];dsimp only;rw [N (sN G).1,ai (sN G).2];simp only [name_num G];rfl
 |fn b x e f=>
  intro G z A D T;obtain⟨z,rfl⟩:∃M,z=M+1:=⟨z-1,by lia⟩
  simp only [bo,bx]at G;simp only [dH]at T;show g9 (z+1) A ([40]::az "fun"::x::(toks e++[[41]])++D)=_
  simp only [dg,ck,dh];rw [Vacfaa.read.eq_def];dsimp only;rw [N (show¬([40]:aj)=[41]by decide),N (show¬([40]:aj)≠[40]by simp)];simp only [eQ];grind [aW,ja,oJ]
 |app b M a g h=>
  intro G z A D T;obtain⟨z,rfl⟩:∃M,z=M+1:=⟨z-1,by lia⟩
  simp only [bo,bx]at G;simp only [dH]at T;let⟨i,E,j,F,p⟩:=L9 M G.1
  let⟨q,r,s,t,u,v,w,y,B,C⟩:=Ma p;show g9 (z+1) A ([40]::(toks M++(toks a++[[41]]))++D)=_
  have l:=g G.1 z (A+1) (toks a++([41]::D)) (by lia);rw [j]at l;simp only [dg]at l;rw [j];simp only [dg,ck,dh];rw [Vacfaa.read.eq_def];dsimp only;rw [N (show¬([40]:aj)=[41]by decide),N (show¬([40]:aj)≠[40]by simp)];simp only [N q,N r,N s,N t,N u,N v,N w,N y,N B,N C];grind [ja,oK,aW]
 |letE b x d e g h=>
  intro G z A D T;obtain⟨z,rfl⟩:∃M,z=M+1:=⟨z-1,by lia⟩
  simp only [bo,bx]at G;simp only [dH]at T;show g9 (z+1) A ([40]::az "let"::x::(toks d++(toks e++[[41]]))++D)=_
  simp only [dg,ck,dh];rw [Vacfaa.read.eq_def];dsimp only;rw [N (show¬([40]:aj)=[41]by decide),N (show¬([40]:aj)≠[40]by simp)];simp only [N (show az "let"≠az "fun"by decide),eQ];grind [ja,oL,aW]
 |ifz b c i d g h H=>
  intro G z A D T;obtain⟨z,rfl⟩:∃M,z=M+1:=⟨z-1,by lia⟩
  simp only [bo,bx]at G;simp only [dH]at T;show g9 (z+1) A ([40]::az "if"::(toks c++(toks i++(toks d++[[41]])))++D)=_
  simp only [dg,ck,dh];rw [Vacfaa.read.eq_def];dsimp only;rw [N (show¬([40]:aj)=[41]by decide),N (show¬([40]:aj)≠[40]by simp)];simp only [N (show az "if"≠az "fun"by decide),N (show az "if"≠az "let"by decide),eQ];grind [ja,oM,aW]
 |pair b a e g h=>
  intro G z A D T;obtain⟨z,rfl⟩:∃M,z=M+1:=⟨z-1,by lia⟩
  simp only [bo,bx]at G;simp only [dH]at T;show g9 (z+1) A ([40]::az "pair"::(toks a++(toks e++[[41]]))++D)=_
  simp only [dg,ck,dh];rw [Vacfaa.read.eq_def];dsimp only;rw [N (show¬([40]:aj)=[41]by decide),N (show¬([40]:aj)≠[40]by simp)];simp only [N (show az "pair"≠az "fun"by decide),N (show az "pair"≠az "let"by decide),N (show az "pair"≠az "if"by decide),eQ];grind [ja,oN,aW]
 |set b a e g h=>
  intro G z A D T;obtain⟨z,rfl⟩:∃M,z=M+1:=⟨z-1,by lia⟩
  simp only [bo,bx]at G;simp only [dH]at T;show g9 (z+1) A ([40]::az "set"::(toks a++(toks e++[[41]]))++D)=_
  simp only [dg,ck,dh];rw [Vacfaa.read.eq_def];dsimp only;rw [N (show¬([40]:aj)=[41]by decide),N (show¬([40]:aj)≠[40]by simp)];simp only [N (show az "set"≠az "fun"by decide),N (show az "set"≠az "let"by decide),N (show az "set"≠az "if"by decide),N (show az "set"≠az "pair"by decide),N (show az "set"≠az "fst"by decide),N (show az "set"≠az "snd"by decide),N (show az "set"≠az "new"by decide),N (show az "set"≠az "get"by decide),eQ];grind [ja,oS,aW]
 |add b a e g h=>
  intro G z A D T;obtain⟨z,rfl⟩:∃M,z=M+1:=⟨z-1,by lia⟩
  simp only [bo,bx]at G;simp only [dH]at T;show g9 (z+1) A ([40]::az "add"::(toks a++(toks e++[[41]]))++D)=_
  simp only [dg,ck,dh];rw [Vacfaa.read.eq_def];dsimp only;rw [N (show¬([40]:aj)=[41]by decide),N (show¬([40]:aj)≠[40]by simp)];simp only [N (show az "add"≠az "fun"by decide),N (show az "add"≠az "let"by decide),N (show az "add"≠az "if"by decide),N (show az "add"≠az "pair"by decide),N (show az "add"≠az "fst"by decide),N (show az "add"≠az "snd"by decide),N (show az "add"≠az "new"by decide),N (show az "add"≠az "get"by decide),N (show az "add"≠az "set"by decide),eQ];grind [ja,oT,aW]
 |fst b d f=>
  intro G z A D T;obtain⟨z,rfl⟩:∃M,z=M+1:=⟨z-1,by lia⟩
  simp only [dH]at T;show g9 (z+1) A ([40]::az "fst"::(toks d++[[41]])++D)=_
  simp only [dg,ck,dh];rw [Vacfaa.read.eq_def];dsimp only;rw [N (show¬([40]:aj)=[41]by decide),N (show¬([40]:aj)≠[40]by simp)];simp only [N (show az "fst"≠az "fun"by decide),N (show az "fst"≠az "let"by decide),N (show az "fst"≠az "if"by decide),N (show az "fst"≠az "pair"by decide),eQ];rw [f G z (A+1) _ (by lia)];grind [ja,oO,aW]
 |snd b d f=>
  intro G z A D T;obtain⟨z,rfl⟩:∃M,z=M+1:=⟨z-1,by lia⟩
  simp only [dH]at T;show g9 (z+1) A ([40]::az "snd"::(toks d++[[41]])++D)=_
  simp only [dg,ck,dh];rw [Vacfaa.read.eq_def];dsimp only;rw [N (show¬([40]:aj)=[41]by decide),N (show¬([40]:aj)≠[40]by simp)];simp only [N (show az "snd"≠az "fun"by decide),N (show az "snd"≠az "let"by decide),N (show az "snd"≠az "if"by decide),N (show az "snd"≠az "pair"by decide),N (show az "snd"≠az "fst"by decide),eQ];rw [f G z (A+1) _ (by lia)];grind [ja,oP,aW]
 |new b d f=>
  intro G z A D T;obtain⟨z,rfl⟩:∃M,z=M+1:=⟨z-1,by lia⟩
  simp only [dH]at T;show g9 (z+1) A ([40]::az "new"::(toks d++[[41]])++D)=_
  simp only [dg,ck,dh];rw [Vacfaa.read.eq_def];dsimp only;rw [N (show¬([40]:aj)=[41]by decide),N (show¬([40]:aj)≠[40]by simp)];simp only [N (show az "new"≠az "fun"by decide),N (show az "new"≠az "let"by decide),N (show az "new"≠az "if"by decide),N (show az "new"≠az "pair"by decide),N (show az "new"≠az "fst"by decide),N (show az "new"≠az "snd"by decide),eQ];rw [f G z (A+1) _ (by lia)];grind [ja,oQ,aW]
 |get b d f=>
  intro G z A D T;obtain⟨z,rfl⟩:∃M,z=M+1:=⟨z-1,by lia⟩
  simp only [dH]at T;show g9 (z+1) A ([40]::az "get"::(toks d++[[41]])++D)=_
  simp only [dg,ck,dh];rw [Vacfaa.read.eq_def];dsimp only;rw [N (show¬([40]:aj)=[41]by decide),N (show¬([40]:aj)≠[40]by simp)];simp only [N (show az "get"≠az "fun"by decide),N (show az "get"≠az "let"by decide),N (show az "get"≠az "if"by decide),N (show az "get"≠az "pair"by decide),N (show az "get"≠az "fst"by decide),N (show az "get"≠az "snd"by decide),N (show az "get"≠az "new"by decide),eQ];rw [f G z (A+1) _ (by lia)];grind [ja,oR,aW]
def sO:∀(A:ae) (z:Nat),size (aW z A)=size A:=by
 intro A;induction A with
 |num b k=>intro z;rfl
 |var b x=>intro z;rfl
 |fn b x h g=>intro z;simp only [aW,oJ,g]
 |app b i a e f=>intro z;simp only [aW,oK,e,f]
 |letE b x i a e f=>intro z;simp only [aW,oL,e,f]
 |ifz b c l d e f j=>intro z;simp only [aW,oM,e,f,j]
 |pair b i a e f=>intro z;simp only [aW,oN,e,f]
 |fst b h g=>intro z;simp only [aW,oO,g]
 |snd b h g=>intro z;simp only [aW,oP,g]
 |new b h g=>intro z;simp only [aW,oQ,g]
 |get b h g=>intro z;simp only [aW,oR,g]
 |set b i a e f=>intro z;simp only [aW,oS,e,f]
 |add b i a e f=>intro z;simp only [aW,oT,e,f]
def BS:∀(z:ae) (A:Nat),dH (aW A z)=dH z:=by
 intro z;induction z with
 |num a k=>intro A;rfl
 |var a x=>intro A;rfl
 |_=>intro A;simp only [aW,dH, *]
def dI(z:ae):bJ z=ag z::(kids z).flatMap bJ:=by unfold bJ;rw [gn,aZ,p9]
def gX(z:ae):(bJ z).length=size z:=by unfold bJ size;grind
def lF:∀(N:ae) (z:Nat),bJ (aW z N)=cj z (size N):=by
 have A:∀z T:Nat,z::cj (z+1) T=cj z (1+T):=λz T=>by rw [zJ 1 T,nP]
 have M:∀z D G:Nat,cj z D++cj (z+D) G=cj z (D+G):=λz D G=>by rw [<-kc]
 intro N;induction N with
 |num a k=>intro z;rfl
 |var a x=>intro z;rfl
 |fn a x G f=>intro z;rw [dI];simp only [aW,kids,ag,oJ,b3,et,b0,f,A]
 |fst a G f=>intro z;rw [dI];simp only [aW,kids,ag,oO,b3,et,b0,f,A]
 |snd a G f=>intro z;rw [dI];simp only [aW,kids,ag,oP,b3,et,b0,f,A]
 |new a G f=>intro z;rw [dI];simp only [aW,kids,ag,oQ,b3,et,b0,f,A]
 |get a G f=>intro z;rw [dI];simp only [aW,kids,ag,oR,b3,et,b0,f,A]
 |app a g D b e=>intro z;rw [dI];simp only [aW,kids,ag,oK,b3,et,b0,b,e];rw [M,A,qb]
 |letE a x g D b e=>intro z;rw [dI];simp only [aW,kids,ag,oL,b3,et,b0,b,e];rw [M,A,qb]
 |pair a g D b e=>intro z;rw [dI];simp only [aW,kids,ag,oN,b3,et,b0,b,e];rw [M,A,qb]
 |set a g D b e=>intro z;rw [dI];simp only [aW,kids,ag,oS,b3,et,b0,b,e];rw [M,A,qb]
 |add a g D b e=>intro z;rw [dI];simp only [aW,kids,ag,oT,b3,et,b0,b,e];rw [M,A,qb]
 |ifz a c i d b e h=>
  intro z;rw [dI];simp only [aW,kids,ag,oM,b3,et,b0,b,e,h];rw [M (z+1+size c),M (z+1),A,qb,qb]
def wO:∀(G:ae) (D:Nat),bJ G=cj D (size G)->aW D G=G:=by
 have i:∀(D:Nat) (G:ae) (m:List Nat) (g:Nat),bJ G++m=cj D g->size G<=g->bJ G=cj D (size G)/\m=cj (D+size G) (g-size G):=λD G m g A n=>by
  have o:cj D g=cj D (size G)++cj (D+size G) (g-size G):=by
   rw [kc];congr 1
   lia
  rw [o]at A;exact mc A (by rw [gX,qc])
 have N:∀(G:ae) (D:Nat),bJ G=cj D (size G)->ag G=D/\(kids G).flatMap bJ=cj (D+1) (size G-1):=λG D A=>by
  rw [dI]at A;obtain⟨g,n⟩:∃g,size G=g+1:=⟨size G-1,by have:=size_pos G;lia⟩
  rw [n,nP]at A;let⟨M,z⟩:=p5 A;exact⟨M,by rw [z,n];rfl⟩
 intro G;induction G with
 |num b k=>intro D A;let⟨M,_⟩:=N _ _ A;cases M;rfl
 |var b k=>intro D A;let⟨M,_⟩:=N _ _ A;cases M;rfl
 |fn b x j h=>
  intro D A;let⟨M,z⟩:=N _ _ A;cases M;simp only [kids,b3,et,b0,oJ]at z;rw [aW,h _ (z.trans (by congr 1;lia))];rfl
 |fst b j h=>
  intro D A;let⟨M,z⟩:=N _ _ A;cases M;simp only [kids,b3,et,b0,oO]at z;rw [aW,h _ (z.trans (by congr 1;lia))];rfl
 |snd b j h=>
  intro D A;let⟨M,z⟩:=N _ _ A;cases M;simp only [kids,b3,et,b0,oP]at z;rw [aW,h _ (z.trans (by congr 1;lia))];rfl
 |new b j h=>
  intro D A;let⟨M,z⟩:=N _ _ A;cases M;simp only [kids,b3,et,b0,oQ]at z;rw [aW,h _ (z.trans (by congr 1;lia))];rfl
 |get b j h=>
  intro D A;let⟨M,z⟩:=N _ _ A;cases M;simp only [kids,b3,et,b0,oR]at z;rw [aW,h _ (z.trans (by congr 1;lia))];rfl
 |app b l a e f=>
  intro D A;let⟨M,z⟩:=N _ _ A;cases M;simp only [kids,b3,et,b0,oK]at z;let⟨T,U⟩:=i _ _ _ _ z (by lia);rw [aW,e _ T,f _ (U.trans (by congr 1;lia))];rfl
 |letE b x l a e f=>
  intro D A;let⟨M,z⟩:=N _ _ A;cases M;simp only [kids,b3,et,b0,oL]at z;let⟨T,U⟩:=i _ _ _ _ z (by lia);rw [aW,e _ T,f _ (U.trans (by congr 1;lia))];rfl
 |pair b l a e f=>
  intro D A;let⟨M,z⟩:=N _ _ A;cases M;simp only [kids,b3,et,b0,oN]at z;let⟨T,U⟩:=i _ _ _ _ z (by lia);rw [aW,e _ T,f _ (U.trans (by congr 1;lia))];rfl
 |set b l a e f=>
  intro D A;let⟨M,z⟩:=N _ _ A;cases M;simp only [kids,b3,et,b0,oS]at z;let⟨T,U⟩:=i _ _ _ _ z (by lia);rw [aW,e _ T,f _ (U.trans (by congr 1;lia))];rfl
 |add b l a e f=>
  intro D A;let⟨M,z⟩:=N _ _ A;cases M;simp only [kids,b3,et,b0,oT]at z;let⟨T,U⟩:=i _ _ _ _ z (by lia);rw [aW,e _ T,f _ (U.trans (by congr 1;lia))];rfl
 |ifz b c s d e f p=>
  intro D A;let⟨M,z⟩:=N _ _ A;cases M;simp only [kids,b3,et,b0,oM]at z;let⟨T,U⟩:=i _ _ _ _ z (by lia);let⟨q,r⟩:=i _ _ _ _ U (by lia);rw [aW,e _ T,f _ q,p _ (r.trans (by congr 1;lia))];rfl
def Mc:∀(D:ae) (A:List dr),hS A D=I->bo D=I:=by
 intro D;induction D with
 |num b k=>intro A z;exact z
 |var b x=>intro A z;simp [hS,bx]at z;exact z.1
 |fn b x e f=>intro A z;simp [hS,bo,bx]at z⊢;grind
 |letE b x d e g h=>intro A z;simp [hS,bo,bx]at z⊢;grind
 |ifz b c j d g h l=>intro A z;simp [hS,bo,bx]at z⊢;grind
 |fst b e f|snd b e f|new b e f|get b e f=>intro A z;exact f A z
 |app b i a g h|pair b i a g h|set b i a g h|add b i a g h=>intro A z;simp [hS,bo,bx]at z⊢;grind
def Md:∀z:ae,dH z<(toks z).length:=by intro z;induction z<;>simp only [dH,toks,dn,br,iP]<;>lia
def qO(D:bo l=I):g9 ((dt [] (bq l)).length+1) 0 (dt [] (bq l))=Y ⟨aW 0 l,size l,[]⟩:=by
 have A:=L8 l D [] (.inl S);rw [b0]at A;have M:dt [] ([]:aj)=[]:=rfl
 rw [M,b0]at A;have G:=Mb l D ((toks l).length+1) 0 [] (by have:=Md l;lia)
 rw [b0,uQ]at G;rw [A];exact G
def Me(D:nW l=I):aW 0 l=l:=by have A:=(BN D).cY;rw [gX,zK]at A;exact wO l 0 A
def qP:hT sw=Y l↔nW l=I/\bq l=sw:=by
 unfold hT;constructor
 .intro G;simp only at G;cases a:g9 ((dt [] sw).length+1) 0 (dt [] sw)with
  |none=>grind
  |some b=>
   grind
 .rintro⟨D,rfl⟩;have M:bo l=I:=by
   unfold nW at D;rw [bx]at D;exact Mc _ _ D.1
  simp_all [qO,Me]
set_option tactic.hygienic true
def BU:He sw=Y l↔bo l=I/\bq l=sw/\aW 0 l=l:=by
 unfold He;constructor
 .intro z;simp only at z;cases a:g9 ((dt [] sw).length+1) 0 (dt [] sw)with
  |none=>grind
  |some b=>
   rw [a]at z;simp only [gg]at z;split at z
   .rename_i G;cases z;simp [bx,iM]at G;let⟨_,M,N⟩:=G
    subst N;rw [qO M]at a;grind
   .cases z
 .rintro⟨M,rfl,T⟩;simp_all [qO]
set_option tactic.hygienic false
def wQ{y:ae}(A:bo l=I)(D:bo y=I)(G:bq l=bq y):aW 0 l=aW 0 y:=by
 have M:=qO A;have N:=qO D
 grind
set_option backward.eqns.nonrecursive true
set_option backward.eqns.deepRecursiveSplit true
def bY:aj->aj->List aj
 |w,[]=>if w.isEmpty=I then []else [w]
 |w,a::b=>if fH a=I then(if w.isEmpty=I then []else [w])++([a]::bY [] b)else bY (w++[a]) b
theorem qQ:∀(z A:aj),(bY A z).flatten=A++z
 |[],A=>by unfold bY;grind
 |b::z,A=>by
  unfold bY;split
  .rw [uY,List.flatten_cons,qQ z []];grind
  .rw [qQ z (A++[b])];simp
theorem BV:∀(z A D:aj),(z.all λG=> !fH G)=I->bY A (z++D)=bY (A++z) D
 |[],A,D,_=>by simp
 |G::z,A,D,a=>by simp_all [bY,BV]
def Mf(hw:PP.isEmpty=ao)(D:ends sw):bY PP sw=PP::bY [] sw:=by
 rcases D with rfl|⟨a,sw,rfl,b⟩
 all_goals simp_all [bY]
def hD(D:i7 sw=I)(G:ends PP):bY [] (sw++PP)=sw::bY [] PP:=by simp_all [i7,BV,Mf]
def dm{z:UInt8}(D:fH z=I)(A:aj):bY [] (z::A)=[z]::bY [] A:=by simp_all [bY]
inductive Fm where
 |num|used|given|call|fn|letE|ifz|pair|fst|snd|new|get|set|add
deriving DecidableEq
def arity:Fm->Nat
 |.num=>0|.used=>0|.given=>0|.call=>2|.fn=>1|.letE=>2|.ifz=>3|.pair=>2|.fst=>1|.snd=>1|.new=>1|.get=>1|.set=>2|.add=>2
def en(z:Fm):Bool:=match z with
 |.num=>I
 |.used=>I
 |.given=>I
 |_=>ao
def isBinder(z:Fm):Bool:=match z with
 |.fn=>I
 |.letE=>I
 |_=>ao
def fz:Fm->aj
 |.fn=>az "fun"|.letE=>az "let"|.ifz=>az "if"|.pair=>az "pair"|.fst=>az "fst"|.snd=>az "snd"|.new=>az "new"|.get=>az "get"|.set=>az "set"|.add=>az "add"
 |_=>[]
def ee(z:aj):Option Fm:=[Fm.fn,.letE,.ifz,.pair,.fst,.snd,.new,.get,.set,.add].find? λA=>fz A==z
def isNum(z:aj):Bool:=z==[48]||(!z.isEmpty&&(z.all iT&&(decide (z.length<=2)&&z.head? !=Y 48)))
def h4(z:aj):Bool:= !z.isEmpty&&(z.all kZ&&(decide (z.length<=4)&&(ee z).isNone))
structure Info where
 aK:Fm
 word:aj
 parent:Option Nat
 parts:List Nat
deriving DecidableEq
structure RS where
 ws:List aj
 nodes:List Info
 around:List Nat
def eo:List aj->Option (Fm×aj×List aj)
 |[]=>Y (.call,[],[])
 |w::a=>match ee w with
  |none=>Y (.call,[],w::a)
  |some k=>if isBinder k=I then(match a with
   |b::x::c=>if b=[32]then(if x=du\/h4 x=ao then O else Y (k,x,c))else O
   |_=>O)else Y (k,[],a)
def head:List aj->Option (Fm×aj×List aj)
 |[]=>O
 |w::a=>if w=[40]then eo a else if isNum w=I then Y (.num,w,a)else if w=du then Y (.given,[],a)else if h4 w=I then Y (.used,w,a)else O
def pass(z:aj):List aj->Option (List aj)
 |[]=>O
 |w::a=>if w=z then Y a else O
def attach(z:List Info)(A:List Nat)(D:Nat):List Info:=match A with
 |[]=>z
 |p::_=>z.modify p λi=>{i with parts:=i.parts++[D]}
def begin_(z:RS):Option RS:=if z.nodes.length=30\/8<z.around.length then O else(head z.ws).map λA=>
 ⟨A.2.2,attach z.nodes z.around z.nodes.length++[⟨A.1,A.2.1,z.around.head?,[]⟩],if en A.1=I then z.around else z.nodes.length::z.around⟩
def hE(z:RS):Option RS:=match z.around with
 |[]=>O
 |p::A=>match z.nodes[p]? with
  |none=>O
  |some i=>if i.parts.length=arity i.aK then(pass [41] z.ws).map λD=>⟨D,z.nodes,A⟩
   else((if i.aK≠.call\/i.parts≠[]then pass [32] z.ws else Y z.ws)).bind λD=>begin_ ⟨D,z.nodes,p::A⟩
def jb:Nat->RS->Option RS
 |0,a=>if a.around=[]then Y a else O
 |n+1,a=>if a.around=[]then Y a else(hE a).bind (jb n)
def loop(z:RS):Option RS:=jb z.ws.length z
variable{wn V5:List aj}
def BW(G:pass sw wn=Y V5):V5.length<wn.length:=by
 cases wn with
 |nil=>cases G
 |cons w a=>
  grind [pass]
variable{Wf:Fm×aj×List aj}
def Mg(z:head wn=Y Wf):Wf.2.2.length<wn.length:=by
 cases wn with
 |nil=>cases z
 |cons w a=>
  simp only [head]at z;split at z
  .cases a with
   |nil=>cases z;simp
   |cons v b=>
    simp only [eo]at z;split at z
    .cases z;simp
    .split at z
     .split at z
      .split at z
       .split at z
        .cases z
        .cases z;simp;lia
       .cases z
      .cases z
     .cases z;simp;lia
  .split at z
   .cases z;simp
   .split at z
    .cases z;simp
    .split at z
     .cases z;simp
     .cases z
def Mh{A D:RS}(z:begin_ A=Y D):D.ws.length<A.ws.length:=by
 unfold begin_ at z;split at z
 .cases z
 .obtain⟨M,G,rfl⟩:=cv.mp z;exact Mg G
def qR{D S':RS}(z:hE D=Y S'):S'.ws.length<D.ws.length:=by
 unfold hE at z;split at z
 .cases z
 .split at z
  .cases z
  .split at z
   .obtain⟨G,A,rfl⟩:=cv.mp z;exact BW A
   .let⟨G,A,M⟩:=ft.mp z;have:=Mh M
    split at A
    .have:=BW A;grind
    grind
theorem wR:∀(D:Nat) (z:RS),z.ws.length<=D->jb D z=loop z
 |0,z,c=>by unfold loop;rw [Ti.mp c]
 |D+1,z,c=>by
  unfold loop;cases d:z.ws.length with
  |zero=>
   unfold jb;by_cases A:z.around=[]
   .rw [ai A,ai A]
   .rw [N A,N A];cases b:hE z with
    |none=>rfl
    |some a=>have:=qR b;lia
  |succ m=>
   show(if z.around=[]then Y z else(hE z).bind (jb D))=if z.around=[]then Y z else(hE z).bind (jb m);by_cases A:z.around=[]
   .rw [ai A,ai A]
   .rw [N A,N A];cases b:hE z with
    |none=>rfl
    |some a=>
     have:=qR b;show jb D a=jb m a
     rw [wR D a (by lia),wR m a (by lia)]
def qS(z:RS):loop z=if z.around=[]then Y z else(hE z).bind loop:=by
 by_cases A:z.around=[]
 .rw [ai A];unfold loop;cases z.ws.length<;>(unfold jb;rw [ai A])
 .rw [N A];unfold loop;cases c:z.ws.length with
  |zero=>
   unfold jb;rw [N A];cases a:hE z with
   |none=>rfl
   |some b=>have:=qR a;lia
  |succ m=>
   show(if z.around=[]then Y z else(hE z).bind (jb m))=_;rw [N A];cases a:hE z with
   |none=>rfl
   |some b=>
    have:=qR a;exact wR m b (by lia)
def aB:ae->Fm
 |.num _ _=>.num
 |.var _ x=>if x=du then .given else .used
 |.fn _ _ _=>.fn
 |.app _ _ _=>.call
 |.letE _ _ _ _=>.letE
 |.ifz _ _ _ _=>.ifz
 |.pair _ _ _=>.pair
 |.fst _ _=>.fst
 |.snd _ _=>.snd
 |.new _ _=>.new
 |.get _ _=>.get
 |.set _ _ _=>.set
 |.add _ _ _=>.add
def wordOf:ae->aj
 |.num _ n=>d9 n
 |.var _ x=>if x=du then []else x
 |.fn _ x _=>x
 |.letE _ x _ _=>x
 |_=>[]
def cZ(A:Option Nat)(z:ae):Info:=⟨aB z,wordOf z,A,(kids z).map ag⟩
def infos:Option Nat->ae->List Info
 |p,.num b n=>[cZ p (.num b n)]
 |p,.var b x=>[cZ p (.var b x)]
 |p,.fn b x e=>cZ p (.fn b x e)::infos (Y b) e
 |p,.app b f a=>cZ p (.app b f a)::(infos (Y b) f++infos (Y b) a)
 |p,.letE b x d e=>cZ p (.letE b x d e)::(infos (Y b) d++infos (Y b) e)
 |p,.ifz b c g d=>cZ p (.ifz b c g d)::(infos (Y b) c++(infos (Y b) g++infos (Y b) d))
 |p,.pair b a e=>cZ p (.pair b a e)::(infos (Y b) a++infos (Y b) e)
 |p,.fst b d=>cZ p (.fst b d)::infos (Y b) d
 |p,.snd b d=>cZ p (.snd b d)::infos (Y b) d
 |p,.new b d=>cZ p (.new b d)::infos (Y b) d
 |p,.get b d=>cZ p (.get b d)::infos (Y b) d
 |p,.set b h d=>cZ p (.set b h d)::(infos (Y b) h++infos (Y b) d)
 |p,.add b a e=>cZ p (.add b a e)::(infos (Y b) a++infos (Y b) e)
def oU(A:Option Nat)(z:ae):infos A z=cZ A z::(kids z).flatMap (infos (Y (ag z))):=by cases z<;>simp [infos,kids,ag]
def eT:∀(z:ae) (A:Option Nat),(infos A z).length=size z:=by intro z;induction z<;>intro A<;>simp only [infos,dn,br,iP,BO,BP,oJ,oK,oL,oM,oN,oO,oP,oQ,oR,oS,oT, *]<;>lia
def sP(z:ae):List ae->Option ae
 |[]=>Y z
 |_=>O
def mD(z:ae->ae):List ae->Option ae
 |[a]=>Y (z a)
 |_=>O
def mE(z:ae->ae->ae):List ae->Option ae
 |[a,b]=>Y (z a b)
 |_=>O
def wU(z:ae->ae->ae->ae):List ae->Option ae
 |[a,b,c]=>Y (z a b c)
 |_=>O
def oV(D:Fm)(z:Nat)(A:aj):List ae->Option ae:=match D with
 |.num=>sP (.num z (hU A))
 |.used=>sP (.var z A)
 |.given=>sP (.var z du)
 |.fn=>mD (.fn z A)
 |.call=>mE (.app z)
 |.letE=>mE (.letE z A)
 |.ifz=>wU (.ifz z)
 |.pair=>mE (.pair z)
 |.fst=>mD (.fst z)
 |.snd=>mD (.snd z)
 |.new=>mD (.new z)
 |.get=>mD (.get z)
 |.set=>mE (.set z)
 |.add=>mE (.add z)
variable{No:List ae}
def BX(G:sP l No=Y py):No=[]/\l=py:=by
 cases No with
 |nil=>exists S,aS G
 |cons=>cases G
def BY{A:ae->ae}(z:mD A No=Y l):∃M,No=[M]/\A M=l:=by unfold mD at z;split at z<;>cases z;exists _,S,S
def BZ{A:ae->ae->ae}(z:mE A No=Y l):∃M N,No=[M,N]/\A M N=l:=by unfold mE at z;split at z<;>cases z;exists _,_,S,S
def B0{A:ae->ae->ae->ae}(z:wU A No=Y l):∃M N c,No=[M,N,c]/\A M N c=l:=by unfold wU at z;split at z<;>cases z;exists _,_,_,S,S
def ho(A:Nat->List aj->Option (ae×List aj))(D:Fm):Nat->Nat->Nat->List aj->Option (List ae×List aj)
 |0,_,_,ws=>Y ([],ws)
 |k+1,a,b,ws=>(if D≠.call\/a≠0 then pass [32] ws else Y ws).bind λM=>(A b M).bind λz=>(ho A D k (a+1) (b+size z.1) z.2).bind λG=>Y (z.1::G.1,G.2)
def gY:Nat->Nat->Nat->List aj->Option (ae×List aj)
 |0,_,_,_=>O
 |fuel+1,d,a,ws=>if a=30\/8<d then O else(head ws).bind λz=>
  if en z.1=I then(oV z.1 a z.2.1 []).map λA=>(A,z.2.2)
  else(ho (gY fuel (d+1)) z.1 (arity z.1) 0 (a+1) z.2.2).bind λD=>(pass [41] D.2).bind λG=>(oV z.1 a z.2.1 D.1).map λA=>(A,G)
variable{Wa:Nat->List aj->Option (ae×List aj)}
theorem wV{U:Fm}:∀{A G M:Nat} {N:List aj} {D:List ae×List aj},ho Wa U A G M N=Y D->D.1.length=A
 |0,_,_,_,_,z=>by cases z;rfl
 |A+1,G,M,N,D,z=>by
  simp only [ho]at z;let⟨b,_,z⟩:=ft.mp z;let⟨c,_,z⟩:=ft.mp z
  let⟨d,a,z⟩:=ft.mp z;cases z;simp [wV a]
def B1{D:Fm}{l:Nat}{x:aj}(A:No.length=arity D):∃G,oV D l x No=Y G:=by
 cases D<;>simp only [arity]at A<;>first
  |(obtain rfl:=kX.mp A;exists _,rfl)
  |(match No,A with|[a],_=>exists _,rfl)
  |(match No,A with|[a,b],_=>exists _,rfl)
  |(match No,A with|[a,b,c],_=>exists _,rfl)
structure Made(A:Fm)(D:Nat)(x:aj)(G:List ae)(z:ae):Prop where
 fm:aB z=A
 wd:wordOf z=x
 ks:kids z=G
 lb:ag z=D
def wW(A:Fm)(z:aj):Prop:=match A with
 |.num=>d9 (hU z)=z
 |.used=>z≠du
 |.fn=>True
 |.letE=>True
 |_=>z=[]
def lG{A:Fm}(D:oV A B sw No=Y l)(z:wW A sw):Made A B sw No l:=by
 cases A<;>first
  |let⟨rfl,rfl⟩:=BX D
  |let⟨a,rfl,rfl⟩:=BY D
  |let⟨a,b,rfl,rfl⟩:=BZ D
  |let⟨a,b,c,rfl,rfl⟩:=B0 D
 all_goals first
  |exists rfl,rfl,rfl,rfl
  |exists rfl,z.symm,rfl,rfl
  |exists rfl,z,rfl,rfl
  |exists N z,N z,rfl,rfl
  |exists ai rfl,(ai rfl).trans z.symm,rfl,rfl
def sQ:∀N:aj,isNum N=I->d9 (hU N)=N/\hU N<=99:=by
 have h:∀z A:UInt8,iT z=I->iT A=I->z≠48->d9 (hU [z,A])=[z,A]/\hU [z,A]<=99:=by
  have:∀z A:Fin 10,z≠0->d9 (hU [eZ (48+z.val),eZ (48+A.val)])=[eZ (48+z.val),eZ (48+A.val)]/\hU [eZ (48+z.val),eZ (48+A.val)]<=99:=by decide+kernel
  intro z A G U i;unfold iT at G U;simp only [bx,j5,Tj]at G U;have T:(48:UInt8).toNat=48:=rfl
  have a:(57:UInt8).toNat=57:=rfl;rw [T,a]at G U;have b:z=eZ (48+(z.toNat-48)):=by
   apply uZ.mp;rw [zL]
   cutsat
  have j:A=eZ (48+(A.toNat-48)):=by
   apply uZ.mp;rw [zL]
   cutsat
  have:=this ⟨z.toNat-48,by cutsat⟩ ⟨A.toNat-48,by cutsat⟩ (by
   intro k;have:=bD Fin.val k
   simp only [Fin.val_zero]at this;apply i;apply uZ.mp;rw [T]
   cutsat)
  simp only [<-b,<-j]at this;exact this
 have g:∀z:UInt8,iT z=I->d9 (hU [z])=[z]/\hU [z]<=99:=by
  have:∀z:Fin 10,d9 (hU [eZ (48+z.val)])=[eZ (48+z.val)]/\hU [eZ (48+z.val)]<=99:=by decide+kernel
  intro z G;unfold iT at G;simp only [bx,j5,Tj]at G;have T:(48:UInt8).toNat=48:=rfl
  have a:(57:UInt8).toNat=57:=rfl;rw [T,a]at G;have b:z=eZ (48+(z.toNat-48)):=by
   apply uZ.mp;rw [zL]
   cutsat
  have:=this ⟨z.toNat-48,by cutsat⟩;simp only [<-b]at this;exact this
 intro N D;unfold isNum at D;rw [zj]at D;rcases D with D|D
 .rw [eq_of_beq D];exact g 48 (by decide)
 .simp only [bx,j5]at D;let⟨d,M,e,f⟩:=D
  match N,d,M,e,f with
  |[],d,_,_,_=>simp at d
  |[z],_,M,_,_=>exact g z (by simpa using M)
  |[z,A],_,M,_,f=>
   simp only [iN,Tn,To,bx]at M;exact h z A M.1 M.2 (by simpa using f)
  |z::A::c::l,_,_,e,_=>simp at e
set_option tactic.hygienic true
def qT(z:head wn=Y Wf):wW Wf.1 Wf.2.1:=by
 cases wn with
 |nil=>cases z
 |cons w a=>
  simp only [head]at z;split at z
  .cases a with
   |nil=>cases z;rfl
   |cons v c=>
    simp only [eo]at z;split at z
    .cases z;rfl
    .rename_i M N;have T:=fq N
     split at z
     .rename_i D;split at z
      .split at z
       .split at z
        .cases z
        .cases z;cases M<;>first|trivial|exact absurd D (by decide)
       .cases z
      .cases z
     .rename_i D;cases z;cases M<;>first|rfl|(simp at T;done)|exact absurd rfl D
  .split at z
   .rename_i U;cases z;exact(sQ _ U).1
   .split at z
    .cases z;rfl
    .rename_i b;split at z
     .cases z;exact b
     .cases z
set_option tactic.hygienic false
set_option backward.eqns.nonrecursive false
set_option backward.eqns.deepRecursiveSplit false
def oW(z:List Info)(A:List Nat)(D:Nat):(attach z A D).length=z.length:=by unfold attach;grind
theorem sR(M:sB->sB):∀(z:List sB) (A:sB) (D:List sB),(z++A::D).modify z.length M=z++M A::D
 |[],A,D=>rfl
 |b::z,A,D=>by show b::(z++A::D).modify z.length M=_;rw [sR M z A D];rfl
theorem Mi:∀{N S A:Nat} {T:List aj} {D:ae} {U:List aj},gY N S A T=Y (D,U)->ag D=A
 |0,_,_,_,_,_,z=>by cases z
 |N+1,S,A,T,D,U,z=>by
  simp only [gY]at z;split at z
  .cases z
  .obtain⟨c,a,z⟩:=ft.mp z;split at z
   .let⟨b,G,M⟩:=cv.mp z;cases M;exact(lG G (qT a)).lb
   .let⟨d,e,z⟩:=ft.mp z;let⟨f,g,z⟩:=ft.mp z
    let⟨b,G,M⟩:=cv.mp z;cases M;exact(lG G (qT a)).lb
def Mj{pE:Nat->List aj->Option (ae×List aj)}{d1:Nat}(l:∀a G M U,pE a G=Y (M,U)->ag M=a)(m:∀(a:Nat) (G:List aj) (g:List Info) (A:List Nat),d1=A.length->a=g.length->(begin_ ⟨G,g,A⟩).bind loop=(pE a G).bind λc=>loop ⟨c.2,attach g A a++infos A.head? c.1,A⟩){fm:Fm} {x:aj} {p:Option Nat} {N0:List Info} {A:List Nat} (n:d1=A.length+1):∀(b T:Nat) (G:List aj) (D:List Nat) (z:List Info),D.length=T->T+b=arity fm->loop ⟨G,N0++⟨fm,x,p,D⟩::z,N0.length::A⟩=(ho pE fm b T (N0.length+1+z.length) G).bind λd=>(pass [41] d.2).bind λU=>loop ⟨U,N0++⟨fm,x,p,D++d.1.map ag⟩::(z++d.1.flatMap (infos (Y N0.length))),A⟩:=by
 intro b;induction b with
 |zero=>
  intro T G D z e i;rw [qS,N (by simp)];have h:(N0++(⟨fm,x,p,D⟩:Info)::z)[N0.length]?=Y ⟨fm,x,p,D⟩:=by rw [hu (aR _),kd];rfl
  simp only [hE,h];rw [ai (by rw [e];exact i)];simp only [ho,gg];cases pass [41] G with
  |none=>rfl
  |some U=>simp
 |succ b o=>
  intro T G D z e i;rw [qS,N (by simp)];have h:(N0++(⟨fm,x,p,D⟩:Info)::z)[N0.length]?=Y ⟨fm,x,p,D⟩:=by rw [hu (aR _),kd];rfl
  simp only [hE,h];rw [N (show¬D.length=arity fm by lia)];have j:(fm≠.call\/D≠[])↔(fm≠.call\/T≠0):=by refine rK rN ?_;rw [<-e];exact not_congr kX.symm
  have q:(if fm≠.call\/D≠[]then pass [32] G else Y G)=(if fm≠.call\/T≠0 then pass [32] G else Y G):=by
   by_cases f:fm≠.call\/T≠0
   .rw [ai f,ai (j.mpr f)]
   .rw [N f,N λr=>f (j.mp r)]
  simp only [ho];rw [q];cases y:(if fm≠.call\/T≠0 then pass [32] G else Y G)with
  |none=>rfl
  |some U=>
   simp only [gg];have s:(N0++(⟨fm,x,p,D⟩:Info)::z).length=N0.length+1+z.length:=by simp;lia
   rw [m (N0.length+1+z.length) U (N0++⟨fm,x,p,D⟩::z) (N0.length::A) (by simpa using n) s.symm];cases t:pE (N0.length+1+z.length) U with
   |none=>rfl
   |some c=>
    let⟨M,k⟩:=c;simp only [gg,Tp];have u:=l _ _ _ _ t
    have v:attach (N0++(⟨fm,x,p,D⟩:Info)::z) (N0.length::A) (N0.length+1+z.length)++infos (Y N0.length) M=N0++⟨fm,x,p,D++[ag M]⟩::(z++infos (Y N0.length) M):=by simp only [attach];rw [sR,u];simp
    rw [v,o (T+1) k (D++[ag M]) (z++infos (Y N0.length) M) (by simp [e]) (by lia)];have w:N0.length+1+(z++infos (Y N0.length) M).length=N0.length+1+z.length+size M:=by
     rw [br,eT]
     lia
    rw [w];cases ho pE fm b (T+1) (N0.length+1+z.length+size M) k with
    |none=>rfl
    |some d=>simp [ck]
theorem sim:∀(a c T:Nat) (U:List aj) (G:List Info) (z:List Nat),9<=a+c->c=z.length->T=G.length->(begin_ ⟨U,G,z⟩).bind loop=(gY a c T U).bind λD=>loop ⟨D.2,attach G z T++infos z.head? D.1,z⟩
 |0,c,T,U,G,z,i,hd,f=>by unfold begin_;rw [ai (.inr (by show 8<z.length;lia))];rfl
 |a+1,c,T,U,G,z,i,hd,f=>by
  unfold begin_;simp only [gY];rw [hd,f];by_cases e:G.length=30\/8<z.length
  .rw [ai e,ai e];rfl
  .rw [N e,N e];cases j:head U with
   |none=>rfl
   |some D=>
    simp only [l8,gg];have g:=qT j
    by_cases b:en D.1=I
    .rw [ai b,ai b];have k:([]:List ae).length=arity D.1:=by
      cases m:D.1<;>rw [m]at b<;>first|rfl|exact absurd b (by decide)
     let⟨n,d⟩:=B1 (l:=G.length) (x:=D.2.1) k;have M:=lG d g
     rw [d];simp only [l8,gg];rw [oU,M.ks];unfold cZ;rw [M.fm,M.wd,M.ks];rfl
    .rw [N b,N b];have h:=Mj (pE:=gY a (z.length+1)) (d1:=z.length+1) (λ_ _ _ _ o=>Mi o) (λT U G q r s=>sim a (z.length+1) T U G q (by lia) r s)
      (fm:=D.1) (x:=D.2.1) (p:=z.head?) (N0:=attach G z G.length) (A:=z) S (arity D.1) 0 D.2.2 [] [] S (by lia)
     rw [oW]at h;have t:attach G z G.length++[(⟨D.1,D.2.1,z.head?,[]⟩:Info)]=attach G z G.length++(⟨D.1,D.2.1,z.head?,[]⟩:Info)::[]:=rfl
     rw [t,h];simp only [iP,j9,dh];cases u:ho (gY a (z.length+1)) D.1 (arity D.1) 0 (G.length+1) D.2.2 with
     |none=>rfl
     |some v=>
      simp only [gg];cases w:pass [41] v.2 with
      |none=>rfl
      |some y=>
       simp only [gg];let⟨n,d⟩:=B1 (l:=G.length) (x:=D.2.1) (wV u);have M:=lG d g
       rw [d];simp only [l8,gg];rw [oU,M.ks,M.lb];unfold cZ;rw [M.fm,M.wd,M.ks]
def runM(A:List aj):Option (List Info):=((begin_ ⟨A,[],[]⟩).bind loop).bind λz=>if z.ws=[]then Y z.nodes else O
def Ml(z:List aj):runM z=(gY 9 0 0 z).bind λA=>if A.2=[]then Y (infos O A.1)else O:=by
 unfold runM;rw [sim 9 0 0 z [] [] (by lia) S rfl];cases gY 9 0 0 z with
 |none=>rfl
 |some A=>
  simp [gg,attach,List.head?_nil,dh];rw [qS,ai S];rfl
def hF(z:Fm)(A:aj):List aj:=if en z=I then(if z=.given then [du]else [A])else if z=.call then [[40]]else if isBinder z=I then [[40],fz z,[32],A]else [[40],fz z]
def dy(z:Fm):Nat->List (List aj)->List aj
 |_,[]=>[]
 |j,w::a=>(if z≠.call\/j≠0 then [[32]]else [])++(w++dy z (j+1) a)
def aY:ae->List aj
 |.num _ n=>[d9 n]
 |.var _ x=>[x]
 |.fn _ x d=>[40]::az "fun"::[32]::x::[32]::(aY d++[[41]])
 |.app _ e a=>[40]::(aY e++[32]::(aY a++[[41]]))
 |.letE _ x b d=>[40]::az "let"::[32]::x::[32]::(aY b++[32]::(aY d++[[41]]))
 |.ifz _ c f b=>[40]::az "if"::[32]::(aY c++[32]::(aY f++[32]::(aY b++[[41]])))
 |.pair _ a d=>[40]::az "pair"::[32]::(aY a++[32]::(aY d++[[41]]))
 |.fst _ b=>[40]::az "fst"::[32]::(aY b++[[41]])
 |.snd _ b=>[40]::az "snd"::[32]::(aY b++[[41]])
 |.new _ b=>[40]::az "new"::[32]::(aY b++[[41]])
 |.get _ b=>[40]::az "get"::[32]::(aY b++[[41]])
 |.set _ g b=>[40]::az "set"::[32]::(aY g++[32]::(aY b++[[41]]))
 |.add _ a d=>[40]::az "add"::[32]::(aY a++[32]::(aY d++[[41]]))
def qU(A:ae):en (aB A)=I↔(∃z D,A=.num z D)\/∃z G,A=.var z G:=by
 cases A with
 |num z D=>exists λ_=>.inl ⟨z,D,S⟩,λ_=>S
 |var z G=>
  exists λ_=>.inr ⟨z,G,S⟩,λ_=>?_;simp [aB];split<;>rfl
 |_=>exact⟨λM=>ih (show ao=I from M),λM=>by grind⟩
def B2(M:en (aB l)=I):aY l=hF (aB l) (wordOf l):=by
 rcases(qU l).mp M with⟨A,U,rfl⟩|⟨A,x,rfl⟩
 .rfl
 .by_cases D:x=du
  .have G:aB (.var A x)=.given:=ai D;rw [G,D];rfl
  .have G:aB (.var A x)=.used:=N D;have T:wordOf (.var A x)=x:=N D
   rw [G,T];rfl
def oX(A:¬en (aB l)=I):aY l=hF (aB l) (wordOf l)++(dy (aB l) 0 ((kids l).map aY)++[[41]]):=by
 cases l with
 |num a n=>exact absurd rfl A
 |var a x=>exact absurd ((qU _).mpr (.inr ⟨a,x,S⟩)) A
 |_=>simp [aY,aB,wordOf,hF,en,isBinder,fz,kids,dy]
def kw_none{t:aj}:(ee t).isNone= !nX.contains t:=by
 have z:nX=[Fm.fn,.letE,.ifz,.pair,.fst,.snd,.new,.get,.set,.add].map fz:=by decide
 grind [ee]
def oY(z:aj):h4 z=gD z:=by grind [h4,gD,kw_none,Vo]
def B3(A:B<=99):isNum (d9 B)=I/\hU (d9 B)=B:=by
 have:∀B:Fin 100,isNum (d9 B)=I/\hU (d9 B)=B.val:=by decide+kernel
 exact this ⟨B,by lia⟩
def oZ:ae->Bool
 |.num _ n=>decide (n<=99)
 |.var _ x=>gD x
 |.fn _ x _=>gD x&&x !=du
 |.letE _ x _ _=>gD x&&x !=du
 |_=>I
def mH(z:ae):bo z=I↔oZ z=I/\∀D∈kids z,bo D=I:=by cases z<;>(try exists λA=>⟨A,λ_ G=>(nomatch G)⟩,λA=>A.1)<;>simp [bo,oZ,kids,Vp,bx,bg,gR,g8,forall_eq_or_imp,forall_eq,false_implies,implies_true,and_true,true_and,and_assoc,u9]
def B4(z:py∈kids l):dH py<dH l:=by
 cases l<;>simp only [kids,bg,gR,g8]at z<;>try exact z.elim
 all_goals simp only [dH]
 all_goals first
  |(subst z;cutsat)
  |(rcases z with rfl|rfl<;>cutsat)
  |(rcases z with rfl|rfl|rfl<;>cutsat)
def Mm(D:∀G∈kids l,dH G<=B):dH l<=B+1:=by cases l<;>simp only [kids,bg,gR,g8,forall_eq_or_imp,forall_eq]at D<;>simp only [dH]<;>cutsat
def B5(A:en (aB l)=I):dH l=0/\size l=1/\kids l=[]:=by rcases(qU l).mp A with⟨D,G,rfl⟩|⟨D,x,rfl⟩<;>exists rfl,rfl,rfl
def qV:pass sw wn=Y V5↔wn=sw::V5:=by
 cases wn with
 |nil=>simp [pass]
 |cons w a=>
  grind [pass]
set_option tactic.hygienic true
def Mn{D:Fm}(A:head wn=Y (D,sw,V5)):wn=hF D sw++V5/\(D=.num->isNum sw=I)/\(D=.used->h4 sw=I)/\(isBinder D=I->h4 sw=I/\sw≠du):=by
 cases wn with
 |nil=>cases A
 |cons w a=>
  simp [head]at A;split at A
  .rename_i d;subst d;cases a with
   |nil=>cases A;exists S,(λz=>nomatch z),(λz=>nomatch z),λz=>absurd z (by decide)
   |cons v a=>
    simp [eo]at A;split at A
    .cases A;exists S,(λz=>nomatch z),(λz=>nomatch z),λz=>absurd z (by decide)
    .rename_i e b;have f:=fq b
     have c:fz e=v:=by simpa using mb b
     split at A
     .rename_i M;split at A
      .split at A
       .rename_i g;split at A
        .cases A
        .rename_i h;cases A;subst g c;exists ?_,?_,?_,λ_=>⟨?_,λz=>h (.inl z)⟩
         .cases D<;>first|rfl|exact absurd M (by decide)
         .intro z;simp_all
         all_goals grind
       .cases A
      .cases A
     .rename_i M;cases A;subst c;exists ?_,?_,?_,λz=>absurd z M
      .cases D<;>first|rfl|(simp at f;done)|exact absurd rfl M
      .intro z;simp_all
      .intro z;simp_all
  .split at A
   .rename_i T;cases A;exists S,λ_=>T,(λz=>nomatch z),λz=>absurd z (by decide)
   .split at A
    .rename_i i;cases A;rw [i];exists S,(λz=>nomatch z),(λz=>nomatch z),λz=>absurd z (by decide)
    .split at A
     .rename_i T;cases A;exists S,(λz=>nomatch z),λ_=>T,λz=>absurd z (by decide)
     .cases A
set_option tactic.hygienic false
structure Reads(d A:Nat)(z:ae):Prop where
 told:bo z=I
 deep:d+dH z<=8
 sz:A+size z<=30
 qW:bJ z=cj A (size z)
set_option tactic.hygienic true
theorem wX{e:Fm}(g:∀z M G N,z<=30->Wa z M=Y (G,N)->M=aY G++N/\Reads B z G):∀(b T z:Nat) (M:List aj) (D:List ae) (N:List aj),z<=30->ho Wa e b T z M=Y (D,N)->M=dy e T (D.map aY)++N/\(∀G∈D,bo G=I/\B+dH G<=8)/\D.flatMap bJ=cj z ((D.map size).sum)/\(D≠[]->z+(D.map size).sum<=30)
 |0,T,z,M,D,N,a,A=>by cases A;exists S,(λ_ c=>nomatch c),S,λc=>absurd rfl c
 |b+1,T,z,M,D,N,a,A=>by
  simp only [ho]at A;let⟨s,h,A⟩:=ft.mp A;let⟨⟨G,k⟩,l,A⟩:=ft.mp A
  let⟨⟨i,m⟩,n,A⟩:=ft.mp A;cases A;let⟨o,U⟩:=g _ _ _ _ a l
  let⟨p,t,q,u⟩:=wX g b (T+1) (z+size G) k i m U.sz n;exists ?_,λv j=>?_,?_,λ_=>?_
  .simp [aZ,dy];split at h
   .rename_i a;rw [ai a,qV.mp h,o,p];simp
   grind
  .rcases bg.mp j with rfl|j
   .exact⟨U.told,U.deep⟩
   grind
  .rw [b3,U.qW,q,aZ,eC,kc]
  .rw [aZ,eC];by_cases r:i=[]
   .subst r;have:=U.sz
    simp
    lia
   grind
theorem sS:∀(i b N:Nat) (d:List aj) (A:ae) (e:List aj),N<=30->gY i b N d=Y (A,e)->d=aY A++e/\Reads b N A
 |0,_,_,_,_,_,_,z=>by cases z
 |i+1,b,N,d,A,e,R,z=>by
  simp only [gY]at z;split at z
  .cases z
  .rename_i V;let⟨⟨f,j,W⟩,o,z⟩:=ft.mp z;let⟨p,B,C,q⟩:=Mn o;have r:wW f j:=qT o
   dsimp only at z;have s:∀{T:List ae} {A:ae},oV f N j T=Y A->oZ A=I:=by
    intro T A G;cases f<;>first
     |let⟨rfl,rfl⟩:=BX G
     |let⟨t,rfl,rfl⟩:=BY G
     |let⟨t,E,rfl,rfl⟩:=BZ G
     |let⟨t,E,c,rfl,rfl⟩:=B0 G
    all_goals try rfl
    all_goals simp only [oZ]
    .exact cq (sQ j (B S)).2
    .rw [<-oY];exact C S
    .obtain⟨k,l⟩:=q S;rw [<-oY,k];simpa using l
    .obtain⟨k,l⟩:=q S;rw [<-oY,k];simpa using l
   split at z
   .rename_i g;let⟨F,G,U⟩:=cv.mp z;cases U;have D:=lG G r
    have h:en (aB A)=I:=by rw [D.fm];exact g
    let⟨X,u,v⟩:=B5 h;exists by rw [B2 h,D.fm,D.wd];exact p,(mH A).mpr ⟨s G,by rw [v];exact(λ_ U=>nomatch U)⟩,by lia,?_,?_
    .rw [u];lia
    .rw [dI,v,u,D.lb];rfl
   .rename_i g;let⟨⟨T,ab⟩,w,z⟩:=ft.mp z;let⟨ad,x,z⟩:=ft.mp z;let⟨F,G,U⟩:=cv.mp z;cases U;have D:=lG G r
    have h:¬en (aB A)=I:=by rw [D.fm];exact g
    let⟨H,m,K,L⟩:=wX (λN d A e P z=>sS i (b+1) N d A e P z) _ _ _ _ _ _ (by lia) w;have n:T.length=arity f:=wV w
    dsimp only at G x D;have y:T≠[]:=by intro U;rw [U]at n;cases Q:f<;>rw [Q]at n g<;>first|(simp [arity]at n;done)|exact absurd rfl g
    have hsz:Cf.size A=1+(T.map Cf.size).sum:=by rw [size_eq,D.ks]
    exists ?_,(mH A).mpr ⟨s G,λa M=>?_⟩,?_,?_,?_
    .rw [oX h,D.fm,D.wd,D.ks];rw [p,H,qV.mp x];simp
    .rw [D.ks]at M;exact(m a M).1
    .have M:∀a∈kids A,dH a<=7-b:=λa M=>by
      rw [D.ks]at M;have:=(m a M).2
      lia
     have al:b<=7:=by
      let⟨a,M⟩:=List.exists_mem_of_ne_nil T y;have:=(m a M).2
      lia
     have:=Mm M
     lia
    .have:=L y;rw [hsz];lia
    .rw [dI,D.ks,D.lb,K,hsz,zJ 1,nP]
def Mo:∀z:ae,bo z=I->∃D N,aY z=D::N/\ee D=O:=by
 intro z G;have M:∀A:aj,nX.contains A=ao->ee A=O:=λA T=>by have:=kw_none (t:=A);simp_all
 cases z
 case num a n=>exists _,_,S,M _ (kA (d6 G)).2.2.2.2
 case var a x=>exists _,_,S,M _ (BR G)
 all_goals exact⟨_,_,S,by decide⟩
set_option tactic.hygienic false
def Mp(A:gD sw=I):isNum sw=ao:=by
 cases a:isNum sw with
 |false=>rfl
 |true=>
  have:=(sQ sw a).1;grind [name_num,kA,sQ]
def B6(f:bo l=I)(z:List aj)(g:aB l=.call->∃D G,z=D::G/\ee D=O):head (hF (aB l) (wordOf l)++z)=Y (aB l,wordOf l,z):=by
 let⟨hw,_⟩:=(mH l).mp f;cases l with
 |num b n=>
  have h:n<=99:=d6 hw;show head (d9 n::z)=Y (.num,d9 n,z)
  simp_all [head,kA,B3]
 |var b x=>
  have hw:gD x=I:=hw;by_cases M:x=du
  .have T:aB (.var b x)=.given:=ai M;have U:wordOf (.var b x)=[]:=ai M
   rw [T,U];show head (du::z)=Y (.given,[],z)
   rw [head,N (by decide),N (by decide),ai S]
  .have T:aB (.var b x)=.used:=N M;have U:wordOf (.var b x)=x:=N M
   rw [T,U];show head (x::z)=Y (.used,x,z)
   simp_all [head,sN,Mp,oY]
 |fn b x e=>
  simp only [oZ,bx,u9]at hw;show head ([40]::az "fun"::[32]::x::z)=Y (.fn,x,z)
  rw [head,ai S];simp only [eo,show ee (az "fun")=Y .fn by decide,isBinder,eQ];simp_all [oY]
 |letE b x d e=>
  simp only [oZ,bx,u9]at hw;show head ([40]::az "let"::[32]::x::z)=Y (.letE,x,z)
  rw [head,ai S];simp only [eo,show ee (az "let")=Y .letE by decide,isBinder,eQ];simp_all [oY]
 |app b i a=>
  let⟨D,G,rfl,j⟩:=g S;show head ([40]::D::G)=Y (.call,[],D::G)
  rw [head,ai S];grind [eo]
 |ifz b c k d=>show head ([40]::az "if"::z)=_;rw [head,ai S];simp [eo,show ee (az "if")=Y .ifz by decide,isBinder,aB,wordOf]
 |pair b a e=>show head ([40]::az "pair"::z)=_;rw [head,ai S];simp [eo,show ee (az "pair")=Y .pair by decide,isBinder,aB,wordOf]
 |fst b a=>show head ([40]::az "fst"::z)=_;rw [head,ai S];simp [eo,show ee (az "fst")=Y .fst by decide,isBinder,aB,wordOf]
 |snd b a=>show head ([40]::az "snd"::z)=_;rw [head,ai S];simp [eo,show ee (az "snd")=Y .snd by decide,isBinder,aB,wordOf]
 |new b a=>show head ([40]::az "new"::z)=_;rw [head,ai S];simp [eo,show ee (az "new")=Y .new by decide,isBinder,aB,wordOf]
 |get b a=>show head ([40]::az "get"::z)=_;rw [head,ai S];simp [eo,show ee (az "get")=Y .get by decide,isBinder,aB,wordOf]
 |set b a e=>show head ([40]::az "set"::z)=_;rw [head,ai S];simp [eo,show ee (az "set")=Y .set by decide,isBinder,aB,wordOf]
 |add b a e=>show head ([40]::az "add"::z)=_;rw [head,ai S];simp [eo,show ee (az "add")=Y .add by decide,isBinder,aB,wordOf]
def Mq(G:bo l=I):oV (aB l) (ag l) (wordOf l) (kids l)=Y l/\(kids l).length=arity (aB l):=by
 cases l with
 |num a n=>
  have T:n<=99:=d6 G;exists ?_,S;show Y (Vq a (hU (d9 n)))=_
  grind [B3]
 |var a x=>
  by_cases A:x=du
  .have D:aB (.var a x)=.given:=ai A;rw [D,A];exists S,S
  .have D:aB (.var a x)=.used:=N A;have M:wordOf (.var a x)=x:=N A
   rw [D,M];exists S,S
 |_=>exists S,S
theorem B7{M:Fm}:∀(A:List ae) (D G:Nat) (T:List aj),(∀(z:ae) (c:Nat) (U:List aj),z∈A->bJ z=cj c (size z)->G<=c->c+size z<=G+(A.map size).sum->Wa c (aY z++U)=Y (z,U))->A.flatMap bJ=cj G ((A.map size).sum)->ho Wa M A.length D G (dy M D (A.map aY)++T)=Y (A,T)
 |[],D,G,T,_,_=>rfl
 |z::A,D,G,T,H,a=>by
  rw [b3,aZ,eC]at a;have e:cj G (size z+(A.map size).sum)=cj G (size z)++cj (G+size z) ((A.map size).sum):=by rw [kc]
  rw [e]at a;let⟨f,g⟩:=mc a (by rw [gX,qc]);simp only [dn,aZ,dy,ho];have h:(if M≠.call\/D≠0 then pass [32] ((if M≠.call\/D≠0 then [[32]]else [])++(aY z++dy M (D+1) (A.map aY))++T)else Y ((if M≠.call\/D≠0 then [[32]]else [])++(aY z++dy M (D+1) (A.map aY))++T))=Y (aY z++(dy M (D+1) (A.map aY)++T)):=by
   by_cases d:M≠.call\/D≠0
   .simp only [ai d];exact qV.mpr (by simp)
   .simp only [N d];simp
  rw [h];simp only [gg];rw [H z G _ bE f (aR _) (by rw [aZ,eC];lia)];simp only [gg];rw [B7 A (D+1) (G+size z) T (λi c U j k l m=>H i c U (bC _ j) k (by lia) (by rw [aZ,eC];lia)) g];rfl
def B8:∀(U:Nat) (z:ae),gf z<=U->∀(G b T:Nat) (A:List aj),Reads b T z->dH z<G->gY G b T (aY z++A)=Y (z,A):=by
 intro U;induction U with
 |zero=>intro z i;cases z<;>simp at i
 |succ U n=>
  intro z i G b T A D F;obtain⟨G,rfl⟩:∃o,G=o+1:=⟨G-1,by lia⟩
  have j:ag z=T:=by
   have:=D.qW;rw [dI]at this;obtain⟨k,p⟩:∃k,size z=k+1:=⟨size z-1,by have:=size_pos z;lia⟩
   rw [p,nP]at this;exact(p5 this).1
  have hsz:=size_pos z;have H:=D.sz
  have K:=D.deep;let⟨d,q⟩:=Mq D.told;simp only [gY];rw [N (by lia)];by_cases M:en (aB z)=I
  .rw [B2 M,B6 D.told A (λr=>by rw [r]at M;exact absurd M (by decide))];simp only [gg];rw [ai M];have s:=(B5 M).2.2
   rw [s,j]at d;rw [d];rfl
  .rw [oX M];have l:=((mH z).mp D.told).2
   have t:head (hF (aB z) (wordOf z)++(dy (aB z) 0 ((kids z).map aY)++([41]::A)))=Y (aB z,wordOf z,dy (aB z) 0 ((kids z).map aY)++([41]::A)):=by
    refine B6 D.told _ λe=>?_;cases z with
    |app u f a=>
     let⟨v,g,w,y⟩:=Mo f (l f (by simp [kids]));exists v,g++(dy .call 1 [aY a]++([41]::A)),?_,y;show dy .call 0 [aY f,aY a]++([41]::A)=_
     simp only [dy,w];simp
    |var u x=>
     simp only [aB]at e;split at e<;>cases e
    |_=>cases e
   have B:hF (aB z) (wordOf z)++(dy (aB z) 0 ((kids z).map aY)++[[41]])++A=hF (aB z) (wordOf z)++(dy (aB z) 0 ((kids z).map aY)++([41]::A)):=by simp
   rw [B,t];simp only [gg];rw [N M,<-q];have C:(kids z).flatMap bJ=cj (T+1) (((kids z).map size).sum):=by have:=D.qW;rw [dI,size_eq,zJ 1,nP]at this;exact(p5 this).2
   have L:size z=1+((kids z).map size).sum:=size_eq z;rw [B7 (kids z) 0 (T+1) ([41]::A) (λm c g h E P Q=>?_) C]
   .simp only [gg];rw [qV.mpr S];simp only [gg];rw [j]at d;rw [d];rfl
   .have R:=B4 h;have V:=h3 h
    exact n m (by lia) G (b+1) c g ⟨l m h,by lia,by lia,E⟩ (by lia)
def Mr:∀(S:ae),bo S=I->∀A,ends A->bY [] (bq S++A)=aY S++bY [] A:=by
 have M:fH 40=I:=by decide
 have N:fH 41=I:=by decide
 have D:fH 32=I:=by decide
 intro S;induction S with
 |num b n=>intro z A G;exact hD (kA (d6 z)).1 G
 |var b x=>intro z A G;exact hD (lE z) G
 |fn b x g h=>
  intro z A G;simp only [bo,bx]at z;show bY [] (40::(az "fun"++([32]++(x++([32]++bq g)))++[41])++A)=_
  simp only [dg,ck,dh];rw [dm M,hD (by decide) (ey _),dm D,hD (lE z.1) (ey _),dm D,h z.2.2 _ (fg A),dm N];simp [aY]
 |app b i a e f=>
  intro z A G;simp only [bo,bx]at z;show bY [] (40::(bq i++([32]++bq a)++[41])++A)=_
  simp_all [dm,ey,fg,aY]
 |letE b x d g e f=>
  intro z A G;simp only [bo,bx]at z;show bY [] (40::(az "let"++([32]++(x++([32]++(bq d++([32]++bq g)))))++[41])++A)=_
  simp only [dg,ck,dh];rw [dm M,hD (by decide) (ey _),dm D,hD (lE z.1) (ey _),dm D,e z.2.2.1 _ (ey _),dm D,f z.2.2.2 _ (fg A),dm N];simp [aY]
 |ifz b c j d e f k=>
  intro z A G;simp only [bo,bx]at z;show bY [] (40::(az "if"++([32]++(bq c++([32]++(bq j++([32]++bq d)))))++[41])++A)=_
  simp only [dg,ck,dh];rw [dm M,hD (by decide) (ey _),dm D,e z.1 _ (ey _),dm D,f z.2.1 _ (ey _),dm D,k z.2.2 _ (fg A),dm N];simp [aY]
 |pair b a g e f=>
  intro z A G;simp only [bo,bx]at z;show bY [] (40::(az "pair"++([32]++(bq a++([32]++bq g)))++[41])++A)=_
  simp only [dg,ck,dh];rw [dm M,hD (by decide) (ey _),dm D,e z.1 _ (ey _),dm D,f z.2 _ (fg A),dm N];simp [aY]
 |set b a g e f=>
  intro z A G;simp only [bo,bx]at z;show bY [] (40::(az "set"++([32]++(bq a++([32]++bq g)))++[41])++A)=_
  simp only [dg,ck,dh];rw [dm M,hD (by decide) (ey _),dm D,e z.1 _ (ey _),dm D,f z.2 _ (fg A),dm N];simp [aY]
 |add b a g e f=>
  intro z A G;simp only [bo,bx]at z;show bY [] (40::(az "add"++([32]++(bq a++([32]++bq g)))++[41])++A)=_
  simp only [dg,ck,dh];rw [dm M,hD (by decide) (ey _),dm D,e z.1 _ (ey _),dm D,f z.2 _ (fg A),dm N];simp [aY]
 |fst b d h=>
  intro z A G;show bY [] (40::(az "fst"++([32]++bq d)++[41])++A)=_
  simp only [dg,ck,dh];rw [dm M,hD (by decide) (ey _),dm D,h z _ (fg A),dm N];simp [aY]
 |snd b d h=>
  intro z A G;show bY [] (40::(az "snd"++([32]++bq d)++[41])++A)=_
  simp only [dg,ck,dh];rw [dm M,hD (by decide) (ey _),dm D,h z _ (fg A),dm N];simp [aY]
 |new b d h=>
  intro z A G;show bY [] (40::(az "new"++([32]++bq d)++[41])++A)=_
  simp only [dg,ck,dh];rw [dm M,hD (by decide) (ey _),dm D,h z _ (fg A),dm N];simp [aY]
 |get b d h=>
  intro z A G;show bY [] (40::(az "get"++([32]++bq d)++[41])++A)=_
  simp only [dg,ck,dh];rw [dm M,hD (by decide) (ey _),dm D,h z _ (fg A),dm N];simp [aY]
def e6(z:UInt8):Bool:=fH z||(iT z||kZ z)
def norm(z:UInt8):UInt8:=if e6 z=I then z else 63
def Ms(A:(sw.all kZ)=I):(sw.all e6)=I:=by grind [e6]
def wY(z:gD Do=I):(Do.all e6)=I:=by unfold gD at z;simp only [bx]at z;exact Ms z.2.2.1
def Mt(A:B<=99):((d9 B).all e6)=I:=by
 have:∀B:Fin 100,((d9 B).all e6)=I:=by decide+kernel
 exact this ⟨B,by lia⟩
def wZ:∀(N:ae),bo N=I->((bq N).all e6)=I:=by
 have M:∀z:List aj,(∀G∈z,(G.all e6)=I)->((Hf z).all e6)=I:=by
  intro z U;have h:((va z).all e6)=I:=by
   unfold va;induction z with
   |nil=>rfl
   |cons G i b=>
    cases i with
    |nil=>exact U G bE
    |cons u j=>
     show((G++([32]++Hg [32] (u::j))).all e6)=I;rw [zM,zM,U G bE,b λT k=>U T (bC _ k)];decide
  show((40::(va z++[41])).all e6)=I;rw [iN,zM,h];decide
 intro N;induction N with
 |num z n=>intro A;exact Mt (d6 A)
 |var z T=>intro A;exact wY A
 |fn z T l b=>
  intro A;simp [bo,bx]at A;refine M _ λG D=>?_;simp [bg,gR,g8]at D;rcases D with rfl|rfl|rfl
  .decide
  all_goals grind [wY]
 |letE z T d l e f=>
  intro A;simp [bo,bx]at A;refine M _ λG D=>?_;simp [bg,gR,g8]at D;rcases D with rfl|rfl|rfl|rfl
  .decide
  all_goals grind [wY]
 |ifz z c G d e f m=>
  intro A;simp [bo,bx]at A;refine M _ λG D=>?_;simp [bg,gR,g8]at D;rcases D with rfl|rfl|rfl|rfl
  .decide
  all_goals grind
 |app z g a e f=>
  intro A;simp [bo,bx]at A;refine M _ λG D=>?_;grind
 |pair z g a e f|set z g a e f|add z g a e f=>
  intro A;simp [bo,bx]at A;refine M _ λG D=>?_;simp [bg,gR,g8]at D;rcases D with rfl|rfl|rfl
  .decide
  all_goals grind
 |fst z d b|snd z d b|new z d b|get z d b=>
  intro A;refine M _ λG D=>?_;simp [bg,gR,g8]at D;rcases D with rfl|rfl
  .decide
  .exact b A
def B9(A:(sw.all e6)=I):sw.map norm=sw:=by
 rw [js]at A;have:sw.map norm=sw.map id:=gE λD G=>by simp_all [norm]
 simp_all
theorem Ca:∀{z u:aj},z.map norm=u->(u.all e6)=I->z=u
 |[],u,a,_=>by grind
 |b::z,[],a,_=>by cases a
 |b::z,c::u,a,d=>by
  rw [iN,bx]at d;rw [aZ]at a;let⟨A,D⟩:=p5 a;rw [Ca D d.2];have:b=c:=by
   unfold norm at A;split at A
   .exact A
   .rw [<-A]at d;exact absurd d.1 (by decide)
  rw [this]
def w0(A:bo l=I):bY [] (bq l)=aY l:=by
 have:=Mr l A [] (.inl S);rw [b0]at this;rw [this];show aY l++[]=aY l
 grind
set_option tactic.hygienic true
variable{wT:List Info}
def w1:runM (bY [] (sw.map norm))=Y wT↔∃z,bo z=I/\bq z=sw/\size z<=30/\dH z<=8/\aW 0 z=z/\wT=infos O z:=by
 rw [Ml];constructor
 .intro a;let⟨⟨z,f⟩,D,G⟩:=ft.mp a;dsimp only at G;split at G
  .rename_i b;subst b;cases G;let⟨T,A⟩:=sS 9 0 0 _ z [] (by lia) D;rw [b0]at T;have U:=bD List.flatten T
   rw [qQ,dh,<-w0 A.told,qQ,dh]at U;exists z,A.told,(Ca U (wZ z A.told)).symm,by have:=A.sz;lia,by have:=A.deep;lia,wO z 0 A.qW,S
  .cases G
 .rintro⟨z,D,rfl,g,h,d,rfl⟩;rw [B9 (wZ z D),w0 D];have e:bJ z=cj 0 (size z):=by
   have:=lF z 0;rw [d]at this;exact this
  have c:=B8 (gf z) z (aR _) 9 0 0 [] ⟨D,by lia,by lia,e⟩ (by lia);rw [b0]at c;rw [c];rfl
set_option tactic.hygienic false
def up(z:List Info)(A:aj):Nat->Nat->Option Nat->Option Nat
 |0,_,_=>O
 |_+1,_,O=>O
 |f+1,a,Y o=>match z[o]? with
  |none=>O
  |some i=>if i.word=A/\i.parts.getLast?=Y a then Y o else up z A f o i.parent
structure jc(ns:List Info)(p:Option Nat)(z:ae):Prop where
 top:ns[ag z]?=Y (cZ p z)
 o1:∀y∈aG z,∀k∈kids y,ns[ag k]?=Y (cZ (Y (ag y)) k)
variable{VX:Option Nat}
theorem jc.sub(G:jc wT VX l)(M:py∈kids l):jc wT (Y (ag l)) py:=
 ⟨G.o1 l (gW l) py M,λy S=>G.o1 y (sM (i6 (gW l) M) y S)⟩
def Mu(U:wT[ag l]?=Y (cZ VX l))(N:∀D∈kids l,jc wT (Y (ag l)) D):jc wT VX l:=by
 exists U,λy z D T=>?_;rw [gn]at z;rcases bg.mp z with rfl|z
 .exact(N D T).top
 .let⟨a,b,z⟩:=di.mp z;exact(N a b).o1 y z D T
variable{ww:List Nat}
def sT(M:bJ l++ww=cj B wE)(N:size l<=wE):bJ l=cj B (size l)/\ww=cj (B+size l) (wE-size l):=by grind [kc,mc,gX]
def kB(D:bJ l=cj B (size l)):ag l=B/\(kids l).flatMap bJ=cj (B+1) (((kids l).map size).sum):=by grind [dI,size_eq,nP]
def Mv:∀(M:Nat) (z:ae),gf z<=M->∀(A:Nat) (N:Option Nat) (pre post:List Info),pre.length=A->bJ z=cj A (size z)->jc (pre++(infos N z++post)) N z:=by
 intro M;induction M with
 |zero=>intro z d;cases z<;>simp at d
 |succ M o=>
  intro z d A N pre post e i;let⟨f,j⟩:=kB i
  refine Mu ?_ ?_
  .rw [f,oU,hu (by lia),e,kd];rfl
  .rw [oU,f];have walk:∀(D:List ae) (c:Nat) (T:List Info) (U:List Info),(∀G∈D,G∈kids z)->T.length=c->D.flatMap bJ=cj c ((D.map size).sum)->∀G∈D,jc (T++(D.flatMap (infos (Y A))++U)) (Y A) G:=by
    intro D;induction D with
    |nil=>grind
    |cons a p k=>
     intro c T U g q h G b;rw [b3,aZ,eC]at h;let⟨r,s⟩:=sT h (by lia)
     rw [b3];rcases bg.mp b with rfl|b
     .have t:=h3 (g G bE);grind
     .have:=k (c+size a) (T++infos (Y A) a) U (λl m=>g l (bC _ m)) (by grind [eT]) (by grind) G b;grind
   have:=walk (kids z) (A+1) (pre++[cZ N z]) post (λ_ n=>n) (by simp [e]) j;grind
def sU(A:aW 0 l=l):jc (infos O l) O l:=by
 have D:bJ l=cj 0 (size l):=by have:=lF l 0;rw [A]at this;exact this
 have:=Mv (gf l) l (aR _) 0 O [] [] S D;grind
structure Row(z:ae)(n:Nat):Prop where
 row:bJ z=cj n (size z)
theorem Row.lb(D:Row l B):ag l=B:=(kB D.row).1
def inScope(A:List (dr×Nat))(D:aj):Option Nat:=(A.find? λz=>z.1==D).map λz=>z.2
def Cb(A:List (dr×Nat))(D z:dr)(G:Nat):inScope ((D,G)::A) z=if D=z then Y G else inScope A z:=by grind [inScope]
def o2(G:List Info)(M:Option Nat)(N:List (dr×Nat))(A:ae):Prop:=∀z:aj,z≠[]->∀D,ag A<D->up G z D (ag A) M=inScope N z
variable{Wk:List (dr×Nat)}
def sV(b:jc wT VX l)(c:o2 wT VX Wk l)(e:ag l<ag py)(d:∀A:aj,A≠[]->inScope VS A=if wordOf l=A/\((kids l).map ag).getLast?=Y (ag py)then Y (ag l)else inScope Wk A):o2 wT (Y (ag l)) VS py:=by
 intro A hw a f;obtain⟨M,rfl⟩:∃M,a=M+1:=⟨a-1,by lia⟩
 rw [up,b.top];show(if wordOf l=A/\((kids l).map ag).getLast?=Y (ag py)then Y (ag l)else up wT A M (ag l) VX)=inScope VS A
 rw [d A hw,c A hw M (by lia)]
def qX(M:Row l B)(N:kids l=[py]):Row py (B+1):=by have z:=(kB M.row).2;rw [N]at z;simp [b3,et,b0,aZ,hP,eC,Hh,j9]at z;exists z
def qY{M:ae}(N:Row py B)(S:kids py=[l,M]):Row l (B+1)/\Row M (B+1+size l):=by have D:=(kB N.row).2;rw [S]at D;simp only [b3,et,b0,aZ,hP,eC,Hh,j9]at D;let⟨T,U⟩:=sT D (by lia);exists ⟨T⟩,⟨U.trans (by congr 1;lia)⟩
def Mw{M c:ae}(N:Row M B)(S:kids M=[l,py,c]):Row l (B+1)/\Row py (B+1+size l)/\Row c (B+1+size l+size py):=by have G:=(kB N.row).2;rw [S]at G;simp only [b3,et,b0,aZ,hP,eC,Hh,j9]at G;let⟨T,U⟩:=sT G (by lia);let⟨a,b⟩:=sT U (by lia);exists ⟨T⟩,⟨a⟩,⟨b.trans (by congr 1;lia)⟩
theorem hp(N:jc wT VX l)(S:o2 wT VX VS l)(T:ag l<ag py)(hw:wordOf l=[]):o2 wT (Y (ag l)) VS py:=
 sV N S T λU a=>by grind
def gp{k:ae}{o:Option Nat}(S:k∈kids l)(T:∃z D,hV B z∈aG k/\wT[B]?=Y (cZ D (.var B z))/\∀G,B<G->z≠[]->up wT z G B D=o):∃z D,hV B z∈aG l/\wT[B]?=Y (cZ D (.var B z))/\∀G,B<G->z≠[]->up wT z G B D=o:=by let⟨z,D,U,a,b⟩:=T;exists z,D,sM (i6 (gW l) S) _ U,a,b
def Mx{u:List Info}:∀(t:ae) (A:Nat) (g:Option Nat) (T:List (dr×Nat)),Row t A->jc u g t->o2 u g T t->∀z o,(z,o)∈qa T t->∃i w,hV z i∈aG t/\u[z]?=Y (cZ w (.var z i))/\∀v,z<v->i≠[]->up u i v z w=o:=by
 intro t;induction t with
 |num z A=>intro A g T M G U z o D;cases D
 |var z i=>
  intro A g T M G U e o D;simp only [qa,bb,uW]at D;let⟨rfl,rfl⟩:=D;exists i,g,gW _,G.top,λv C E=>U i E v C
 |fn z i b r=>
  intro A g T M G U e o D;have f:=qX M S
  have q:z=A:=M.lb;have s:ag (.fn z i b)<ag b:=by rw [f.lb];show z<A+1;cutsat
  refine gp (k:=b) (by simp [kids]) (r (A+1) _ ((i,z)::T) f (G.sub (by simp [kids])) (sV G U s λx hw=>?_) e o D);rw [Cb];simp [wordOf,kids,ag]
 |letE z i d b l m=>
  intro A g T M G U e o D;let⟨h,f⟩:=qY M S;have q:z=A:=M.lb
  have K:=size_pos d;have n:ag (.letE z i d b)<ag d:=by rw [h.lb];show z<A+1;cutsat
  have p:ag (.letE z i d b)<ag b:=by rw [f.lb];show z<A+1+size d;cutsat
  rcases bR.mp D with D|D
  .refine gp (k:=d) (by simp [kids]) (l (A+1) _ T h (G.sub (by simp [kids])) (sV G U n λx hw=>?_) e o D);rw [N];rintro⟨_,y⟩;simp only [kids,aZ,hP,List.getLast?_cons_cons,List.getLast?_singleton,zt]at y;rw [h.lb,f.lb]at y
   cutsat
  .refine gp (k:=b) (by simp [kids]) (m (A+1+size d) _ ((i,z)::T) f (G.sub (by simp [kids])) (sV G U p λx hw=>?_) e o D);rw [Cb];simp [wordOf,kids,ag]
 |fst z d r=>
  intro A g T M G U e o D;have h:=qX M S
  have q:z=A:=M.lb;have s:ag (.fst z d)<ag d:=by rw [h.lb];show z<A+1;cutsat
  exact gp (k:=d) (by simp [kids]) (r (A+1) _ T h (G.sub (by simp [kids])) (hp G U s S) e o D)
 |snd z d r=>
  intro A g T M G U e o D;have h:=qX M S
  have q:z=A:=M.lb;have s:ag (.snd z d)<ag d:=by rw [h.lb];show z<A+1;cutsat
  exact gp (k:=d) (by simp [kids]) (r (A+1) _ T h (G.sub (by simp [kids])) (hp G U s S) e o D)
 |new z d r=>
  intro A g T M G U e o D;have h:=qX M S
  have q:z=A:=M.lb;have s:ag (.new z d)<ag d:=by rw [h.lb];show z<A+1;cutsat
  exact gp (k:=d) (by simp [kids]) (r (A+1) _ T h (G.sub (by simp [kids])) (hp G U s S) e o D)
 |get z d r=>
  intro A g T M G U e o D;have h:=qX M S
  have q:z=A:=M.lb;have s:ag (.get z d)<ag d:=by rw [h.lb];show z<A+1;cutsat
  exact gp (k:=d) (by simp [kids]) (r (A+1) _ T h (G.sub (by simp [kids])) (hp G U s S) e o D)
 |app z a b l m=>
  intro A g T M G U e o D;let⟨j,f⟩:=qY M S;have q:z=A:=M.lb
  have n:ag (.app z a b)<ag a:=by rw [j.lb];show z<A+1;cutsat
  have p:ag (.app z a b)<ag b:=by rw [f.lb];show z<A+1+size a;cutsat
  rcases bR.mp D with D|D
  .exact gp (k:=a) (by simp [kids]) (l (A+1) _ T j (G.sub (by simp [kids])) (hp G U n S) e o D)
  .exact gp (k:=b) (by simp [kids]) (m (A+1+size a) _ T f (G.sub (by simp [kids])) (hp G U p S) e o D)
 |pair z a b l m=>
  intro A g T M G U e o D;let⟨j,f⟩:=qY M S;have q:z=A:=M.lb
  have n:ag (.pair z a b)<ag a:=by rw [j.lb];show z<A+1;cutsat
  have p:ag (.pair z a b)<ag b:=by rw [f.lb];show z<A+1+size a;cutsat
  rcases bR.mp D with D|D
  .exact gp (k:=a) (by simp [kids]) (l (A+1) _ T j (G.sub (by simp [kids])) (hp G U n S) e o D)
  .exact gp (k:=b) (by simp [kids]) (m (A+1+size a) _ T f (G.sub (by simp [kids])) (hp G U p S) e o D)
 |set z a b l m=>
  intro A g T M G U e o D;let⟨j,f⟩:=qY M S;have q:z=A:=M.lb
  have n:ag (.set z a b)<ag a:=by rw [j.lb];show z<A+1;cutsat
  have p:ag (.set z a b)<ag b:=by rw [f.lb];show z<A+1+size a;cutsat
  rcases bR.mp D with D|D
  .exact gp (k:=a) (by simp [kids]) (l (A+1) _ T j (G.sub (by simp [kids])) (hp G U n S) e o D)
  .exact gp (k:=b) (by simp [kids]) (m (A+1+size a) _ T f (G.sub (by simp [kids])) (hp G U p S) e o D)
 |add z a b l m=>
  intro A g T M G U e o D;let⟨j,f⟩:=qY M S;have q:z=A:=M.lb
  have n:ag (.add z a b)<ag a:=by rw [j.lb];show z<A+1;cutsat
  have p:ag (.add z a b)<ag b:=by rw [f.lb];show z<A+1+size a;cutsat
  rcases bR.mp D with D|D
  .exact gp (k:=a) (by simp [kids]) (l (A+1) _ T j (G.sub (by simp [kids])) (hp G U n S) e o D)
  .exact gp (k:=b) (by simp [kids]) (m (A+1+size a) _ T f (G.sub (by simp [kids])) (hp G U p S) e o D)
 |ifz z a b c l m F=>
  intro A g T M G U e o D;let⟨j,f,B⟩:=Mw M S;have q:z=A:=M.lb
  have n:ag (.ifz z a b c)<ag a:=by rw [j.lb];show z<A+1;cutsat
  have p:ag (.ifz z a b c)<ag b:=by rw [f.lb];show z<A+1+size a;cutsat
  have H:ag (.ifz z a b c)<ag c:=by rw [B.lb];show z<A+1+size a+size b;cutsat
  rcases bR.mp D with D|D
  .exact gp (k:=a) (by simp [kids]) (l (A+1) _ T j (G.sub (by simp [kids])) (hp G U n S) e o D)
  .rcases bR.mp D with D|D
   .exact gp (k:=b) (by simp [kids]) (m (A+1+size a) _ T f (G.sub (by simp [kids])) (hp G U p S) e o D)
   .exact gp (k:=c) (by simp [kids]) (F (A+1+size a+size b) _ T B (G.sub (by simp [kids])) (hp G U H S) e o D)
def Cc:∀(T:ae) (G:List (dr×Nat)) (A:Nat) (D:dr),hV A D∈aG T->∃o,(A,o)∈qa G T:=by
 intro T;induction T with
 |num A n=>grind [aG]
 |var A y=>
  intro G M D z;simp [aG,bb,Vr]at z;let⟨rfl,rfl⟩:=z;exists _,bb.mpr S
 |fn A y b f=>
  intro G M D z;simp [aG,bg,reduceCtorEq,vb]at z;exact f _ M D z
 |fst A b f|snd A b f|new A b f|get A b f=>
  intro G M D z;simp [aG,bg,reduceCtorEq,vb]at z;exact f G M D z
 |letE A y a b d e=>
  intro G M D z;simp [aG,bg,reduceCtorEq,vb,bR]at z;rcases z with z|z
  .let⟨o,N⟩:=d G M D z;exists o,gN _ N
  .let⟨o,N⟩:=e ((y,A)::G) M D z;exists o,eH _ N
 |app A a b d e|pair A a b d e|set A a b d e|add A a b d e=>
  intro G M D z;simp [aG,bg,reduceCtorEq,vb,bR]at z;rcases z with z|z
  .let⟨o,N⟩:=d G M D z;exists o,gN _ N
  .let⟨o,N⟩:=e G M D z;exists o,eH _ N
 |ifz A a b c d e g=>
  intro G M D z;simp [aG,bg,reduceCtorEq,vb,bR]at z;rcases z with z|z|z
  .let⟨o,N⟩:=d G M D z;exists o,gN _ N
  .let⟨o,N⟩:=e G M D z;exists o,eH _ (gN _ N)
  .let⟨o,N⟩:=g G M D z;exists o,eH _ (eH _ N)
def My(a:aW 0 l=l)(p:bo l=I)(b:hV B Do∈aG l):∃N,(infos O l)[B]?=Y (cZ N (.var B Do))/\∀G,B<G->Do≠[]->up (infos O l) Do G B N=g7 l B:=by
 have c:bJ l=cj 0 (size l):=by have:=lF l 0;rw [a]at this;exact this
 have f:e5 l:=⟨by rw [gX,zK];exact c⟩
 have g:=sU a;have h:o2 (infos O l) O [] l:=λq hw G M=>by
  obtain⟨d,rfl⟩:∃d,G=d+1:=⟨G-1,by lia⟩
  rfl
 have i:=Mx l 0 O [] ⟨c⟩ g h;let⟨o,j⟩:=Cc l [] B Do b;unfold g7;cases M:(uX l).find? λT=>T.1==B with
 |none=>
  rw [nN]at M;exact absurd (by simp) (M (B,o) j)
 |some T=>
  have k:=fq M;have e:T.1=B:=by simpa using mb M
  let⟨r,s⟩:=T;dsimp only at e;subst e;let⟨y,N,z,m,n⟩:=i _ _ k;have U:=f.uniq z b S
  injection U with _ U;subst U;exists N,m,n
def cI:List (dr×Nat)->ae->List (Nat×dr×Option Nat)
 |_,.num _ _=>[]
 |s,.var e x=>[(e,x,inScope s x)]
 |s,.fn e x d=>cI ((x,e)::s) d
 |s,.app _ f a=>cI s f++cI s a
 |s,.letE e x b d=>cI s b++cI ((x,e)::s) d
 |s,.ifz _ c g b=>cI s c++(cI s g++cI s b)
 |s,.pair _ a d=>cI s a++cI s d
 |s,.fst _ b=>cI s b
 |s,.snd _ b=>cI s b
 |s,.new _ b=>cI s b
 |s,.get _ b=>cI s b
 |s,.set _ h b=>cI s h++cI s b
 |s,.add _ a d=>cI s a++cI s d
def w2:∀(z:ae) (A:List (dr×Nat)),qa A z=(cI A z).map λD=>(D.1,D.2.2):=by intro z;induction z<;>intro A<;>simp [qa,cI,aT,aZ,hP,inScope, *]
def sW:∀(N:ae) (G:List (dr×Nat)) (A:Nat) (D:dr) (o:Option Nat),(A,D,o)∈cI G N->hV A D∈aG N:=by
 intro N;induction N with
 |num A n=>intro G M D o z;cases z
 |var A y=>
  intro G M D o z;simp [cI,bb,uW]at z;let⟨rfl,rfl,_⟩:=z;exact gW _
 |fn A y b f=>intro G M D o z;exact bC _ (f _ _ _ _ z)
 |fst A b f|snd A b f|new A b f|get A b f=>intro G M D o z;exact bC _ (f _ _ _ _ z)
 |letE A y a b d e=>
  intro G M D o z;rcases bR.mp z with z|z
  .exact bC _ (gN _ (d _ _ _ _ z))
  .exact bC _ (eH _ (e _ _ _ _ z))
 |app A a b d e|pair A a b d e|set A a b d e|add A a b d e=>
  intro G M D o z;rcases bR.mp z with z|z
  .exact bC _ (gN _ (d _ _ _ _ z))
  .exact bC _ (eH _ (e _ _ _ _ z))
 |ifz A a b c d e g=>
  intro G M D o z;rcases bR.mp z with z|z
  .exact bC _ (gN _ (d _ _ _ _ z))
  .rcases bR.mp z with z|z
   .exact bC _ (eH _ (gN _ (e _ _ _ _ z)))
   .exact bC _ (eH _ (eH _ (g _ _ _ _ z)))
def Mz(z:List (dr×Nat))(A:dr):(inScope z A).isSome=I↔A∈z.map (·.1):=by grind [inScope]
def fh(A:List (dr×Nat))(D:ae):Prop:=∀G z o,(G,z,o)∈cI A D->z=du\/o.isSome=I
def qZ:(∀D z o,(D,z,o)∈cI VS l++cI Wk py->z=du\/o.isSome=I)↔fh VS l/\fh Wk py:=by
 constructor
 .intro T;exists λD z o A=>T D z o (gN _ A),λD z o A=>T D z o (eH _ A)
 .rintro⟨U,a⟩ D z o A;rcases bR.mp A with A|A
  .exact U D z o A
  .exact a D z o A
def MA:∀(M:ae) (z:List (dr×Nat)),hS (z.map (·.1)++[du]) M=I↔bo M=I/\fh z M:=by
 intro M;induction M with
 |num A n=>
  intro z;exists λN=>⟨N,λ_ _ _ D=>(nomatch D)⟩,λN=>N.1
 |var A G=>
  intro z;simp only [hS,bo,bx,gQ,bR,bb];refine and_congr rN ?_;rw [<-Mz];constructor
  .intro N j k o D;grind [cI]
  .intro N;exact(N A G _ (bb.mpr S)).symm
 |fn A G b g=>
  intro z;have:=g ((G,A)::z)
  simp only [aZ,dg]at this;simp only [hS,bo,bx,this,and_assoc];exact rN
 |letE A G d b e f=>
  intro z;have T:=f ((G,A)::z)
  simp only [aZ,dg]at T;simp only [hS,bo,bx,e z,T];have M:fh z (.letE A G d b)↔fh z d/\fh ((G,A)::z) b:=qZ
  grind
 |fst A b g=>intro z;exact g z
 |snd A b g=>intro z;exact g z
 |new A b g=>intro z;exact g z
 |get A b g=>intro z;exact g z
 |app A a b e f=>
  intro z;simp only [hS,bo,bx,e z,f z];have M:fh z (.app A a b)↔fh z a/\fh z b:=qZ
  grind
 |pair A a b e f=>
  intro z;simp only [hS,bo,bx,e z,f z];have M:fh z (.pair A a b)↔fh z a/\fh z b:=qZ
  grind
 |set A a b e f=>
  intro z;simp only [hS,bo,bx,e z,f z];have M:fh z (.set A a b)↔fh z a/\fh z b:=qZ
  grind
 |add A a b e f=>
  intro z;simp only [hS,bo,bx,e z,f z];have M:fh z (.add A a b)↔fh z a/\fh z b:=qZ
  grind
 |ifz A a b c e f h=>
  intro z;simp only [hS,bo,bx,e z,f z,h z];have M:fh z (.ifz A a b c)↔fh z a/\fh z b/\fh z c:=by
   constructor
   .intro N;exists λA G o D=>N A G o (gN _ D),λA G o D=>N A G o (eH _ (gN _ D)),λA G o D=>N A G o (eH _ (eH _ D))
   .rintro⟨U,T,i⟩ A G o D;rcases bR.mp D with D|D
    .exact U A G o D
    .rcases bR.mp D with D|D
     .exact T A G o D
     .exact i A G o D
  grind
def MB(T:e5 l){o:Option Nat}(U:(B,Do,o)∈cI [] l):g7 l B=o\/∃N,(B,Do,N)∈cI [] l/\g7 l B=N:=by
 unfold g7;cases a:(uX l).find? λD=>D.1==B with
 |none=>
  rw [nN]at a;refine absurd (by simp) (a (B,o) ?_);grind [uX,w2]
 |some D=>
  right;have G:=fq a
  have b:D.1=B:=by simpa using mb a
  unfold uX at G;rw [w2]at G;let⟨⟨d,e,f⟩,c,rfl⟩:=bH.mp G;subst b;have g:=T.uniq (sW l [] _ _ _ c) (sW l [] _ _ _ U) S
  grind
def MC(D:e5 l):((cI [] l).map (·.1)).Nodup:=by
 have:∀(l:ae) (A:List (dr×Nat)),((cI A l).map (·.1)).Sublist (bJ l):=by
  intro l;induction l with
  |num b n=>intro A;exact List.nil_sublist _
  |var b x=>intro A;exact Vs _
  |fn b x d g=>grind [dI,cI,kids]
  |fst b d g=>grind [dI,cI,kids]
  |snd b d g=>grind [dI,cI,kids]
  |new b d g=>grind [dI,cI,kids]
  |get b d g=>grind [dI,cI,kids]
  |letE b x a d e f=>grind [dI,cI,kids]
  |app b a d e f=>grind [dI,cI,kids]
  |pair b a d e f=>grind [dI,cI,kids]
  |set b a d e f=>grind [dI,cI,kids]
  |add b a d e f=>grind [dI,cI,kids]
  |ifz b a d c e f h=>intro A;rw [dI];grind [cI,kids]
 have G:(bJ l).Nodup:=D.cY▸Hd;grind
def w3(M:e5 l){o:Option Nat}(N:(B,Do,o)∈cI [] l):g7 l B=o:=by
 rcases MB M N with D|⟨g,c,D⟩
 .exact D
 .rw [D];have d:=MC M
  let⟨i,G⟩:=hR.mp N;let⟨T,U⟩:=hR.mp c;have a:((cI [] l).map (·.1))[i]?=Y B:=by rw [bh,G];rfl
  have e:((cI [] l).map (·.1))[T]?=Y B:=by rw [bh,U];rfl
  have f:i=T:=(Hi (cF.mp a).1 d).mp (a.trans e.symm);rw [f,U]at G;have:=aS G
  injection this with _ this;injection this
def Cd(z:ae)(A:List (dr×Nat))(M:hV B Do∈aG z)(U:e5 z)(b:A=[]):∃o,(B,Do,o)∈cI A z:=by
 let⟨o,N⟩:=Cc z A B Do M;rw [w2]at N;let⟨⟨c,d,e⟩,a,T⟩:=bH.mp N
 simp [uW]at T;let⟨rfl,rfl⟩:=T;have f:=U.uniq (sW z A _ _ _ a) M S
 grind
def Ce:nW l=I↔bo l=I/\aW 0 l=l/\size l<=30/\dH l<=8/\∀A D,hV A D∈aG l->D=du\/(g7 l A).isSome=I:=by
 have M:bJ l=eX (bJ l).length↔aW 0 l=l:=by
  rw [gX,zK];constructor
  .exact wO l 0
  .grind [lF]
 have c:=MA l [];simp [hP,dh]at c;unfold nW;simp [bx,iM,j5];rw [c,M,gX];constructor
 .rintro⟨⟨N,T⟩,G,U,a⟩;have b:e5 l:=⟨M.mpr G⟩
  exists N,G,U,a,λA D e=>?_;let⟨o,d⟩:=Cd l [] e b S
  rw [w3 b d];exact T A D o d
 .rintro⟨N,G,U,a,T⟩;have b:e5 l:=⟨M.mpr G⟩
  exists ⟨N,λA D o f=>?_⟩,G,U,a;have:=T A D (sW l [] A D o f)
  grind [w3]
def MD:∀(T:ae) (G:List (dr×Nat)),bo T=I->(∀z∈G,z.1≠du)->∀A o,(A,du,o)∈cI G T->o=O:=by
 intro T;induction T with
 |num A n=>intro G D N M o z;cases z
 |var A x=>
  intro G D N M o z;simp [cI,bb,uW]at z;let⟨_,rfl,rfl⟩:=z;grind [inScope]
 |fn A x b e=>
  intro G D N M o z;simp [bo,bx,u9]at D;refine e ((x,A)::G) D.2.2 (λy U=>?_) M o z;grind
 |letE A x d b f g=>
  intro G D N M o z;simp [bo,bx,u9]at D;rcases bR.mp z with z|z
  all_goals grind
 |fst A b e|snd A b e|new A b e|get A b e=>intro G D N M o z;exact e G D N M o z
 |app A a b f g|pair A a b f g|set A a b f g|add A a b f g=>
  intro G D N M o z;simp [bo,bx]at D;rcases bR.mp z with z|z
  all_goals grind
 |ifz A a b c f g h=>
  intro G D N M o z;simp [bo,bx]at D;rcases bR.mp z with z|z
  all_goals grind
def ME(A:ae)(D:aA->aA->Prop):Pred:=λG M=>∃z,D G z/\fG A z M
structure sX(D:ae)(z:aA->aA->Prop):Prop where
 refl:∀p,z p p
 symm:∀p A,z p A->z A p
 trans:∀p A G,z p A->z A G->z p G
 way:∀M d,ed D (ME D z) M d->z M d
def Eqv(A:ae)(D G:aA):Prop:=∀z,sX A z->z D G
theorem kC(M:ae):sX M (Eqv M):=
 ⟨λA z c=>c.refl A,λA D G z c=>c.symm A D (G z c),λA D N S T z c=>c.trans A D N (S z c) (T z c),λU a b z c=>c.way U a (b.mono λA e ⟨D,G,d⟩=>⟨D,G z c,d⟩)⟩
structure Part(ps:List aA)(z:nV):Prop where
 cover:∀p,p∈ps↔∃c∈z,p∈c
 apart:∀c∈z,∀d∈z,∀p,p∈c->p∈d->c=d
 nd:z.Nodup
 ne:∀c∈z,∃p,p∈c
def jL(z:nV)(A D:aA):Prop:=∃c∈z,A∈c/\D∈c
variable{zn:List aA}
def Part.of(A:Part zn cs)(D:nw∈zn):cH cs nw∈cs/\nw∈cH cs nw:=by
 let⟨c,G,M⟩:=(A.cover nw).mp D;unfold cH;cases a:cs.find? λc=>c.contains nw with
 |none=>
  grind
 |some d=>
  grind
theorem Part.is{cs:nV}(A:Part zn cs){c:List aA}(D:c∈cs)(G:nw∈c):cH cs nw=c:=
 let⟨M,N⟩:=A.of ((A.cover nw).mpr ⟨c,D,G⟩);A.apart _ M _ D nw N G
def Part.same(z:Part zn cs)(G:nw∈zn):jL cs nw v1↔v1∈cH cs nw:=by
 constructor
 .rintro⟨c,M,N,T⟩;rwa [z.is M N]
 .intro S;exists _,(z.of G).1,(z.of G).2,S
def w4{cs:nV}{z:ka}(A:cH cs z.src=cH cs z.dst):ij cs z=cs:=by simp_all [ij]
def w5{cs:nV}{z:ka}(A:¬cH cs z.src=cH cs z.dst):ij cs z=(cs.filter λc=>c !=cH cs z.dst).map λc=>if c=cH cs z.src then cH cs z.src++cH cs z.dst else c:=by simp_all [ij]
section
variable {ps:List aA} {cs:nV}
def Cg(A:Part ps cs){z:ka}(D:z.src∈ps)(N:z.dst∈ps)(G:¬cH cs z.src=cH cs z.dst){c:List aA}:c∈ij cs z↔c=cH cs z.src++cH cs z.dst\/(c∈cs/\c≠cH cs z.src/\c≠cH cs z.dst):=by
 rw [w5 G,bH];constructor
 .grind
 .rintro(rfl|⟨M,T,U⟩)
  .refine⟨cH cs z.src,dz.mpr ⟨(A.of D).1,by grind⟩,?_⟩;grind
  .exact⟨c,dz.mpr ⟨M,by grind⟩,by grind⟩
end
def MG{cs:nV}(A:Part zn cs){z:ka}(l:z.src∈zn)(e:z.dst∈zn):Part zn (ij cs z):=by
 by_cases m:cH cs z.src=cH cs z.dst
 .grind [w4]
 let⟨f,j⟩:=A.of l;let⟨n,B⟩:=A.of e
 have g:= @Cg zn cs A z l e m;exists λD=>?_,λc M T o D a U=>?_,?_,λc M=>?_
 .rw [A.cover D];constructor
  .rintro⟨c,M,C⟩;by_cases h:c=cH cs z.src
   .simp_all
   .by_cases b:c=cH cs z.dst
    .simp_all
    grind
  grind
 .rcases g.mp M with rfl|⟨c1,c2,c3⟩
  .rcases g.mp o with rfl|⟨i,p,q⟩
   .rfl
   .rcases bR.mp a with G|G
    .exact absurd (A.apart _ i _ f D U G) p
    .exact absurd (A.apart _ i _ n D U G) q
  .rcases g.mp o with rfl|⟨i,p,q⟩
   .rcases bR.mp U with G|G
    .exact absurd (A.apart _ c1 _ f D a G) c2
    .exact absurd (A.apart _ c1 _ n D a G) c3
   .exact A.apart _ c1 _ i D a U
 .rw [w5 m];have s:∀d:List (List aA),d.Nodup->(∀c∈d,c∈cs)->(d.map λc=>if c=cH cs z.src then cH cs z.src++cH cs z.dst else c).Nodup:=by
   intro d;induction d with
   |nil=>grind
   |cons c E t=>
    intro u k;let⟨a,U⟩:=ej.mp u
    rw [aZ,ej];exists λv=>?_,t U λT e=>k T (bC _ e);let⟨T,w,r⟩:=bH.mp v
    have x:=k T (bC _ w);have y:=k c bE
    have F:T=c:=by
     by_cases h:T=cH cs z.src
     .by_cases b:c=cH cs z.src
      .grind
      .rw [ai h,N b]at r;exact absurd (A.apart _ y _ f z.src (by grind) j) b
     .by_cases b:c=cH cs z.src
      .rw [N h,ai b]at r;exact absurd (A.apart _ x _ f z.src (by grind) j) h
      grind
    grind
  exact s _ (Hj Hk A.nd) λc M=>(dz.mp M).1
 .rcases g.mp M with rfl|⟨c1,_,_⟩
  .exact⟨z.src,gN _ j⟩
  .exact A.ne c c1
def MH{cs:nV}(D:Part zn cs){A:ka}(N:A.src∈zn)(G:A.dst∈zn)(M:¬cH cs A.src=cH cs A.dst):(ij cs A).length<cs.length:=by
 rw [w5 M,z];have S:=(D.of G).1
 simp_all
variable{NE:aA->aA->Prop}
def MI{cs:nV}(T:Part zn cs){D:ka}(a:D.src∈zn)(b:D.dst∈zn)(d:∀z A,NE z A->NE A z)(e:∀z A f,NE z A->NE A f->NE z f)(M:∀z A,jL cs z A->NE z A)(hw:NE D.src D.dst):∀z A,jL (ij cs D) z A->NE z A:=by
 by_cases g:cH cs D.src=cH cs D.dst
 .rw [w4 g];exact M
 rintro z A ⟨c,j,N,h⟩;let⟨k,l⟩:=T.of a;let⟨m,n⟩:=T.of b;rcases(Cg T a b g).mp j with rfl|⟨c1,_,_⟩
 .have i:∀z,z∈cH cs D.src++cH cs D.dst->NE z D.src:=λz N=>by
   rcases bR.mp N with U|U
   .exact M _ _ ⟨_,k,U,l⟩
   .exact e _ _ _ (M _ _ ⟨_,m,U,n⟩) (d _ _ hw)
  exact e _ _ _ (i z N) (d _ _ (i A h))
 .exact M _ _ ⟨c,c1,N,h⟩
variable{ps:List aA}
theorem Ci(c:∀A D,NE A D->NE D A)(d:∀A D e,NE A D->NE D e->NE A e):∀(G:List ka) (cs:nV),Part ps cs->(∀z∈G,z.src∈ps/\z.dst∈ps/\NE z.src z.dst)->(∀A D,jL cs A D->NE A D)->Part ps (G.foldl ij cs)/\(∀A D,jL (G.foldl ij cs) A D->NE A D)/\(G.foldl ij cs).length<=cs.length/\((G.foldl ij cs).length=cs.length->G.foldl ij cs=cs/\∀z∈G,cH cs z.src=cH cs z.dst)
 |[],cs,a,_,b=>⟨a,b,aR _,λ_=>⟨S,λ_ N=>nomatch N⟩⟩
 |z::G,cs,a,hw,b=>by
  let⟨T,U,f⟩:=hw z bE;let⟨h,i,j,k⟩:=Ci c d G (ij cs z) (MG a T U) (λv g=>hw v (bC _ g)) (MI a T U c d b f)
  rw [Tq];by_cases N:cH cs z.src=cH cs z.dst
  .grind [w4]
  .have:=MH a T U N;grind
def sY{N:nV}:e4 (rM l N) nw ul↔hY l nw ul/\∃z∈cH N nw,fG l z ul:=by rw [BL,LV,Hl];refine and_congr rN ⟨λ⟨z,G,M⟩=>⟨z,G,gQ.mp M⟩,λ⟨z,G,M⟩=>⟨z,G,gQ.mpr M⟩⟩
def MJ{D:nV}(U:Part (aq l) D)(a:∀z G,jL D z G->Eqv l z G):∀A∈uS l (rM l D),A.src∈aq l/\A.dst∈aq l/\Eqv l A.src A.dst:=by
 intro A hw;have N:=oD.mp ⟨A.by_,hw⟩
 have T:∀z M,e4 (rM l D) z M->M∈bp l:=λz M S=>(sY.mp S).1.2;exists qN T N,oG T N,(kC l).way _ _ (N.mono λz M S=>?_);let⟨b,G,c,d⟩:=sY.mp S
 exists G,a _ _ ((U.same b.1).mpr c),d
theorem Cj:∀(b:Nat) (z:nV),Part (aq e) z->(∀A D,jL z A D->Eqv e A D)->z.length<b->Part (aq e) (rO e b z)/\∀A D,A∈aq e->D∈aq e->(jL (rO e b z) A D↔Eqv e A D)
 |0,_,_,_,U=>by lia
 |b+1,z,a,h,l=>by
  have m:=kC e;let⟨q,r,s,t⟩:=Ci (ps:=aq e) m.symm m.trans _ z a (MJ a h) h
  unfold rO;by_cases M:(Hm e z).length=z.length
  .rw [ai M];exists a,λA D d F=>⟨h A D,λU=>?_⟩;let⟨_,u⟩:=t M
   have v:sX e λA D=>A=D\/jL z A D:=by
    exists λA=>.inl S,λA D U=>?_,λA D H T G=>?_,λi f w=>?_
    .rcases U with rfl|⟨c,M,T,G⟩
     .grind
     .exact .inr ⟨c,M,G,T⟩
    .rcases T with rfl|⟨c,M,n,o⟩
     .exact G
     .rcases G with rfl|⟨f,hd,x,y⟩
      .exact .inr ⟨c,M,n,o⟩
      .have:=a.apart _ M _ hd D o x;subst this;exact .inr ⟨c,M,n,y⟩
    .have j:ed e (e4 (rM e z)) i f:=L4 (λK B g U=>by
      let⟨D,T,G⟩:=U;have d:=gk B
      refine sY.mpr ⟨⟨d,(lC G).2⟩,D,?_,G⟩;rcases T with rfl|T
      .exact(a.of d).2
      .exact(a.same d).mp T) w
     have p:∀A g,e4 (rM e z) A g->g∈bp e:=λA g U=>(sY.mp U).1.2;let⟨C,l⟩:=oD.mpr j
     have k:=u ⟨i,f,C⟩ l;exact .inr ((a.same (qN p j)).mpr (by rw [show cH z i=cH z f from k];exact(a.of (oG p j)).2))
   rcases U _ v with rfl|k
   .let⟨T,G⟩:=a.of d;exists _,T,G,G
   .exact k
  .rw [N M];have E:(Hm e z).length<b:=by
    have:(Hm e z).length<=z.length:=s
    lia
   exact Cj b _ q r E
def MK(M:zn.Nodup):Part zn (zn.map λz=>[z]):=by
 exists λz=>?_,λc D N T z U a=>?_,?_,λc D=>?_
 .constructor
  .intro G;exists [z],bH.mpr ⟨z,G,S⟩,bb.mpr S
  grind
 .grind
 .grind
 .obtain⟨b,_,rfl⟩:=bH.mp D;simp_all
def w6(n:e5 e):Part (aq e) (ha e)/\∀z G,z∈aq e->G∈aq e->(jL (ha e) z G↔Eqv e z G):=by
 let⟨U,o⟩:=Cj (e:=e) ((aq e).length+1) ((aq e).map λz=>[z]) (MK n.places) (λz G ⟨c,A,M,N⟩=>by let⟨p,_,rfl⟩:=bH.mp A;rw [bb.mp M,bb.mp N];exact(kC e).refl p) (by grind)
 have a:∀c∈rO e ((aq e).length+1) ((aq e).map λz=>[z]),∀G,G∈(aq e).filter c.contains↔G∈c:=λc A G=>by rw [dz];exists λf=>gQ.mp f.2,λf=>⟨(U.cover G).mpr ⟨c,A,f⟩,gQ.mpr f⟩
 have b:∀c,c∈ha e↔∃D∈rO e ((aq e).length+1) ((aq e).map λz=>[z]),c=(aq e).filter D.contains:=λc=>by grind [ha]
 exists ⟨λz=>?_,λc A D T z M N=>?_,?_,λc A=>?_⟩,λz G g q=>?_
 .rw [U.cover z];grind
 .obtain⟨u,i,rfl⟩:=(b c).mp A;let⟨v,j,rfl⟩:=(b D).mp T;rw [U.apart _ i _ j z ((a _ i z).mp M) ((a _ j z).mp N)]
 .unfold ha;have:∀d:List (List aA),d.Nodup->(∀c∈d,c∈rO e ((aq e).length+1) ((aq e).map λz=>[z]))->(d.map λc=>(aq e).filter c.contains).Nodup:=by
   intro d;induction d with
   |nil=>grind
   |cons c w r=>
    intro s h;let⟨M,N⟩:=ej.mp s
    rw [aZ,ej];exists λt=>?_,r N λD T=>h D (bC _ T);let⟨D,k,x⟩:=bH.mp t
    have l:=h c bE;have m:=h D (bC _ k)
    let⟨z,g⟩:=U.ne c l;have:z∈D:=(a D m z).mp (by grind)
    exact M (U.apart _ m _ l z this g▸k)
  exact this _ U.nd λc A=>A
 .obtain⟨D,T,rfl⟩:=(b c).mp A;let⟨z,g⟩:=U.ne D T
  grind
 .rw [<-o z G g q];constructor
  .rintro⟨c,A,M,N⟩;let⟨D,T,rfl⟩:=(b c).mp A;exists D,T,(a D T z).mp M,(a D T G).mp N
  .rintro⟨c,A,M,N⟩;exists _,(b _).mpr ⟨c,A,S⟩,(a c A z).mpr M,(a c A G).mpr N
noncomputable def jM(e:ae)(z A:aA):Bool:= @decide (Eqv e z A) (Hc _)
def mI:jM l nw v1=I↔Eqv l nw v1:=by simp_all [jM]
def ML{c:List aA}(A:c∈ha l):∃z:List aA,c=(aq l).filter z.contains:=by
 unfold ha at A;let⟨z,_,D⟩:=bH.mp A
 exists z,D.symm
def w7(U:e5 l){c:List aA}(G:c∈ha l)(N:nw∈c):c=(aq l).filter (jM l nw):=by
 let⟨T,a⟩:=w6 U;have b:nw∈aq l:=(T.cover nw).mpr ⟨c,G,N⟩
 have d:∀A∈aq l,(A∈c↔jM l nw A=I):=λA M=>by
  rw [mI,<-a nw A b M];constructor
  .intro D;exists c,G,N,D
  .rintro⟨f,g,h,i⟩;rw [T.apart _ G _ g nw N h];exact i
 let⟨f,rfl⟩:=ML G;refine kY λA M=>?_;rw [ic,<-d A M,dz];exists λD=>⟨M,D⟩,λD=>D.2
def sZ(A:e5 l)(D:nw∈aq l):cH (ha l) nw=(aq l).filter (jM l nw):=by let⟨G,S⟩:=w6 A;let⟨M,N⟩:=G.of D;exact w7 A M N
def MM(N:e5 l){r:aA->aA}(i:∀z∈aq l,r z∈aq l/\Eqv l z (r z))(f:∀z∈aq l,∀A∈aq l,Eqv l z A->r z=r A):(((aq l).filter λz=>decide (r z=z)).map λz=>(aq l).filter (jM l z)).Perm (ha l):=by
 let⟨T,s⟩:=w6 N;refine(vc ?_ T.nd).mpr λc=>?_
 .have:∀D:List aA,D.Nodup->(∀z∈D,z∈aq l/\r z=z)->(D.map λz=>(aq l).filter (jM l z)).Nodup:=by
   intro D;induction D with
   |nil=>grind
   |cons z t j=>
    intro k U;let⟨u,e⟩:=ej.mp k
    rw [aZ,ej];exists λm=>?_,j e λA a=>U A (bC _ a);let⟨A,a,n⟩:=bH.mp m
    let⟨g,v⟩:=U z bE;let⟨o,w⟩:=U A (bC _ a)
    have p:z∈(aq l).filter (jM l A):=by rw [n];exact dz.mpr ⟨g,mI.mpr ((kC l).refl z)⟩
    have:=f A o z g (mI.mp (dz.mp p).2);grind
  exact this _ (Hj Hk N.places) λz G=>by grind
 .rw [bH];constructor
  .rintro⟨z,G,rfl⟩;have M:=(dz.mp G).1
   rw [<-sZ N M];exact(T.of M).1
  .intro b;let⟨z,G⟩:=T.ne c b
   have M:=(T.cover z).mpr ⟨c,b,G⟩;let⟨d,h⟩:=i z M
   have q:=(f z M (r z) d h).symm;exists r z,dz.mpr ⟨d,cq q⟩,?_;have x:r z∈c:=by rw [w7 N b G];exact dz.mpr ⟨d,mI.mpr h⟩
   grind [w7]
theorem Ck:∀(A:List Nat) (z:Nat),z<=A.foldl max z/\∀y∈A,y<=A.foldl max z
 |[],z=>⟨aR _,λ_ D=>nomatch D⟩
 |x::a,z=>by let⟨G,M⟩:=Ck a (max z x);grind
theorem Cm:∀(A:List Nat) (z:Nat),A.foldl max z=z\/A.foldl max z∈A
 |[],z=>.inl S
 |x::a,z=>by
  rw [Tq];rcases Cm a (max z x)with D|D
  .rw [D];by_cases G:z<=x
   .right;rw [Nat.max_eq_right G];exact bE
   .left;lia
  .exact .inr (bC _ D)
def MN(D:B∈ww)(G:∀y∈ww,y<=B):ww.foldl max 0=B:=by grind [Ck,Cm]
structure o3(G:ae)(M:aA)(z:aA->Prop)(A:Pred):Prop where
 here:z M
 asked:∀p,z p->∀N∈e9 G p,z N
 way:∀D d,ed G A D d->z d->z D
 iz:∀p a,fG G p a->z p->A p a
 s6:∀D d a,ed G A D d->A D a->z d->A d a
def iB(A:ae)(D G:aA):Prop:=∀z M,o3 A D z M->z G
def jd(A:ae)(D:aA):Pred:=λG M=>∀N z,o3 A D N z->z G M
theorem mJ(S:ae)(T:aA):o3 S T (iB S T) (jd S T):=
 ⟨λz A c=>c.here,λD G d e z A c=>c.asked D (G z A c) d e,λM U a G z A c=>c.way M U (a.mono λD N b=>b z A c) (G z A c),λD N M G z A c=>c.iz D N M (G z A c),λM U N a f g z A c=>c.s6 M U N (a.mono λD N b=>b z A c) (f z A c) (g z A c)⟩
set_option tactic.hygienic true
def MO(z:nw∈e9 l v1):nw∈aq l:=by
 unfold e9 at z;have G:∀{S:Nat} {M y:ae},ma l S=Y M->y∈kids M->nw=b5 y->nw∈aq l:=λT U a=>by rw [a];exact jK (fq T) U
 split at z
 .split at z
  .rename_i A;exact G A (by simp [kids]) (bb.mp z)
  .rename_i A;exact G A (by simp [kids]) (bb.mp z)
  .rename_i A;exact G A (by simp [kids]) (bb.mp z)
  .rename_i A;exact G A (by simp [kids]) (bb.mp z)
  .cases z
 all_goals grind [Hn,jK,kids,Ho]
set_option tactic.hygienic false
theorem w8(M:aA)(N:M∈aq l):o3 l M (λz=>z∈aq l) (hY l):=
 ⟨N,λz _ b S=>MO S,λT U A _=>qN (λ_ _ D=>D.2) A,λz a G _=>lC G,λT U a A G _=>⟨oG (λ_ _ D=>D.2) A,G.2⟩⟩
structure o4(l:ae)(z:aA)(k:qd):Prop where
 pn:k.places.Nodup
 tn:k.table.Nodup
 here:z∈k.places
 ps:∀p∈k.places,iB l z p
 ts:∀A∈k.table,jd l z A.place A.abs
def mK(e:ae)(z:qd):List aA:=cS (cS z.places (z.places.flatMap (e9 e))) (((uS e z.table).filter λA=>z.places.contains A.dst).map λA=>A.src)
theorem w9(e:ae)(z:qd):jt e z=⟨mK e z,cS z.table ((nR e z.table).filter λA=>(mK e z).contains A.place)⟩:=rfl
def MP{U:qd}(D:o4 l nw U):o4 l nw (jt l U):=by
 have a:=mJ l nw;have d:∀A G,e4 U.table A G->jd l nw A G:=λA G i=>D.ts ⟨A,G⟩ i
 rw [w9];have g:∀A∈mK l U,iB l nw A:=λA z=>by
  unfold mK at z;rcases hn.mp z with z|z
  .rcases hn.mp z with z|z
   .exact D.ps A z
   .let⟨b,j,z⟩:=di.mp z;exact a.asked b (D.ps b j) A z
  .obtain⟨c,hw,rfl⟩:=bH.mp z;let⟨N,f⟩:=dz.mp hw
   exact a.way _ c.dst ((oD.mp ⟨c.by_,N⟩).mono d) (D.ps _ (gQ.mp f))
 exists mz (mz D.pn),mz D.tn,hn.mpr (.inl (hn.mpr (.inl D.here))),g,λh T=>?_;rcases hn.mp T with T|T
 .exact D.ts h T
 .let⟨N,f⟩:=dz.mp T;let⟨A,G⟩:=h
  have z:=g A (gQ.mp f);rcases oE.mp N with N|⟨k,c,b⟩
  .exact a.iz A G N z
  .exact a.s6 k A G (c.mono d) (d _ _ b) z
def MQ(z:qd):z.places.length<=(jt e z).places.length/\z.table.length<=(jt e z).table.length/\((jt e z).places.length=z.places.length->(jt e z).table.length=z.table.length->jt e z=z):=by
 rw [w9];have G:=mB (u:=z.places) (m:=z.places.flatMap (e9 e))
 have M:=mB (u:=cS z.places (z.places.flatMap (e9 e))) (m:=((uS e z.table).filter λA=>z.places.contains A.dst).map λA=>A.src);exists cu G M,mB,λD N=>?_;have D:(mK e z).length=z.places.length:=D
 unfold mK at D;have S:(cS z.places (z.places.flatMap (e9 e))).length=z.places.length:=by lia
 simp_all [mK,oC]
def MR{z:qd}(d:o4 l nw z)(D:jt l z=z):o3 l nw (λA=>A∈z.places) (e4 z.table):=by
 rw [w9]at D;have T:=bD Vt D
 have U:=bD Vu D;exists d.here,λA a e f=>?_,λG b M c=>?_,λA g h a=>?_,λG b g M i c=>?_
 .rw [<-T];exact hn.mpr (.inl (hn.mpr (.inr (di.mpr ⟨A,a,f⟩))))
 .rw [<-T];let⟨j,k⟩:=oD.mpr M
  exact hn.mpr (.inr (bH.mpr ⟨⟨G,b,j⟩,dz.mpr ⟨k,gQ.mpr c⟩,S⟩))
 .rw [<-U];exact hn.mpr (.inr (dz.mpr ⟨oE.mpr (.inl h),by grind⟩))
 .rw [<-U];exact hn.mpr (.inr (dz.mpr ⟨oE.mpr (.inr ⟨G,M,i⟩),by grind⟩))
theorem Cn(G:nw∈aq e):∀(A:Nat) (z:qd),o4 e nw z->(aq e).length+p8 e<A+(z.places.length+z.table.length)->o4 e nw (zN e A z)/\jt e (zN e A z)=zN e A z
 |0,z,a,b=>by
  have M:=w8 nw G;have g:=qK a.pn λS c=>a.ps S c _ _ M
  have h:=qK a.tn λT d=>by
   have:=a.ts T d _ _ M;let⟨S,i⟩:=T
   exact BG.mpr this
  grind [BI]
 |A+1,z,a,b=>by
  unfold zN;by_cases U:jt e z=z
  .grind
  .simp [N U];let⟨j,k,f⟩:=MQ (e:=e) z
   have:(jt e z).places.length+(jt e z).table.length≠z.places.length+z.table.length:=λl=>U (f (by lia) (by lia));exact Cn G A _ (MP a) (by lia)
def Co(T:nw∈aq l):(∀z,z∈(Tr l nw).places↔iB l nw z)/\∀z G,e4 (Tr l nw).table z G↔jd l nw z G:=by
 have U:o4 l nw ⟨[nw],[]⟩:=⟨by simp,gc,bb.mpr S,λz a=>bb.mp a▸(mJ l nw).here,λd b=>nomatch b⟩
 let⟨M,c⟩:=Cn T ((aq l).length+p8 l+1) ⟨[nw],[]⟩ U (by grind)
 have N:=MR M c;exists λz=>⟨λD=>M.ps z D,λD=>D _ _ N⟩,λz G=>⟨λD=>M.ts ⟨z,G⟩ D,λD=>D _ _ N⟩
noncomputable def xa(e:ae)(z A:aA):Bool:= @decide (iB e z A) (Hc _)
def Cp:xa l nw v1=I↔iB l nw v1:=by simp_all [xa]
def MS(A:nw∈aq l):ju l nw=(aq l).filter (xa l nw):=by unfold ju;refine kY λD _=>?_;rw [ic,Cp,<-(Co A).1 D];exact gQ
set_option tactic.hygienic true
def Cq(k:e5 l)(j:iB l v1 nw):jd l v1 nw ul↔gJ l nw ul:=by
 have a:=mJ l v1;constructor
 .intro b;have e:=qL l
  exact b (λ_=>True) (gJ l) ⟨trivial,λ_ _ _ _=>trivial,λ_ _ _ _=>trivial,λnw ul M _=>e.iz nw ul M,λM g ul A b _=>e.way M g ul A b⟩
 .intro b;have K:oF l (λnw ul=>hY l nw ul/\(iB l v1 nw->jd l v1 nw ul)):=by
   have m:=BF l;exists λnw ul M=>⟨m.iz nw ul M,λj=>a.iz nw ul M j⟩,λM g ul A b=>⟨m.way M g ul (A.mono λ_ _ p=>p.1) b.1,λc=>?_⟩;have n:ed l (jd l v1) M g:=by
    let⟨N,h,A⟩:=A;exists N,h,?_;have i:ma l (ag N)=Y N:=by rw [k.nodeAt];exact k.get h
    cases N<;>simp only [eR]at A⊢<;>try exact A
    .rename_i G q r;let⟨T,U,o⟩:=A;exists T,U.2 ?_,o;rcases o with⟨_,rfl⟩|⟨_,_,_,rfl⟩
     .refine a.asked _ c _ ?_;unfold e9;let⟨y,u,s⟩:=wI U.1.2;have t:(zO l).contains T=I:=by
       rw [gQ];unfold zO;exact bH.mpr ⟨_,dz.mpr ⟨s,S⟩,S⟩
      simp only [t,eQ];unfold Hn;exact j0.mpr ⟨_,h,S⟩
     .refine a.asked _ c _ ?_;unfold e9;simp only [show ma l G=Y (Ts G q r)from i];exact bb.mpr S
    .rename_i G N;let⟨T,U,d,rfl⟩:=A;exists T,U.2 (a.asked _ c _ ?_),d,S;unfold e9;simp only [show ma l G=Y (Vv G N)from i];exact bb.mpr S
    .rename_i G N;let⟨T,U,d,rfl⟩:=A;exists T,U.2 (a.asked _ c _ ?_),d,S;unfold e9;simp only [show ma l G=Y (Vw G N)from i];exact bb.mpr S
    .rename_i G N;let⟨T,U,d,rfl⟩:=A;exists T,U.2 (a.asked _ c _ ?_),d,S;unfold e9;simp only [show ma l G=Y (Vx G N)from i];exact bb.mpr S
    .rename_i G v N;rcases A with A|⟨T,U,d,rfl⟩
     .exact .inl A
     .refine .inr ⟨T,U.2 (a.asked _ c _ ?_),d,S⟩;unfold e9;simp only;unfold Ho;exact j0.mpr ⟨_,h,S⟩
   exact a.s6 M g ul n (b.2 (a.way M g n c)) c
  exact(least_le K b).2 j
set_option tactic.hygienic false
def MT(A:e5 l)(D:nw∈aq l):ke l nw=(bp l).filter (gm l nw):=by unfold ke;refine kY λG _=>?_;rw [ic,qM,<-Cq A (mJ l nw).here,<-(Co D).2 nw G];unfold zH e4;exact gQ
abbrev Pr:=Nat×Nat
abbrev Wy:=Pr×Pr
abbrev Tb:=List (Pr×List Pr)
def ba(z:Tb)(A:Pr):Option (List Pr):=(z.find? λy=>decide (y.1=A)).map (·.2)
def dJ(A:Nat)(D:List Pr):List Nat:=D.filterMap λz=>if z.1=A then Y z.2 else O
structure Pg where
 nodes:List Info
 binders:List (Nat×Nat)
 sorts:List Pr
 places:List Pr
def lH(z:Pg)(A:Nat):Option Nat:=(z.binders.find? λD=>decide (D.1=A)).map (·.2)
def hG(A:Pg)(z:Nat)(D:Fm)(G:List Nat):List Wy:=match D,G with
 |.used,_=>(match lH A z with
  |some b=>[((1,b),(0,z))]
  |none=>[])
 |.letE,[d,b]=>[((0,d),(1,z)),((0,b),(0,z))]
 |.ifz,[_,c,e]=>[((0,c),(0,z)),((0,e),(0,z))]
 |.pair,[a,b]=>[((0,a),(2,z)),((0,b),(3,z))]
 |.new,[a]=>[((0,a),(4,z))]
 |.set,[_,d]=>[((0,d),(0,z))]
 |_,_=>[]
def mO(z:Pg)(u:Nat):Nat:=(((z.nodes[u]?).map (·.parts)).getD []).headD 0
def jN(z:Pg)(A D:Nat)(G:List Nat):List Wy:=G.flatMap λu=>[((0,D),(1,u)),((0,mO z u),(0,A))]
def iC(D:Pg)(z:Tb)(A:Nat)(G:Fm)(M:List Nat):List Wy:=match G,M with
 |.call,[c,d]=>jN D A d (dJ 1 ((ba z (0,c)).getD []))
 |.fst,[c]=>(dJ 2 ((ba z (0,c)).getD [])).map λu=>((2,u),(0,A))
 |.snd,[c]=>(dJ 2 ((ba z (0,c)).getD [])).map λu=>((3,u),(0,A))
 |.get,[c]=>(dJ 3 ((ba z (0,c)).getD [])).map λu=>((4,u),(0,A))
 |.set,[c,d]=>(dJ 3 ((ba z (0,c)).getD [])).map λu=>((0,d),(4,u))
 |_,_=>[]
def q0(z:Pg)(D:Tb)(A:Nat):List Wy:=match z.nodes[A]? with
 |some i=>hG z A i.aK i.parts++iC z D A i.aK i.parts
 |none=>[]
def fA(z:Pg)(A:Tb)(D:Nat):List Wy:=(eX D).flatMap (q0 z A)
structure xb(z:Pg)(tab:Tb):Prop where
 bL:z.nodes.length<=30
 full:∀(A:Nat) (i:Info),z.nodes[A]?=Y i->i.parts.length=arity i.aK
 bound:∀(A:Nat) (i:Info),z.nodes[A]?=Y i->i.aK=.used->(lH z A).isSome=I
 tab:∀(A:Nat) (i:Info),z.nodes[A]?=Y i->∀c∈i.parts,∃ps,ba tab (0,c)=Y ps/\ps.length<=1000/\∀u∈dJ 1 ps,∃D G M,z.nodes[u]?=Y D/\D.parts=G::M
variable{rc:List Pr}
def lI{u:Nat}:u∈dJ B rc↔(B,u)∈rc:=by unfold dJ;grind
def D:aA->Pr
 |.node a=>(0,a)|.name a=>(1,a)|.first a=>(2,a)|.second a=>(3,a)|.inside a=>(4,a)
def a6:cw->Pr
 |.num=>(0,0)|.fn a=>(1,a)|.pair a=>(2,a)|.ref a=>(3,a)
def d4(G:D nw=D v1):nw=v1:=by cases nw<;>cases v1<;>simp [D]at G<;>simp [G]
def lJ{A:cw}(D:a6 ul=a6 A):ul=A:=by cases ul<;>cases A<;>simp [a6]at D<;>simp [D]
def mQ(z:ae):List (Nat×Nat):=(aG z).filterMap λA=>match A with
 |.var a y=>if y=du then O else(g7 z a).map λD=>(a,D)
 |_=>O
def cV(z:ae):Pg:=⟨infos O z,mQ z,(bp z).map a6,(aq z).map D⟩
structure bG(z:ae):Prop where
 told:bo z=I
 mS:aW 0 z=z
 bL:size z<=30
 deep:dH z<=8
 bound:∀A x,hV A x∈aG z->x=du\/(g7 z A).isSome=I
 free:∀A,hV A du∈aG z->g7 z A=O
 cY:e5 z
def q1(A:nW l=I):bG l:=by
 let⟨G,N,T,U,a⟩:=Ce.mp A;have D:=BN A
 exists G,N,T,U,a,λb c=>?_,D;let⟨o,M⟩:=Cd l [] c D S;rw [w3 D M];exact MD l [] G (λ_ A=>nomatch A) b o M
def xc:py∈aG l->py=l\/∃y∈aG l,py∈kids y:=by
 generalize a:gf l=n;induction n using Tf generalizing l with
 |_ n b=>
  intro A;rw [gn]at A;rcases bg.mp A with A|A
  .exact .inl A
  .obtain⟨M,G,N⟩:=di.mp A;rcases b (gf M) (by rw [<-a];exact h3 G) S N with A|⟨y,c,d⟩
   .exact .inr ⟨l,gW l,by rw [A];exact G⟩
   .exact .inr ⟨y,sM (i6 (gW l) G) y c,d⟩
section
variable {e:ae} (G:bG e)
include G
def bG.info{z:ae}(D:z∈aG e):∃M,(infos O e)[ag z]?=Y (cZ M z):=by
 have A:=sU G.mS;rcases xc D with rfl|⟨y,a,b⟩
 .exact⟨O,A.top⟩
 .exact⟨_,A.o1 y a z b⟩
theorem bG.lt{z:ae}(A:z∈aG e):ag z<size e:=(cF.mp (G.cY.get A)).1
def bG.node{l:Nat}(D:l<size e):∃z∈aG e,ag z=l:=by
 obtain⟨z,A⟩:∃z,(aG e)[l]?=Y z:=⟨_,gd D⟩
 exists z,cG A,G.cY.at A
def bG.xf{A:Nat}{i:Info}(M:(infos O e)[A]?=Y i):∃z∈aG e,ag z=A/\∃D,i=cZ D z:=by
 have U:A<size e:=by have:=(cF.mp M).1;rwa [eT]at this
 let⟨z,N,S⟩:=G.node U;let⟨D,T⟩:=G.info N;rw [S,M]at T;exists z,N,S,D,aS T
end
set_option tactic.hygienic true
section
variable {e:ae} (G:bG e)
include G
def bG.bind{z:Nat}{y:dr}(M:hV z y∈aG e)(S:y≠du):lH (cV e) z=g7 e z:=by
 let⟨N,T⟩:=rA.mp ((G.bound z y M).resolve_left S);have U:(z,N)∈mQ e:=j0.mpr ⟨_,M,by grind⟩
 rw [T];unfold lH;show((mQ e).find? λD=>decide (D.1=z)).map (·.2)=Y N
 cases a:(mQ e).find? λD=>decide (D.1=z)with
 |none=>
  grind
 |some b=>
  let⟨D,c,A⟩:=j0.mp (fq a);split at A
  .rename_i d f;split at A
   .cases A
   .let⟨g,h,i⟩:=cv.mp A;grind
  .cases A
end
set_option tactic.hygienic false
structure bM(z:ae)(tab:Tb)(A:Pred):Prop where
 keys:tab.map (·.1)=(aq z).map D
 row:∀p∈aq z,∃ps,ba tab (D p)=Y ps/\ps.Nodup/\(∀x∈ps,∃a∈bp z,x=a6 a)/\∀a,a6 a∈ps↔A p a
variable{or:Tb}
def bM.sort(N:bM l or wr)(S:nw∈aq l)(T:wr nw ul):ul∈bp l:=by let⟨U,_,_,a,b⟩:=N.row nw S;grind [lJ]
theorem bM.congr(S:bM l or wr)(U:∀z∈aq l,∀A,wr z A↔TW z A):bM l or TW:=
 ⟨S.keys,λz T=>by let⟨a,b,c,d,e⟩:=S.row z T;exact⟨a,b,c,d,λA=>(e A).trans (U z T A)⟩⟩
def lK(z:ae):(bp z).length<=size z+1:=by simp_all [bp,size,iU]
def s7(N:rc.Nodup)(S:∀G∈rc,∃M∈bp l,G=a6 M):rc.length<=size l+1:=by
 have:rc.length<=((bp l).map a6).length:=qK N λG T=>by let⟨M,U,a⟩:=S G T;rw [a];exact dY U
 rw [z]at this;exact cu this (lK l)
def xg(G:bG l)(a:G8 B∈bp l):∃y A,p7 B y A∈aG l/\uR l B=Y (ag A)/\mO (cV l) B=ag A/\∃T,(infos O l)[B]?=Y (cZ T (.fn B y A)):=by
 let⟨y,A,M⟩:=wI a;exists y,A,M,?_,?_,G.info M
 .unfold uR;rw [G.cY.nodeAt];have:=G.cY.get M
  have N:ag (p7 B y A)=B:=rfl;rw [N]at this;rw [this]
 .obtain⟨T,U⟩:=G.info M;unfold mO;have N:ag (p7 B y A)=B:=rfl
  rw [N]at U;show(((infos O l)[B]?.map (·.parts)).getD []).headD 0=_
  rw [U];rfl
def bM.ok(A:bG l)(b:bM l or wr):xb (cV l) or:=by
 exists by show(infos O l).length<=30;rw [eT];exact A.bL,λT i G=>?_,λT i G d=>?_,λT i G c N=>?_
 .obtain⟨D,M,_,U,rfl⟩:=A.xf G;show((kids D).map ag).length=arity (aB D)
  rw [z];cases D<;>first|rfl|(simp [aB];split<;>rfl)
 .obtain⟨D,M,e,U,rfl⟩:=A.xf G;cases D with
  |var f y=>
   have g:y≠du:=λh=>by have:aB (.var f y)=.used:=d;simp_all [aB]
   have m:f=T:=e;subst m;rw [A.bind M g];exact(A.bound _ y M).resolve_left g
  |_=>exact absurd d (λh=>nomatch h)
 .obtain⟨D,M,e,U,rfl⟩:=A.xf G;let⟨w,n,rfl⟩:=bH.mp N;have j:=gk (i6 M n)
  let⟨o,p,q,r,s⟩:=b.row _ j;exists o,p,?_,λu t=>?_
  .have:=s7 q r;have:=A.bL
   lia
  .let⟨y,x,_,_,_,U,v⟩:=xg A (b.sort j ((s (.fn u)).mp (lI.mp t)));exists _,_,_,v,S
def mU(G M:Pr)(N:aA->aA->Prop):Prop:=∃z A,G=D z/\M=D A/\N z A
variable{re Fk:Pr}
def s8{a b:aA}:(re,Fk)∈[(D a,D b)]↔mU re Fk λG M=>G=a/\M=b:=by
 rw [bb];constructor
 .intro N;injection N with c d;exists a,b,c,d,S,S
 .rintro⟨_,_,rfl,rfl,rfl,rfl⟩;rfl
variable{WI:aA->aA->Prop}
def Cr{A U:List Wy}(e:(re,Fk)∈A↔mU re Fk NE)(f:(re,Fk)∈U↔mU re Fk WI):(re,Fk)∈A++U↔mU re Fk λc d=>NE c d\/WI c d:=by
 rw [bR,e,f];constructor
 .rintro(⟨M,N,S,T,z⟩|⟨M,N,S,T,z⟩)
  .exact⟨M,N,S,T,.inl z⟩
  .exact⟨M,N,S,T,.inr z⟩
 .rintro⟨M,N,S,T,z|z⟩
  .exact .inl ⟨M,N,S,T,z⟩
  .exact .inr ⟨M,N,S,T,z⟩
theorem xh{a b a' b':aA}:(re,Fk)∈[(D a,D b),(D a',D b')]↔mU re Fk λM N=>(M=a/\N=b)\/(M=a'/\N=b'):=Cr (A:=[_]) s8 s8
def s9{f g:Nat->aA}{T:Nat->Prop}(U:∀u,u∈ww↔T u):(re,Fk)∈ww.map (λu=>(D (f u),D (g u)))↔mU re Fk λa b=>∃z,T z/\a=f z/\b=g z:=by
 rw [bH];constructor
 .rintro⟨u,A,c⟩;injection c with d e;exists f u,g u,d.symm,e.symm,u,(U u).mp A,S,S
 .rintro⟨_,_,rfl,rfl,u,A,rfl,rfl⟩;exists u,(U u).mpr A,S
def Cs(p:bG py)(x:bM py or wr)(q:l∈aG py){i:Pr}:(re,i)∈hG (cV py) (ag l) (aB l) ((kids l).map ag)++iC (cV py) or (ag l) (aB l) ((kids l).map ag)↔∃r s,re=D r/\i=D s/\eR py wr l r s:=by
 have m:∀B∈kids l,∃U,ba or (0,ag B)=Y U/\∀z,a6 z∈U↔wr (b5 B) z:=λB L=>by let⟨U,A,_,_,G⟩:=x.row _ (gk (i6 q L));exists U,A,G
 have O:(re,i)∈([]:List Wy)↔mU re i λ_ _=>False:=⟨nofun,λ⟨_,_,_,_,N⟩=>N.elim⟩
 cases l with
 |num d n=>exact O
 |fn d y M=>exact O
 |add d z M=>exact O
 |var d y=>
  by_cases C:y=du
  .subst C;simp [aB,hG,iC,eR,p.free d q]
  .simp only [aB,C,ie,hG,iC,b0,eR,(S:ag (hV d y)=d)];rw [show ag (hV d y)=d from rfl,p.bind q C];cases t:g7 py d with
   |none=>simp
   |some M=>
    constructor
    .intro N;have N:=bb.mp N
     injection N with A k;exists .name M,.node d,A,k,M,S,S,S
    .rintro⟨r,s,A,k,P,v,o,G⟩;obtain rfl:=aS v;subst o G;rw [A,k];exact bb.mpr S
 |letE d y z M=>exact xh (a:=b5 z) (b:=.name d) (a':=b5 M) (b':=.node d)
 |ifz d c z M=>exact xh (a:=b5 z) (b:=.node d) (a':=b5 M) (b':=.node d)
 |pair d z M=>exact xh (a:=b5 z) (b:=.first d) (a':=b5 M) (b':=.second d)
 |new d z=>exact s8 (a:=b5 z) (b:=.inside d)
 |fst d z=>
  let⟨U,A,G⟩:=m z (bE);show(re,i)∈(dJ 2 ((ba or (0,ag z)).getD [])).map _↔_
  rw [A];exact s9 (f:=.first) (g:=λ_=>.node d) λu=>lI.trans (G (.pair u))
 |snd d z=>
  let⟨U,A,G⟩:=m z (bE);show(re,i)∈(dJ 2 ((ba or (0,ag z)).getD [])).map _↔_
  rw [A];exact s9 (f:=.second) (g:=λ_=>.node d) λu=>lI.trans (G (.pair u))
 |get d z=>
  let⟨U,A,G⟩:=m z (bE);show(re,i)∈(dJ 3 ((ba or (0,ag z)).getD [])).map _↔_
  rw [A];exact s9 (f:=.inside) (g:=λ_=>.node d) λu=>lI.trans (G (.ref u))
 |set d H z=>
  let⟨U,A,G⟩:=m H (bE);show(re,i)∈[((0,ag z),(0,d))]++(dJ 3 ((ba or (0,ag H)).getD [])).map _↔_
  rw [A];exact Cr (s8 (a:=b5 z) (b:=.node d)) (s9 (f:=λ_=>b5 z) (g:=.inside) λu=>lI.trans (G (.ref u)))
 |app d E z=>
  let⟨U,A,G⟩:=m E (bE);have K:b5 E∈aq py:=gk (i6 q bE)
  simp only [aB,kids,aZ,hP,hG,iC,dh,eR,(S:ag (Ts d E z)=d),A,zP,jN,di];constructor
  .rintro⟨u,Q,N⟩;have T:=(G (.fn u)).mp (lI.mp Q)
   let⟨y,M,_,t,F,_⟩:=xg p (x.sort K T);rcases bg.mp N with N|N
   .injection N with k o;exists b5 z,.name u,k,o,u,T,.inl ⟨S,S⟩
   .injection (bb.mp N)with k o;exists .node (ag M),.node d,by rw [k,F];rfl,o,u,T,.inr ⟨_,t,S,S⟩
  .rintro⟨r,s,rfl,rfl,u,T,⟨rfl,rfl⟩|⟨P,v,rfl,rfl⟩⟩
   .exact⟨u,lI.mpr ((G (.fn u)).mpr T),bE⟩
   .let⟨y,M,_,t,F,_⟩:=xg p (x.sort K T);rw [t]at v;obtain rfl:=aS v;exists u,lI.mpr ((G (.fn u)).mpr T),bC _ (bb.mpr ?_);rw [F];rfl
def Ct(M:bG l)(k:bM l or wr):(re,Fk)∈fA (cV l) or (cV l).nodes.length↔∃N S,re=D N/\Fk=D S/\ed l wr N S:=by
 have z:(cV l).nodes.length=size l:=eT l O;unfold fA;rw [di];constructor
 .rintro⟨c,m,T⟩;rw [z,lY]at m;let⟨A,G,n⟩:=M.node m;let⟨d,e⟩:=M.info G;unfold q0 at T;have f:(cV l).nodes[c]?=Y (cZ d A):=by rw [<-n];exact e
  rw [f]at T;have T:(re,Fk)∈hG (cV l) c (aB A) ((kids A).map ag)++iC (cV l) or c (aB A) ((kids A).map ag):=T
  rw [<-n]at T;let⟨N,S,g,h,i⟩:=(Cs M k G).mp T;exists N,S,g,h,A,G,i
 .rintro⟨N,S,g,h,A,G,i⟩;exists ag A,by rw [z,lY];exact M.lt G,?_;let⟨d,e⟩:=M.info G;unfold q0;have f:(cV l).nodes[ag A]?=Y (cZ d A):=e
  rw [f];exact(Cs M k G).mpr ⟨N,S,g,h,i⟩
def fl(z:List aj):Nat:=(z.map cN).sum
theorem MU:fl []=0:=rfl
def o5(z:aj)(A:List aj):fl (z::A)=z.length+fl A:=by simp [fl]
def kD(z A:List aj):fl (z++A)=fl z+fl A:=by simp [fl]
def xi(z:List aj):z.flatten.length=fl z:=by
 induction z with
 |nil=>rfl
 |cons w a b=>grind [o5]
def restOf(z:List ae)(A:Nat):Nat:=(z.map λD=>1+fl (aY D)).sum+A
def df:ae->Nat->List (Nat×Nat)
 |.num d n,b=>[(fl (aY (.num d n))+b,b)]
 |.var d x,b=>[(fl (aY (.var d x))+b,b)]
 |.fn d x f,b=>(fl (aY (.fn d x f))+b,b)::df f (1+b)
 |.app d h a,b=>(fl (aY (.app d h a))+b,b)::(df h (restOf [a] (1+b))++df a (1+b))
 |.letE d x e f,b=>(fl (aY (.letE d x e f))+b,b)::(df e (restOf [f] (1+b))++df f (1+b))
 |.ifz d c g e,b=>(fl (aY (.ifz d c g e))+b,b)::(df c (restOf [g,e] (1+b))++(df g (restOf [e] (1+b))++df e (1+b)))
 |.pair d a f,b=>(fl (aY (.pair d a f))+b,b)::(df a (restOf [f] (1+b))++df f (1+b))
 |.fst d e,b=>(fl (aY (.fst d e))+b,b)::df e (1+b)
 |.snd d e,b=>(fl (aY (.snd d e))+b,b)::df e (1+b)
 |.new d e,b=>(fl (aY (.new d e))+b,b)::df e (1+b)
 |.get d e,b=>(fl (aY (.get d e))+b,b)::df e (1+b)
 |.set d a f,b=>(fl (aY (.set d a f))+b,b)::(df a (restOf [f] (1+b))++df f (1+b))
 |.add d a f,b=>(fl (aY (.add d a f))+b,b)::(df a (restOf [f] (1+b))++df f (1+b))
def fW:List ae->Nat->List (Nat×Nat)
 |[],_=>[]
 |k::ks,a=>df k (restOf ks a)++fW ks a
def o6(z:ae)(A:Nat):df z A=(fl (aY z)+A,A)::fW (kids z) (1+A):=by cases z<;>simp [df,kids,fW,restOf]
def o7:∀(z:ae) (A:Nat),(df z A).length=size z:=by intro z;induction z<;>intro A<;>simp only [df,dn,br,iP,BO,BP,oJ,oK,oL,oM,oN,oO,oP,oQ,oR,oS,oT, *]<;>lia
def MV(z A:List ae)(D:Nat):fW (z++A) D=fW z (restOf A D)++fW A D:=by
 induction z with
 |nil=>rfl
 |cons k ks a=>
  grind [restOf,fW]
structure RX where
 ws:List aj
 nodes:List Info
 around:List Nat
 sp:List (Nat×Nat)
def RX.rs(z:RX):RS:=⟨z.ws,z.nodes,z.around⟩
def fI(A:RX):Option RX:=(begin_ A.rs).map λz=>⟨z.ws,z.nodes,z.around,A.sp++[(fl A.ws,fl z.ws)]⟩
def fi(z:RX):Option RX:=match z.around with
 |[]=>O
 |p::A=>match z.nodes[p]? with
  |none=>O
  |some i=>if i.parts.length=arity i.aK then(pass [41] z.ws).map λD=>⟨D,z.nodes,A,z.sp.modify p λG=>(G.1,fl D)⟩
   else((if i.aK≠.call\/i.parts≠[]then pass [32] z.ws else Y z.ws)).bind λD=>fI ⟨D,z.nodes,p::A,z.sp⟩
def Cu(z:RX):(fI z).map RX.rs=begin_ z.rs:=by unfold fI;cases begin_ z.rs<;>rfl
def xj(M:RX):(fi M).map RX.rs=hE M.rs:=by
 let⟨z,D,G,T⟩:=M;cases G with
 |nil=>rfl
 |cons p G=>
  show(match D[p]? with
  |none=>O
  |some i=>if i.parts.length=arity i.aK then(pass [41] z).map λA=>(⟨A,D,G,T.modify p λU=>(U.1,fl A)⟩:RX)
   else((if i.aK≠Fm.call\/i.parts≠[]then pass [32] z else Y z)).bind λA=>fI ⟨A,D,p::G,T⟩).map RX.rs=match D[p]? with
  |none=>O
  |some i=>if i.parts.length=arity i.aK then(pass [41] z).map λA=>(⟨A,D,G⟩:RS)
   else((if i.aK≠Fm.call\/i.parts≠[]then pass [32] z else Y z)).bind λA=>begin_ ⟨A,D,p::G⟩
  cases D[p]? with
  |none=>rfl
  |some i=>
   dsimp only;by_cases c:i.parts.length=arity i.aK
   .rw [ai c,ai c];cases pass [41] z<;>rfl
   .rw [N c,N c];cases (if i.aK≠Fm.call\/i.parts≠[]then pass [32] z else Y z)with
    |none=>rfl
    |some A=>exact Cu _
def mV{z A:RX}(D:fi z=Y A):A.ws.length<z.ws.length:=by have:=xj z;rw [D]at this;exact qR (S':=A.rs) this.symm
def je:Nat->RX->Option RX
 |0,a=>if a.around=[]then Y a else O
 |n+1,a=>if a.around=[]then Y a else(fi a).bind (je n)
def ep(z:RX):Option RX:=je z.ws.length z
theorem xk:∀(D:Nat) (z:RX),z.ws.length<=D->je D z=ep z
 |0,z,c=>by unfold ep;rw [Ti.mp c]
 |D+1,z,c=>by
  unfold ep;cases d:z.ws.length with
  |zero=>
   unfold je;by_cases A:z.around=[]
   .rw [ai A,ai A]
   .rw [N A,N A];cases b:fi z with
    |none=>rfl
    |some a=>have:=mV b;lia
  |succ m=>
   show(if z.around=[]then Y z else(fi z).bind (je D))=if z.around=[]then Y z else(fi z).bind (je m);by_cases A:z.around=[]
   .rw [ai A,ai A]
   .rw [N A,N A];cases b:fi z with
    |none=>rfl
    |some a=>
     have:=mV b;show je D a=je m a
     rw [xk D a (by lia),xk m a (by lia)]
def mW(z:RX):ep z=if z.around=[]then Y z else(fi z).bind ep:=by
 by_cases A:z.around=[]
 .rw [ai A];unfold ep;cases z.ws.length<;>(simp_all [je])
 .rw [N A];unfold ep;cases c:z.ws.length with
  |zero=>
   unfold je;rw [N A];cases a:fi z with
   |none=>rfl
   |some b=>have:=mV a;lia
  |succ m=>
   show(if z.around=[]then Y z else(fi z).bind (je m))=_;rw [N A];cases a:fi z with
   |none=>rfl
   |some b=>
    have:=mV a;grind [xk]
def MW:∀(D:Nat) (z:RX),z.ws.length<=D->(ep z).map RX.rs=loop z.rs:=by
 intro D;induction D with
 |zero=>
  intro z G;rw [mW,qS];by_cases A:z.around=[]
  .rw [ai A,ai (show z.rs.around=[]from A)];rfl
  .rw [N A,N (show¬z.rs.around=[]from A),<-xj];cases a:fi z with
   |none=>rfl
   |some b=>have:=mV a;lia
 |succ D c=>
  intro z G;rw [mW,qS];by_cases A:z.around=[]
  .rw [ai A,ai (show z.rs.around=[]from A)];rfl
  .rw [N A,N (show¬z.rs.around=[]from A),<-xj];cases a:fi z with
   |none=>rfl
   |some b=>
    have:=mV a;exact c b (by lia)
def hH(A:List aj):Option (List Info×List (Nat×Nat)):=((fI ⟨A,[],[],[]⟩).bind ep).bind λz=>if z.ws=[]then Y (z.nodes,z.sp)else O
def xl(z:List aj):(hH z).map (·.1)=runM z:=by
 unfold hH runM;have A:begin_ ⟨z,[],[]⟩=(fI ⟨z,[],[],[]⟩).map RX.rs:=(Cu ⟨z,[],[],[]⟩).symm
 rw [A];cases fI ⟨z,[],[],[]⟩with
 |none=>rfl
 |some b=>
  show((ep b).bind _).map _=(loop b.rs).bind _;rw [<-MW _ b (aR _)];cases ep b with
  |none=>rfl
  |some a=>
   show(if a.ws=[]then Y (a.nodes,a.sp)else O).map _=if a.rs.ws=[]then Y a.rs.nodes else O;by_cases c:a.ws=[]
   .rw [ai c,ai (show a.rs.ws=[]from c)];rfl
   .rw [N c,N (show¬a.rs.ws=[]from c)];rfl
theorem tf(D:Fm):∀(G:List ae) (z:Nat) (A:List aj),z≠0->fl (dy D z (G.map aY)++A)=restOf G (fl A)
 |[],z,A,a=>by simp [dy,restOf]
 |k::ks,z,A,a=>by
  simp only [aZ,dy];rw [ai (.inr a),ck,ck,kD,kD,tf D ks (z+1) A (by lia)];unfold restOf;simp [fl]
  lia
def MX{pE:Nat->List aj->Option (ae×List aj)}{d1:Nat}(K:∀(c:Nat) (T:List aj) (h:List Info) (A:List Nat) (k:List (Nat×Nat)) (z:ae) (M:List aj),d1=A.length->c=h.length->k.length=h.length->c<=30->pE c T=Y (z,M)->(fI ⟨T,h,A,k⟩).bind ep=ep ⟨M,attach h A c++infos A.head? z,A,k++df z (fl M)⟩)(t:∀(c:Nat) (T:List aj) (z:ae) (M:List aj),c<=30->pE c T=Y (z,M)->T=aY z++M/\Reads d1 c z){fm:Fm} {x:aj} {p:Option Nat} {N0:List Info} {A:List Nat} {S0:List (Nat×Nat)} {s:Nat×Nat} (L:d1=A.length+1) (P:S0.length=N0.length):∀(e a:Nat) (T:List aj) (G:List Nat) (D:List Info) (U:List (Nat×Nat)) (f:List ae) (g M:List aj),G.length=a->a+e=arity fm->U.length=D.length->N0.length+1+D.length<=30->ho pE fm e a (N0.length+1+D.length) T=Y (f,g)->pass [41] g=Y M->ep ⟨T,N0++⟨fm,x,p,G⟩::D,N0.length::A,S0++s::U⟩=ep ⟨M,N0++⟨fm,x,p,G++f.map ag⟩::(D++f.flatMap (infos (Y N0.length))),A,S0++(s.1,fl M)::(U++fW f (fl g))⟩:=by
 intro e;induction e with
 |zero=>
  intro a T G D U f g M i u v l b m;cases b;rw [mW,N (by simp)];have n:(N0++(⟨fm,x,p,G⟩:Info)::D)[N0.length]?=Y ⟨fm,x,p,G⟩:=by rw [hu (aR _),kd];rfl
  simp only [fi,n];rw [ai (by rw [i];exact u),m];have o:(S0++s::U).modify N0.length (λx=>(x.1,fl M))=S0++(s.1,fl M)::U:=by rw [<-P,sR]
  simp [o,fW]
 |succ e Q=>
  intro a T G D U f g M i u v l b m;rw [mW,N (by simp)];have n:(N0++(⟨fm,x,p,G⟩:Info)::D)[N0.length]?=Y ⟨fm,x,p,G⟩:=by rw [hu (aR _),kd];rfl
  simp only [fi,n];rw [N (show¬G.length=arity fm by lia)];have w:(fm≠.call\/G≠[])↔(fm≠.call\/a≠0):=by refine rK rN ?_;rw [<-i];exact not_congr kX.symm
  have R:(if fm≠.call\/G≠[]then pass [32] T else Y T)=(if fm≠.call\/a≠0 then pass [32] T else Y T):=by
   by_cases j:fm≠.call\/a≠0
   .rw [ai j,ai (w.mpr j)]
   .rw [N j,N λV=>j (w.mp V)]
  simp only [ho]at b;let⟨W,X,b⟩:=ft.mp b;let⟨⟨z,d⟩,y,b⟩:=ft.mp b;let⟨⟨q,r⟩,B,b⟩:=ft.mp b;cases b;rw [R,X];simp only [gg];have C:(N0++(⟨fm,x,p,G⟩:Info)::D).length=N0.length+1+D.length:=by simp;lia
  have ab:(S0++s::U).length=N0.length+1+D.length:=by simp;lia
  rw [K (N0.length+1+D.length) W (N0++⟨fm,x,p,G⟩::D) (N0.length::A) (S0++s::U) z d (by simpa using L) C.symm (by rw [C,ab]) l y];let⟨ap,E⟩:=t _ _ _ _ l y;have ad:ag z=N0.length+1+D.length:=by exact(Row.mk E.qW:Row z _).lb
  simp only [Tp];have o:attach (N0++(⟨fm,x,p,G⟩:Info)::D) (N0.length::A) (N0.length+1+D.length)++infos (Y N0.length) z=N0++⟨fm,x,p,G++[ag z]⟩::(D++infos (Y N0.length) z):=by simp only [attach];rw [sR,ad];simp
  have F:N0.length+1+(D++infos (Y N0.length) z).length=N0.length+1+D.length+size z:=by
   rw [br,eT]
   lia
  have al:(S0++s::U)++df z (fl d)=S0++s::(U++df z (fl d)):=by simp
  rw [o,al];have H:=E.sz
  have:=Q (a+1) d (G++[ag z]) (D++infos (Y N0.length) z) (U++df z (fl d)) q r M (by simp [i]) (by lia) (by rw [br,br,o7,eT,v]) (by rw [F];exact H) (by rw [F];exact B) m;rw [this];have am:fl d=restOf q (fl r):=by let⟨an,_⟩:=wX t e (a+1) _ d q r H B;rw [an,tf _ _ _ _ (by lia)]
  rw [am];simp [fW,ck]
set_option tactic.hygienic true
theorem Cv:∀(d b U:Nat) (M:List aj) (G:List Info) (D:List Nat) (e:List (Nat×Nat)) (c:ae) (a:List aj),b=D.length->U=G.length->e.length=G.length->U<=30->gY d b U M=Y (c,a)->(fI ⟨M,G,D,e⟩).bind ep=ep ⟨a,attach G D U++infos D.head? c,D,e++df c (fl a)⟩
 |0,_,_,_,_,_,_,_,_,_,_,_,_,z=>by cases z
 |d+1,b,U,M,G,D,e,c,a,hd,o,R,y,z=>by
  have B:=sS (d+1) b U M c a y z;simp only [gY]at z;split at z
  .cases z
  .rename_i V;let⟨⟨f,q,h⟩,r,z⟩:=ft.mp z
   have t:=qT r;have C:begin_ (RX.rs ⟨M,G,D,e⟩)=Y ⟨h,attach G D G.length++[⟨f,q,D.head?,[]⟩],if en f=I then D else G.length::D⟩:=by unfold begin_ RX.rs;rw [N (by grind),r];rfl
   unfold fI;rw [C];simp [l8,gg];have u:fl M=fl (aY c)+fl a:=by rw [B.1,kD]
   split at z
   .rename_i i;let⟨j,g,k⟩:=cv.mp z
    cases k;have T:=lG g t
    rw [ai i,oU,o6,T.ks];unfold cZ;rw [T.fm,T.wd,T.ks,u,o];rfl
   .rename_i i;let⟨⟨E,v⟩,W,z⟩:=ft.mp z
    let⟨X,l,z⟩:=ft.mp z;let⟨j,g,k⟩:=cv.mp z
    cases k;have T:=lG g t
    dsimp only at l g T;rw [N i];have w:=MX (pE:=gY d (b+1)) (d1:=b+1) (λU M G F H j K m n L P Q=>Cv d (b+1) U M G F H j K m n L P Q) (λU M c a m n=>sS d (b+1) U M c a m n)
     (fm:=f) (x:=q) (p:=D.head?) (N0:=attach G D G.length) (A:=D) (S0:=e) (s:=(fl M,fl h)) (by rw [hd]) (by grind [oW]) (arity f) 0 h [] [] [] E v a S (by lia) S (by grind [oW])
     (by grind [oW]) l
    rw [oW]at w;rw [w,oU,o6,T.ks,T.lb];unfold cZ;rw [T.fm,T.wd,T.ks,u,o];have ab:fl v=1+fl a:=by rw [qV.mp l,o5];rfl
    grind
set_option tactic.hygienic false
def Cw{U:List (Nat×Nat)}:hH (bY [] (sw.map norm))=Y (wT,U)↔∃z,bo z=I/\bq z=sw/\size z<=30/\dH z<=8/\aW 0 z=z/\wT=infos O z/\U=df z 0:=by
 have a:∀z,bo z=I->size z<=30->dH z<=8->aW 0 z=z->hH (bY [] ((bq z).map norm))=Y (infos O z,df z 0):=by
  intro z A G M D;rw [B9 (wZ z A),w0 A];have e:bJ z=cj 0 (size z):=by have:=lF z 0;rw [D]at this;exact this
  have c:=B8 (gf z) z (aR _) 9 0 0 [] ⟨A,by lia,by lia,e⟩ (by lia);rw [b0]at c;unfold hH;rw [Cv 9 0 0 _ [] [] [] z [] S rfl rfl (by lia) c,mW,ai S];simp [attach,fl]
 constructor
 .intro b;have f:runM (bY [] (sw.map norm))=Y wT:=by rw [<-xl,b];rfl
  let⟨z,A,d,G,M,D,g⟩:=w1.mp f;exists z,A,d,G,M,D,g,?_;have:=a z A G M D
  rw [d,b]at this;injection this with this;injection this
 .rintro⟨z,A,rfl,G,M,D,rfl,rfl⟩;exact a z A G M D
def MY:hH (bY [] (sw.map norm))=O↔runM (bY [] (sw.map norm))=O:=by rw [<-xl,Tt]
def q2:∀z:ae,bq z=(aY z).flatten:=by intro z;induction z<;>simp_all [bq,aY,Hf,va,Hg]
def text_len(z:ae):(bq z).length=fl (aY z):=by rw [q2,xi]
def ti{y:ae}(G:ag l=B):cQ B y l=y:=by cases l<;>(have D:=G;simp only [ag]at D;simp [cQ,D])
def tj{y:ae}(G:ag l≠B):aB (cQ B y l)=aB l/\wordOf (cQ B y l)=wordOf l/\kids (cQ B y l)=(kids l).map (cQ B y)/\ag (cQ B y l)=ag l:=by cases l<;>(have D:=G;simp only [ag]at D;simp [cQ,D,aB,wordOf,kids,ag])
def o8{y:ae}:∀{A:ae},B∉bJ A->cQ B y A=A:=by
 intro A;induction A with
 |num b k=>grind [dI,ag,cQ]
 |var b k=>grind [dI,ag,cQ]
 |fn b x d g|fst b d g|snd b d g|new b d g|get b d g=>
  intro z;rw [dI]at z;simp [kids,ag,b3,et,b0,bg,pZ]at z;grind [cQ]
 |app b a d e f|pair b a d e f|set b a d e f|add b a d e f|letE b x a d e f=>
  intro z;rw [dI]at z;simp [kids,ag,b3,et,b0,bg,bR,pZ]at z;grind [cQ]
 |ifz b a d c e f h=>
  intro z;rw [dI]at z;simp [kids,ag,b3,et,b0,bg,bR,pZ]at z;grind [cQ]
def Cy{y:ae}(A:bo y=I):∀{D:ae},bo D=I->bo (cQ B y D)=I:=by
 intro D;induction D with
 |num b k=>intro z;simp only [cQ];split;exact A;exact z
 |var b k=>intro z;simp only [cQ];split;exact A;exact z
 |fn b x d e|letE b x a d f e=>intro z;simp only [cQ];split;exact A;simp_all [bo]
 |fst b d e|snd b d e|new b d e|get b d e=>intro z;simp only [cQ];split;exact A;simp_all [bo]
 |app b a d f g|pair b a d f g|set b a d f g|add b a d f g=>intro z;simp only [cQ];split;exact A;simp_all [bo]
 |ifz b a d c f g h=>intro z;simp only [cQ];split;exact A;simp_all [bo]
theorem Cz(G:Fm):∀(A D:List (List aj)) (z:Nat),dy G z (A++D)=dy G z A++dy G (z+A.length) D
 |[],D,z=>rfl
 |w::A,D,z=>by simp only [dg,dy,Cz G A D (z+1),dn,ck];rw [show z+1+A.length=z+(A.length+1)by lia]
theorem MZ(G:Fm):∀(D:List ae) (A:Nat) (z:List aj),restOf D (fl z)<=fl (dy G A (D.map aY)++z)+1
 |[],A,z=>by simp [dy,restOf]
 |k::ks,A,z=>by grind [tf,dy,kD,restOf]
def CB(z:Fm)(A:aj)(D:¬en z=I):1<=fl (hF z A):=by
 unfold hF;rw [N D];split
 .exact aR _
 .split<;>(rw [o5];simp)
def CC(A:en (aB l)=I):kids l=[]:=by rcases(qU l).mp A with⟨D,G,rfl⟩|⟨D,x,rfl⟩<;>rfl
def M0(z:ae)(D:Nat):restOf (kids z) (1+D)<=fl (aY z)+D+1:=by
 by_cases A:en (aB z)=I
 .rw [CC A];simp [restOf]
  lia
 .rw [oX A,kD];have G:=MZ (aB z) (kids z) 0 [[41]]
  have M:=CB (aB z) (wordOf z) A;have N:fl [[41]]=1:=rfl
  unfold restOf at*
  lia
def M3:∀(N:Nat) (A:ae),gf A<=N->∀z G,G∈df A z->G.1<=fl (aY A)+z:=by
 intro N;induction N with
 |zero=>intro A a;cases A<;>simp at a
 |succ N c=>
  intro A a z G T;rw [o6]at T;rcases bg.mp T with rfl|T
  .exact aR _
  .have d:∀(M:List ae) (z:Nat),(∀U∈M,U∈kids A)->G∈fW M z->G.1+1<=restOf M z:=by
    intro M;induction M with
    |nil=>intro z _ D;cases D
    |cons U M e=>
     intro z b D;unfold restOf;simp only [aZ,eC];rcases bR.mp D with D|D
     .have:=c U (by have:=h3 (b U bE);lia) _ G D;unfold restOf at this
      lia
     .have:=e z (λf g=>b f (bC _ g)) D;unfold restOf at this
      lia
   have h:=d (kids A) (1+z) (λ_ D=>D) T;have i:=M0 A z
   lia
def M4(G:bo l=I):1<=fl (aY l):=by
 by_cases A:en (aB l)=I
 .rcases(qU l).mp A with⟨M,D,rfl⟩|⟨M,x,rfl⟩
  .have:=(kA (n:=D) (d6 G)).1;unfold i7 at this;simp only [bx]at this;show 1<=fl [d9 D]
   rw [o5];cases hd:d9 D with
   |nil=>rw [hd]at this;simp at this
   |cons a b=>simp;lia
  .have:=lE (x:=x) G;unfold i7 at this;simp only [bx]at this;show 1<=fl [x]
   rw [o5];cases hd:x with
   |nil=>rw [hd]at this;simp at this
   |cons a b=>simp;lia
 .rw [oX A,kD];have:=CB (aB l) (wordOf l) A
  lia
def M5:∀(T:Nat) (A:ae),gf A<=T->bo A=I->∀z G,G∈df A z->z<G.1:=by
 intro T;induction T with
 |zero=>intro A b;cases A<;>simp at b
 |succ T d=>
  intro A b c z G U;rw [o6]at U;rcases bg.mp U with rfl|U
  .have:=M4 c;show z<fl (aY A)+z
   lia
  .have e:∀(N:List ae) (z:Nat),(∀M∈N,M∈kids A)->G∈fW N z->z<G.1:=by
    intro N;induction N with
    |nil=>intro z _ D;cases D
    |cons M N f=>
     intro z a D;rcases bR.mp D with D|D
     .have:=d M (by have:=h3 (a M bE);lia) (((mH A).mp c).2 M (a M bE)) _ G D;unfold restOf at this
      lia
     .exact f z (λg h=>a g (bC _ h)) D
   have:=e (kids A) (1+z) (λ_ D=>D) U
   lia
def M6:∀(i:Nat) (A:ae),gf A<=i->∀d,bJ A=cj d (size A)->∀T∈aG A,∀G,∃(j k:List (Nat×Nat)) (pre post:List aj),df A G=j++(df T (fl post+G)++k)/\j.length+d=ag T/\aY A=pre++(aY T++post)/\(∀b∈k,b.1<=fl post+G)/\(∀y,aY (cQ (ag T) y A)=pre++(aY y++post))/\∀y,size (cQ (ag T) y A)+size T=size A+size y:=by
 intro i;induction i with
 |zero=>intro A u;cases A<;>simp at u
 |succ i g=>
  intro A u d H T l G;let⟨L,m⟩:=kB H;rw [gn]at l;rcases bg.mp l with rfl|l
  .exact⟨[],[],[],[],by simp [fl],by simpa using L.symm,by simp,(λ_ M=>nomatch M),λy=>by rw [ti S];simp,λy=>by rw [ti S];lia⟩
  .obtain⟨c,h,v⟩:=di.mp l;let⟨D,N,f⟩:=Hq h;rw [f,k4,b3,aT,vd,aZ,eC]at m;have P:(D.flatMap bJ).length=(D.map size).sum:=by
    clear f m h;induction D with
    |nil=>rfl
    |cons a p g=>rw [b3,br,gX,g];rfl
   have Q:cj (d+1) ((D.map size).sum+(size c+(N.map size).sum))=cj (d+1) (D.map size).sum++(cj (d+1+(D.map size).sum) (size c)++cj (d+1+(D.map size).sum+size c) (N.map size).sum):=by rw [kc,kc]
   rw [Q]at m;let⟨R,n⟩:=mc m (by rw [P,qc]);let⟨n,V⟩:=mc n (by rw [gX,qc]);let⟨j,k,pre,post,W,a2,X,ab,ad,al⟩:=g c (by have:=h3 h;lia) _ n T v (restOf N (1+G));have w:¬en (aB A)=I:=λb=>by rw [CC b]at h;cases h
   have am:ag T∈bJ c:=by unfold bJ;exact dY v
   rw [n,ve]at am;have x:∀U∈D,ag T∉bJ U:=λU M b=>by
    have:ag T∈D.flatMap bJ:=di.mpr ⟨U,M,b⟩;rw [R,ve]at this
    lia
   have B:∀U∈N,ag T∉bJ U:=λU M b=>by
    have:ag T∈N.flatMap bJ:=di.mpr ⟨U,M,b⟩;rw [V,ve]at this
    lia
   have an:∀y,aY (cQ (ag T) y A)=hF (aB A) (wordOf A)++(dy (aB A) 0 (D.map aY++aY (cQ (ag T) y c)::N.map aY)++[[41]]):=by
    intro y;let⟨q,C,r,_⟩:=tj (y:=y) (show ag A≠ag T by lia);rw [oX (by rw [q];exact w),q,C,r,f];have s:D.map (cQ (ag T) y)=D:=(gE λU M=>o8 (x U M)).trans (rP D)
    have t:N.map (cQ (ag T) y)=N:=(gE λU M=>o8 (B U M)).trans (rP N);rw [aT,aZ,s,t,aT,aZ]
   have split:∀e:List aj,dy (aB A) 0 (D.map aY++e::N.map aY)=dy (aB A) 0 (D.map aY)++((if aB A≠.call\/D.length≠0 then [[32]]else [])++(e++dy (aB A) (D.length+1) (N.map aY))):=by intro e;rw [Cz];simp only [dy,z,uQ]
   have E:fl (post++(dy (aB A) (D.length+1) (N.map aY)++[[41]]))+G=fl post+restOf N (1+G):=by
    rw [kD,tf _ _ _ _ (by lia)];have:fl [[41]]=1:=rfl
    unfold restOf
    lia
   have F:∀e:List aj,hF (aB A) (wordOf A)++(dy (aB A) 0 (D.map aY++(pre++(e++post))::N.map aY)++[[41]])=(hF (aB A) (wordOf A)++(dy (aB A) 0 (D.map aY)++((if aB A≠.call\/D.length≠0 then [[32]]else [])++pre)))++(e++(post++(dy (aB A) (D.length+1) (N.map aY)++[[41]]))):=by intro e;rw [split];simp only [ck]
   exists (fl (aY A)+G,G)::(fW D (restOf (c::N) (1+G))++j),k++fW N (1+G),hF (aB A) (wordOf A)++(dy (aB A) 0 (D.map aY)++((if aB A≠.call\/D.length≠0 then [[32]]else [])++pre)),post++(dy (aB A) (D.length+1) (N.map aY)++[[41]]),?_,?_,?_,?_,?_,?_
   .rw [E,o6,f,MV];show _::(fW D (restOf (c::N) (1+G))++(df c (restOf N (1+G))++fW N (1+G)))=_
    rw [W];simp only [dg,ck]
   .have ap:∀(K:List ae) (G:Nat),(fW K G).length=(K.map size).sum:=by
     intro K;induction K with
     |nil=>intro G;rfl
     |cons a p g=>intro G;show(df a _++fW p G).length=_;rw [br,o7,g];rfl
    rw [dn,br,ap]
    lia
   .rw [oX w,f,aT,aZ,X,F]
   .intro b as;rw [E];rcases bR.mp as with M|M
    .exact ab b M
    .have a0:∀(o:List ae) (G:Nat),b∈fW o G->b.1<=restOf o G:=by
      intro o;induction o with
      |nil=>intro G M;cases M
      |cons a p a1=>
       intro G M;unfold restOf;simp only [aZ,eC];rcases bR.mp M with M|M
       .have:=M3 _ a (aR _) _ b M;unfold restOf at this
        lia
       .have:=a1 G M;unfold restOf at this
        lia
     have:=a0 N (1+G) M
     lia
   .intro y;rw [an y,ad y,F]
   .intro y;let⟨q,C,r,_⟩:=tj (y:=y) (show ag A≠ag T by lia);have s:D.map (cQ (ag T) y)=D:=(gE λU M=>o8 (x U M)).trans (rP D)
    have t:N.map (cQ (ag T) y)=N:=(gE λU M=>o8 (B U M)).trans (rP N);have:=al y
    rw [size_eq (cQ (ag T) y A),size_eq A,r,f,aT,aZ,s,t];simp only [aT,aZ,vd,eC]
    lia
def dM(z:List (Pr×List Pr))(A:Pr)(D:List Pr):List (Pr×List Pr):=z.map λy=>if y.1=A then(y.1,D)else y
def CD(z:List (Pr×List Pr))(A:Pr)(D:List Pr):(dM z A D).map (·.1)=z.map (·.1):=by
 unfold dM;rw [d7];refine gE λy _=>?_;show(if y.1=A then(y.1,D)else y).1=y.1
 split<;>rfl
theorem xm(A:List Pr):∀{D:List (Pr×List Pr)},re∉D.map (·.1)->dM D re A=D
 |[],_=>rfl
 |y::b,a=>by
  rw [aZ,bg,pZ]at a;show(if y.1=re then(y.1,A)else y)::dM b re A=_
  rw [N (λG=>a.1 G.symm),xm A a.2]
theorem o9(z:Pr):∀{U:List (Pr×List Pr)},re∈U.map (·.1)->ba (dM U re rc) z=if z=re then Y rc else ba U z
 |[],a=>by cases a
 |y::D,a=>by
  unfold ba dM;rw [aZ,gb,gb];have d:∀(D:List (Pr×List Pr)),z≠re->((dM D re rc).find? λy=>decide (y.1=z)).map (·.2)=(D.find? λy=>decide (y.1=z)).map (·.2):=by
   intro D G;induction D with
   |nil=>rfl
   |cons b D g=>
    grind [dM]
  by_cases M:y.1=re
  .rw [ai M];by_cases G:z=re
   .grind
   .rw [N G];have:¬y.1=z:=λe=>G (e.symm.trans M)
    rw [bU this];exact d D G
  .rw [N M];rw [aZ,bg]at a;have f:=a.resolve_left λb=>M b.symm
   by_cases c:y.1=z
   .grind
   .rw [bU c];exact o9 z f
def CF(G:ba or re=Y rc):(re,rc)∈or:=by
 unfold ba at G;let⟨y,M,N⟩:=cv.mp G
 grind
theorem kE(G:ba or re=Y rc):re∈or.map (·.1):=bH.mpr ⟨_,CF G,S⟩
theorem hI:∀{D:Tb} {A:Pr} {G:List Pr},(D.map (·.1)).Nodup->(A,G)∈D->ba D A=Y G
 |y::b,A,G,a,z=>by
  unfold ba;rw [aZ,ej]at a;rw [gb];rcases bg.mp z with z|z
  .rw [<-z];simp
  .have M:¬y.1=A:=λN=>a.1 (by rw [N];exact bH.mpr ⟨_,z,S⟩);rw [bU M];exact hI a.2 z
set_option tactic.hygienic true
def M7(G:(or.map (·.1)).Nodup)(M:ba or re=Y rc):dM or re rc=or:=by
 unfold dM;refine(gE λy N=>?_).trans (nU _);split
 .rename_i T;have:=hI G (show(re,y.2)∈or by grind)
  grind
 .rfl
set_option tactic.hygienic false
def ez(z:Tb):Nat:=(z.map λy=>y.2.length).sum
theorem CG{qs:List Pr}:∀{D:Tb},(D.map (·.1)).Nodup->ba D re=Y rc->ez (dM D re qs)+rc.length=ez D+qs.length
 |[],_,a=>by cases a
 |y::c,b,a=>by
  rw [aZ,ej]at b;unfold ba at a;rw [gb]at a;show ez ((if y.1=re then(y.1,qs)else y)::dM c re qs)+_=_
  by_cases A:y.1=re
  .rw [cq A]at a;have M:y.2=rc:=aS a
   rw [ai A,xm qs (by rw [<-A];exact b.1),<-M];unfold ez;simp only [aZ,eC]
   lia
  .rw [bU A]at a;rw [N A];have:=CG b.2 a (qs:=qs)
   unfold ez at this⊢;simp only [aZ,eC]at this⊢
   lia
theorem iD{z:sB->At}(S:∀A G,z A=z G->A=G):∀{M:List sB},M.Nodup->(M.map z).Nodup
 |[],_=>gc
 |A::a,b=>by grind
def bM.nodup(z:bG l)(A:bM l or wr):(or.map (·.1)).Nodup:=by rw [A.keys];exact iD (λ_ _=>d4) z.cY.places
def bM.set(U:bM l or TW)(b:nw∈aq l)(d:rc.Nodup)(f:∀g∈rc,∃z∈bp l,g=a6 z)(h:∀z,a6 z∈rc↔wr nw z)(i:∀A,A≠nw->∀z,TW A z↔wr A z):bM l (dM or (D nw) rc) wr:=by
 have j:D nw∈or.map (·.1):=by rw [U.keys];exact dY b
 exists by rw [CD];exact U.keys,λA k=>?_;rw [o9 _ j];by_cases c:A=nw
 .subst c;rw [ai S];exists rc,S,d,f,h
 .rw [N λG=>c (d4 G)];let⟨m,n,o,p,q⟩:=U.row A k;exists m,n,o,p,λz=>(q z).trans (i A c z)
def CH(T:Pred)(D:aA)(G:cw->Prop):Pred:=λz A=>T z A\/(z=D/\G A)
variable{KF:List Pr}
def bM.merge(N:bM l or wr)(a:nw∈aq l)(d:ba or (D nw)=Y rc){U:cw->Prop}(g:∀b∈KF,∃z∈bp l,b=a6 z)(h:∀z,a6 z∈KF↔U z):bM l (dM or (D nw) (cS rc KF)) (CH wr nw U)/\((cS rc KF).length=rc.length->∀z,U z->wr nw z):=by
 let⟨i,c,f,j,k⟩:=N.row nw a;rw [d]at c;obtain rfl:=aS c;exists N.set a (mz f) (λb A=>?_) (λz=>?_) (λm n z=>?_),λo z p=>?_
 all_goals grind [hn,CH,oC]
theorem xo:∀{l:List Nat} {z:Nat},(∀A∈l,A<=z)->l.sum<=l.length*z
 |[],_,_=>by simp
 |a::c,z,b=>by
  rw [eC,dn,Te];have:=xo (l:=c) λA D=>b A (bC _ D)
  have:=b a bE
  lia
def places_len(e:ae):(aq e).length<=3*size e:=by
 have S:∀(D:ae->List aA) (G:Nat),(∀A,(D A).length<=G)->∀z:List ae,(z.flatMap D).length<=G*z.length:=by
  intro D G M z;induction z with
  |nil=>simp
  |cons A b a=>
   rw [b3,br,dn,Nat.mul_succ];have:=M A
   cutsat
 have N:∀z:List ae,((z.flatMap λA=>[b5 A])++((z.flatMap λA=>match A with
  |.fn z _ _=>[Tg z]
  |.letE z _ _ _=>[.name z]
  |_=>[])++((z.flatMap λA=>match A with
  |.pair z _ _=>[Vy z,.second z]
  |_=>[])++z.flatMap λA=>match A with
  |.new z _=>[Vz z]
  |_=>[]))).length<=3*z.length:=by
  intro z;induction z with
  |nil=>simp
  |cons A b a=>
   simp only [b3,br,dn,iP]at a⊢;cases A<;>simp only [dn,iP]<;>cutsat
 exact N (aG e)
def bM.CI(G:bG l)(A:bM l or wr):ez or<=2790:=by
 have i:or.length=(aq l).length:=by have:=bD cN A.keys;rwa [z,z]at this
 have j:=places_len l;have k:=G.bL
 have U:ez or<=(or.map λy=>y.2.length).length*31:=by
  refine xo λe a=>?_;let⟨y,M,rfl⟩:=bH.mp a;have b:y.1∈(aq l).map D:=by rw [<-A.keys];exact dY M
  let⟨c,d,f⟩:=bH.mp b;let⟨m,N,g,h,_⟩:=A.row c d;rw [f,hI (A.nodup G) (show(y.1,y.2)∈or from M)]at N;rw [aS N];have:=s7 g h
  lia
 rw [z]at U
 lia
structure Cut(z x:ae)(a A:aj):Prop where
 text:bq z=a++(bq x++A)
 span:(df z 0)[ag x]?=Y ((bq x).length+A.length,A.length)
 put:∀y,bq (cQ (ag x) y z)=a++(bq y++A)
 size:∀y,Cf.size (cQ (ag x) y z)+Cf.size x=Cf.size z+Cf.size y
 le:ag x+Cf.size x<=Cf.size z
 back:∀D G,(df z 0)[D]?=Y G->ag x<=D->(G.1<=A.length↔ag x+Cf.size x<=D)
def xp(T:bG l)(D:py∈aG l):∃h i,Cut l py h i:=by
 have j:bJ l=cj 0 (Cf.size l):=by have:=lF l 0;rw [T.mS]at this;exact this
 let⟨s,t,pre,post,M,U,k,z,m,n⟩:=M6 _ l (aR _) 0 j py D 0;have o:bo py=I:=by
  have:∀(N:Nat) (l:ae),gf l<=N->bo l=I->∀py∈aG l,bo py=I:=by
   intro N;induction N with
   |zero=>intro l a;cases l<;>simp at a
   |succ N p=>
    intro l a b py D;rw [gn]at D;rcases bg.mp D with rfl|D
    .exact b
    .obtain⟨d,e,q⟩:=di.mp D;exact p d (by have:=h3 e;lia) (((mH l).mp b).2 d e) py q
  exact this _ l (aR _) T.told py D
 have f:(post.flatten).length=fl post:=xi post;have r:=bD cN M
 rw [br,br,o7,o7]at r;rw [j9]at M U;exists pre.flatten,post.flatten,?_,?_,λy=>?_,n,by lia,λu g G v=>?_
 .rw [q2,k,uY,uY,<-q2]
 .rw [M,<-U,hu (aR _),kd,o6,text_len,f];rfl
 .rw [q2,m,uY,uY,<-q2]
 .rw [f];rw [M,hu (by lia)]at G;constructor
  .intro w;refine GX λc=>?_;rw [uC (by rw [o7];lia)]at G;have:=M5 _ py (aR _) o _ g (cG G)
   lia
  .intro x;rw [hu (by rw [o7];lia)]at G;have:=z g (cG G)
   lia
def M8:∀(A:Nat) (z:ae),gf z<=A->∀y∈aG z,dH y<=dH z:=by
 intro A;induction A with
 |zero=>intro z G;cases z<;>simp at G
 |succ A a=>
  intro z G y D;rw [gn]at D;rcases bg.mp D with rfl|D
  .exact aR _
  .obtain⟨N,M,T⟩:=di.mp D;have:=a N (by have:=h3 M;lia) y T
   have:=B4 M
   lia
def M9{n:Nat}{y:ae}:∀(A:Nat) (z:ae),gf z<=A->n∈bJ z->y∈aG (cQ n y z):=by
 intro A;induction A with
 |zero=>intro z M;cases z<;>simp at M
 |succ A a=>
  intro z M D;by_cases G:ag z=n
  .rw [ti G];exact gW y
  .rw [dI]at D;have D:=(bg.mp D).resolve_left λS=>G S.symm
   let⟨T,N,U⟩:=di.mp D;let⟨_,_,b,_⟩:=tj (y:=y) G;rw [gn,b];refine bC _ (di.mpr ⟨_,dY N,a T (by have:=h3 N;lia) U⟩)
def Na(N:bG l)(T:py∈aG l)(d:runM (bY [] (sw.map norm))=O):rQ l (ag py) sw=O:=by
 let⟨o,p,U⟩:=xp N T;unfold rQ;cases e:He sw with
 |none=>rfl
 |some y=>
  let⟨a,f,g⟩:=BU.mp e;show hT (bq (cQ (ag py) y l))=O
  cases h:hT (bq (cQ (ag py) y l))with
  |none=>rfl
  |some q=>
   exfalso;let⟨i,j⟩:=qP.mp h;have M:=q1 i
   have b:=wQ M.told (Cy a N.told) j;have k:=bD Cf.size b
   have z:=bD dH b;rw [sO,sO]at k;rw [BS,BS]at z;have:=U.size y
   have:=U.le;have m:ag py∈bJ l:=by unfold bJ;exact dY T
   have:=M8 _ _ (aR _) y (M9 (n:=ag py) (y:=y) _ l (aR _) m);have:=M.bL
   have:=M.deep;have G:∃c,runM (bY [] (sw.map norm))=Y c:=⟨_,w1.mpr ⟨y,a,f,by lia,by lia,g,S⟩⟩
   let⟨c,G⟩:=G;rw [d]at G;cases G
def Nb(d:bG l)(k:py∈aG l){N:aj}(S:Cut l py PP N)(f:runM (bY [] (sw.map norm))=Y wT):rQ l (ag py) sw=hT (PP++(sw++N))/\ ∀G,hT (PP++(sw++N))=Y G->∃y,Cf.size G+Cf.size py=Cf.size l+Cf.size y/\aW 0 G=aW 0 (cQ (ag py) y l):=by
 let⟨y,U,T,_,_,g,_⟩:=w1.mp f;have h:=BU.mpr ⟨U,T,g⟩
 exists ?_,λG i=>⟨y,?_⟩
 .unfold rQ;rw [h];show hT (bq (cQ (ag py) y l))=_
  rw [S.put,T]
 .let⟨j,a⟩:=qP.mp i;rw [<-T,<-S.put]at a;have b:=wQ (q1 j).told (Cy U d.told) a
  have c:=bD Cf.size b;rw [sO,sO]at c;rw [c];exists S.size y,b
def xq(G A:ae)(D:Int)(z:Nat):Option Int:=if z<ag A then Y z else if ag A+Cf.size A<=z then Y (z+D)else O
def Nc(G:bG l)(N:py∈aG l){D:ae}{y:ae}(U:Cf.size D+Cf.size py=Cf.size l+Cf.size y)(M:Nat):(eu (e0 l D (ag py)) M).map (λT:Nat=>(T:Int))=xq l py ((Cf.size D:Int)-Cf.size l) M:=by
 have sz:zQ l (ag py)=Cf.size py:=by unfold zQ;rw [G.cY.nodeAt,G.cY.get N];rfl
 unfold eu e0 xq;rw [sz];have a:(aG D).length=Cf.size D:=rfl
 have b:(aG l).length=Cf.size l:=rfl;grind
def CJ{z:md}(A:eu z B=Y wE):(B<z.at_/\wE=B)\/(z.at_+z.old<=B/\wE=B-z.old+z.new):=by
 unfold eu at A;by_cases M:B<z.at_
 .rw [ai M]at A;cases A;exact .inl ⟨M,S⟩
 .rw [N M]at A;by_cases T:B<z.at_+z.old
  .rw [ai T]at A;cases A
  .rw [N T]at A;cases A;exact .inr ⟨GV T,S⟩
variable{WJ:Nat}
def CK{z:md}(N:eu z B=Y WJ)(S:eu z wE=Y WJ)(G:∀B,z.at_+z.old<=B->z.at_<=B-z.old+z.new):B=wE:=by
 have T:=G B;have U:=G wE
 have c:=CJ N;have a:=CJ S
 clear N S G
 lia
def CM{G:md}(M:rR G nw=Y v1):(D nw).1=(D v1).1/\eu G (D nw).2=Y (D v1).2:=by cases nw<;>(let⟨T,N,rfl⟩:=cv.mp M;exists S,N)
def CO{D:md}{A:cw}(G:zR D ul=Y A):(A=.num/\ul=.num)\/(A≠.num/\(a6 ul).1=(a6 A).1/\eu D (a6 ul).2=Y (a6 A).2):=by
 cases ul
 case num=>cases G;exact .inl ⟨S,S⟩
 all_goals (let⟨N,M,rfl⟩:=cv.mp G;exact .inr ⟨nofun,S,M⟩)
def Nd{z:md}(c:∀d,z.at_+z.old<=d->z.at_<=d-z.old+z.new){G M e:hv}(A:iV z G=Y e)(D:iV z M=Y e):G=M:=by
 let⟨h,i⟩:=G;let⟨j,k⟩:=M;let⟨r,l,A⟩:=ft.mp A;let⟨s,m,A⟩:=cv.mp A;let⟨t,n,D⟩:=ft.mp D;let⟨u,o,D⟩:=cv.mp D;subst A;injection D with N S;subst N S;have f:=CM l
 have g:=CM n;have N:h=j:=d4 (kf (f.1.trans g.1.symm) (CK f.2 g.2 c))
 have S:i=k:=by
  rcases CO m with⟨T,U⟩|⟨T,U,p⟩<;>rcases CO o with⟨a,b⟩|⟨a,b,q⟩
  .exact U.trans b.symm
  .exact absurd T a
  .exact absurd a T
  .exact lJ (kf (U.trans b.symm) (CK p q c))
 rw [N,S]
theorem Nf{z:sB->Option At}(S:∀A G c,z A=Y c->z G=Y c->A=G):∀{M:List sB},M.Nodup->(M.filterMap z).Nodup
 |[],_=>gc
 |A::a,b=>by grind
def Ng{s:md}(T:∀G,s.at_+s.old<=G->s.at_<=G-s.old+s.new){z u:iS}(M:z.Nodup)(U:u.Nodup):(k6 s z u).came+(k6 s z u).kept=u.length:=by
 show(u.countP λA=> !(z.map (iV s)).contains (Y A))+((z.map (iV s)).countP λo=>o.any u.contains)=u.length;have a:((z.map (iV s)).countP λo=>o.any u.contains)=((z.filterMap (iV s)).filter u.contains).length:=by
  rw [vf,<-Tu];clear M;induction z with
  |nil=>rfl
  |cons N b d=>
   grind
 have e:(u.filter λA=>(z.map (iV s)).contains (Y A)).length=((z.filterMap (iV s)).filter u.contains).length:=by refine VA ((vc (U.filter _) ((Nf (λN f c=>Nd T) M).filter _)).mpr λg=>?_);rw [dz,dz,j0];simp [gQ,bH];exact and_comm
 rw [a,<-e,<-Tu,zJ];have h:∀(D:hv->Bool) (u:iS),u.countP D+u.countP (λA=> !D A)=u.length:=by
  intro D u;induction u with
  |nil=>rfl
  |cons N b d=>
   grind
 grind
noncomputable def gq(z:ae)(A:Nat):aA->cw->Bool:=
 if A=0 thenλ_ _=>I else if A=1 thenλD G=>(nQ (d8 z) D).any (uV G)
 else if A=2 thenλD G=>(cH (ha z) D).any λM=>(rJ z).contains ⟨M,G⟩else gm z
def tm(A:ae)(z:Nat):me A z=eS A (gq A z):=by
 unfold me gq;by_cases D:z=0
 .simp_all [LS]
 .rw [N D,N D];by_cases G:z=1
  .simp_all [LX]
  .rw [N G,N G];by_cases M:z=2
   .rw [ai M,ai M];exact BL _
   simp_all [oH]
def gr(A:ae)(D:aA->cw->Bool):Pred:=λG z=>z∈bp A/\D G z=I
def q3(z:ae):Option cw:=match z with
 |.fn a _ _=>Y (.fn a)
 |.pair a _ _=>Y (.pair a)
 |.new a _=>Y (.ref a)
 |_=>O
def Nh{y:ae}(D:q3 l=Y ul)(G:q3 y=Y ul):ag l=ag y:=by cases l<;>simp [q3,zt,reduceCtorEq]at D<;>subst D<;>cases y<;>simp [q3,zt,reduceCtorEq,VB,VC,VD]at G<;>exact G.symm
def tp(D:bG l):(bp l).Nodup:=by
 refine ej.mpr ⟨λM=>?_,?_⟩
 .grind
 .have G:∀z:List ae,(z.map ag).Nodup->(z.filterMap q3).Nodup:=by
   intro z;induction z with
   |nil=>grind
   |cons x a b=>
    grind [Nh]
  refine G _ ?_;have:=D.cY.cY
  grind [bJ]
def xr(f:bG l)(g:bM l or (gr l SZ))(h:nw∈aq l):∃M,ba or (D nw)=Y M/\(((bp l).map a6).filter λb=>decide (b∈M))=((bp l).filter (SZ nw)).map a6/\M.length=((bp l).filter (SZ nw)).length:=by
 let⟨M,i,j,k,c⟩:=g.row nw h;exists M,i,?_,?_
 .rw [rL];congr 1;refine kY λN U=>?_;show decide (a6 N∈M)=SZ nw N
  rw [ic,nY,c];exists λd=>d.2,λd=>⟨U,d⟩
 .have:=(vc j (iD (λ_ _=>lJ) ((tp f).filter (SZ nw)))).mpr λb=>?_
  .rw [this.length_eq,z]
  .constructor
   .intro a;let⟨N,U,rfl⟩:=k b a;exact dY (dz.mpr ((c N).mp a))
   .intro a;let⟨N,U,rfl⟩:=bH.mp a;exact(c N).mpr (dz.mp U)
def xt(c:bG l)(U:bM l or (gr l SZ)):ez or=(eS l SZ).length:=by
 rw [LW];unfold ez;have f:∀(N:Tb) (G:List aA),N.map (·.1)=G.map D->(∀y∈N,y∈or)->(∀S∈G,S∈aq l)->(N.map λy=>y.2.length).sum=(G.map λS=>((bp l).filter (SZ S)).length).sum:=by
  intro N;induction N with
  |nil=>simp_all
  |cons y A g=>
   intro G z d e;cases G with
   |nil=>cases z
   |cons S h=>
    rw [aZ,aZ]at z;injection z with i j;rw [aZ,aZ,eC,eC,g h j (λa b=>d a (bC _ b)) λa b=>e a (bC _ b)];let⟨G,k,_,m⟩:=xr c U (e S bE)
    rw [<-i,hI (U.nodup c) (show(y.1,y.2)∈or from d y bE)]at k;grind
 exact f or _ U.keys (λ_ z=>z) λ_ z=>z
def ct(z:List Pr):List Int:=(z.length:Int)::z.flatMap λA=>[(A.1:Int),(A.2:Int)]
def told_set(A:List cw):(Hr A).map zS=ct (A.map a6):=by
 unfold Hr ct;rw [aZ,z];congr 1;induction A with
 |nil=>rfl
 |cons a c b=>
  rw [b3,aT,b,aZ,b3];congr 1;cases a<;>rfl
def tq(A:List aA):(Tv A).map zS=ct (A.map D):=by
 unfold Tv ct;rw [aZ,z];congr 1;induction A with
 |nil=>rfl
 |cons a c b=>
  rw [b3,aT,b,aZ,b3];congr 1;cases a<;>rfl
def cz(z:List Info)(c:Fm->Bool):List Nat:=(eX z.length).filter λA=>((z[A]?).map λi=>c i.aK).getD ao
def mX(T:bG l)(c:Fm->Bool):cz (infos O l) c=((aG l).filter λz=>c (aB z)).map ag:=by
 unfold cz;have a:∀D<(infos O l).length,(((infos O l)[D]?).map λi=>c i.aK).getD ao=(((aG l)[D]?).map λz=>c (aB z)).getD ao:=by
  intro D M;rw [eT]at M;let⟨z,N,b⟩:=T.node M;let⟨f,U⟩:=T.info N;have:=T.cY.get N
  rw [b]at U this;rw [U,this];rfl
 rw [kY (q:=λD=>(((aG l)[D]?).map λz=>c (aB z)).getD ao) λD M=>a D (lY.mp M),eT];have gen:∀(G:Nat),G<=size l->(eX G).filter (λD=>(((aG l)[D]?).map λz=>c (aB z)).getD ao)=(((aG l).take G).filter λz=>c (aB z)).map ag:=by
  intro G;induction G with
  |zero=>intro _;rfl
  |succ G d=>
   intro e;obtain⟨z,N⟩:∃z,(aG l)[G]?=Y z:=⟨_,gd e⟩
   rw [qe,nT,d (by lia),dq,N,nT,aT];congr 1;simp only [ig,vg,N,l8,zP,Hs];have M:=T.cY.at N
   split<;>simp [M]
 have:=gen (size l) (aR _);rw [this];congr 2;exact dB
def iE:Fm->Option Nat
 |.fn=>Y 1|.pair=>Y 2|.new=>Y 3|_=>O
def xu(z:List Info):List Pr:=(0,0)::(eX z.length).filterMap λA=>((z[A]?).bind λi=>iE i.aK).map λD=>(D,A)
def Ni(N:bG l):xu (infos O l)=(bp l).map a6:=by
 unfold xu bp;rw [aZ];show(0,0)::_=(0,0)::_
 congr 1;rw [eT,zT];have gen:∀(D:Nat),D<=size l->(eX D).filterMap (λz=>(((infos O l)[z]?).bind λi=>iE i.aK).map λa=>((a,z):Pr))=((aG l).take D).filterMap λG=>(match G with
   |.fn z _ _=>Y (G8 z)
   |.pair z _ _=>Y (.pair z)
   |.new z _=>Y (.ref z)
   |_=>O).map a6:=by
  intro D;induction D with
  |zero=>intro _;rfl
  |succ D b=>
   intro c;obtain⟨G,M⟩:∃G,(aG l)[D]?=Y G:=⟨_,gd c⟩
   let⟨d,T⟩:=N.info (cG M);have U:=N.cY.at M
   rw [U]at T;rw [qe,vh,b (by lia),dq,M,vh];congr 1;simp only [kR,zU,T,gg,Hs];subst U;have e:iE (cZ d G).aK=iE (aB G):=rfl
   rw [e];cases G with
   |var z y=>
    have:iE (aB (.var z y))=O:=by simp only [aB];split<;>rfl
    rw [this];rfl
   |_=>rfl
 have:=gen (size l) (aR _);rw [this];congr 1;exact dB
def jf(z:Fm):Bool:=match z with
 |.fn=>I|.letE=>I|_=>ao
def tr(A:List Info):List Pr:=(eX A.length).map (λz=>(0,z))++(cz A jf).map (λz=>(1,z))++(cz A λD=>decide (D=.pair)).flatMap (λz=>[(2,z),(3,z)])++(cz A λD=>decide (D=.new)).map λz=>(4,z)
theorem q4(c:ae->Bool)(A:Nat->List sB)(D:ae->List sB)(M:∀z,D z=if c z=I then A (ag z)else []):∀N:List ae,(((N.filter c).map ag).flatMap A)=N.flatMap D
 |[]=>rfl
 |z::a=>by rw [b3,<-q4 c A D M a,M z,ig];split<;>simp
def CP(N:bG l):tr (infos O l)=(aq l).map D:=by
 unfold tr aq;rw [mX N,mX N,mX N,eT];rw [aT,aT,aT,ck,ck];have T:∀(U:Nat) (A:List Nat),(A.map λA=>((U,A):Pr))=A.flatMap λA=>[(U,A)]:=λU A=>by
  induction A with
  |nil=>rfl
  |cons a b c=>grind
 congr 1
 .have:(eX (size l))=(aG l).map ag:=by
   have:=N.cY.cY;unfold bJ at this;rw [this,z];rfl
  rw [this,T,p9];have:=q4 (λ_=>I) (λA=>[((0,A):Pr)]) (λG=>[D (b5 G)]) (λG=>by rw [ai S];rfl) (aG l)
  rw [Hb.mpr λ_ _=>S]at this;grind
 congr 1
 .rw [T,p9];refine q4 _ _ _ (λG=>?_) _;cases G with
  |var A y=>
   grind [jf,aB]
  |_=>rfl
 congr 1
 .rw [p9];refine q4 _ _ _ (λG=>?_) _;cases G with
  |var A y=>
   grind [aB]
  |_=>rfl
 .rw [T,p9];refine q4 _ _ _ (λG=>?_) _;cases G with
  |var A y=>
   grind [aB]
  |_=>rfl
def eU(A:List Pr):List Nat:=A.filterMap λz=>if z.1=1 then Y z.2 else O
def CQ(A:List cw):eU (A.map a6)=A.filterMap λz=>match z with
  |.fn k=>Y k
  |_=>O:=by
 unfold eU;rw [List.filterMap_map];congr 1;funext z;cases z<;>rfl
def dG(z:List Info)(A:Nat):Nat:=(((z[A]?).map (·.parts)).getD []).headD 0
def hJ(z:List Info)(D:Nat->List Nat):List Pr:=(cz z λG=>decide (G=.call)).flatMap λA=>(D (dG z A)).map λM=>(A,M)
def CS(N:bG l)(M:aA->cw->Bool):(rS l (eS l M)).map (λD=>((D.site,D.fn):Pr))=hJ (infos O l) λc=>eU (((bp l).filter (M (.node c))).map a6):=by
 unfold hJ rS;rw [mX N,p9];have d:∀z:List ae,(∀G∈z,G∈aG l)->z.flatMap (λG=>rT (λD:Tw=>((D.site,D.fn):Pr)) (match G with
   |.app z a _=>(nQ (eS l M) (b5 a)).filterMap λv=>(match v with
    |.fn T=>Y ⟨z,T⟩
    |_=>O)
   |_=>[]))=(((z.filter λG=>decide (aB G=.call)).map ag).flatMap λz=>(eU (((bp l).filter (M (.node (dG (infos O l) z)))).map a6)).map λT=>((z,T):Pr)):=by
  intro z;induction z with
  |nil=>intro _;rfl
  |cons G A e=>
   intro U;rw [b3,e λy f=>U y (bC _ f),ig];cases G with
   |app z a D=>
    have b:=U _ bE;let⟨g,h⟩:=N.info b;have i:dG (infos O l) z=ag a:=by unfold dG;rw [show(infos O l)[z]?=Y (cZ g (.app z a D))from h];rfl
    rw [ai (by rfl),aZ,b3];congr 1;have j:b5 a∈aq l:=gk (i6 b (by simp [kids]))
    dsimp only;rw [show ag (.app z a D)=z from rfl,i,CQ,wM N.cY.places M j];rw [zT,zT];congr 1;funext v;cases v<;>rfl
   |var z y=>
    have:decide (aB (.var z y)=.call)=ao:=by simp only [aB];split<;>rfl
    rw [this];rfl
   |_=>rfl
 exact d _ λ_ k=>k
def bT(A:Tb):Pred:=λG M=>∃z,ba A (D G)=Y z/\a6 M∈z
def bM.key(A:bM l or wr)(G:re∈or.map (·.1)):∃M∈aq l,re=D M:=by rw [A.keys]at G;grind
def bM.lL(A:bM l or wr)(G:bT or nw ul):nw∈aq l:=by
 let⟨N,M,_⟩:=G;let⟨S,U,a⟩:=A.key (kE M)
 grind [d4]
def bM.mY(D:bM l or wr)(G:nw∈aq l)(A:cw):bT or nw A↔wr nw A:=by
 let⟨M,N,a,b,S⟩:=D.row nw G;constructor
 .rintro⟨c,d,f⟩;grind
 .intro U;exists M,N,(S A).mpr U
theorem bM.tt(z:bM l or wr):bM l or (bT or):=z.congr λG A D=>(z.mY A D).symm
theorem bM.look(M:bM l or wr)(N:nw∈aq l):∃A,ba or (D nw)=Y A/\A.Nodup/\(∀S∈A,∃G∈bp l,S=a6 G)/\∀G,a6 G∈A↔bT or nw G:=M.tt.row nw N
def bM.CT(d:bG l)(S:bM l or (bT or))(f:nw∈aq l){qs:List Pr}(b:ba or (D nw)=Y rc)(g:∀c∈qs,∃A∈bp l,c=a6 A):bM l (dM or (D nw) (cS rc qs)) (bT (dM or (D nw) (cS rc qs)))/\(∀N A,bT (dM or (D nw) (cS rc qs)) N A↔bT or N A\/(N=nw/\a6 A∈qs))/\ ez (dM or (D nw) (cS rc qs))+rc.length=ez or+(cS rc qs).length/\((cS rc qs).length=rc.length->dM or (D nw) (cS rc qs)=or/\∀c∈qs,c∈rc):=by
 let⟨a,_⟩:=S.merge f b (U:=λA=>a6 A∈qs) g λA=>rN;exists a.tt,λN A=>?_,CG (S.nodup d) b,λG=>⟨?_,(oC G).1⟩
 .constructor
  .intro G;exact(a.mY (a.lL G) A).mp G
  .intro G;have h:N∈aq l:=by
    rcases G with G|⟨G,_⟩
    .exact S.lL G
    .grind
   exact(a.mY h A).mpr G
 .rw [(oC G).2];exact M7 (S.nodup d) b
def bM.sub(z:bM l or wr)(G:ba or re=Y rc):∀M∈rc,∃N∈bp l,M=a6 N:=by
 let⟨U,a,rfl⟩:=z.key (kE G);let⟨b,c,d,f,g⟩:=z.row U a
 grind
def bM.len(A:bM l or wr)(M:bG l)(D:ba or re=Y rc):rc.length<=31/\rc.Nodup:=by
 let⟨U,a,rfl⟩:=A.key (kE D);let⟨d,G,b,c,f⟩:=A.row U a
 rw [D]at G;obtain rfl:=aS G;have:=s7 b c
 have:=M.bL;grind
def tu(d:bG l)(G:bM l or wr)(f:(re,Fk)∈fA (cV l) or (cV l).nodes.length):∃z A,re=D z/\Fk=D A/\z∈aq l/\A∈aq l/\ed l (bT or) z A:=by
 let⟨z,A,g,h,M⟩:=(Ct d G.tt).mp f;have a:∀b N,bT or b N->N∈bp l:=λb N c=>G.tt.sort (G.lL c) c
 exists z,A,g,h,qN a M,oG a M,M
theorem tw(G:bG l)(M:bM l or wr)(N:ed l (bT or) nw v1):(D nw,D v1)∈fA (cV l) or (cV l).nodes.length:=(Ct G M.tt).mpr ⟨nw,v1,S,S,N⟩
def Nj(N:bM l or wr)(S:∀A z,fG l A z->bT or A z)(U:∀A z,bT or A z->gJ l A z)(a:∀D G,ed l (bT or) D G->∀z,bT or D z->bT or G z):bM l or (gr l (gm l)):=by
 refine N.tt.congr λA b z=>?_;unfold gr;rw [qM];constructor
 .intro M;exists N.tt.sort b M,U A z M
 .intro M;exact M.2 _ ⟨S,λD G z c d=>a D G c z d⟩
structure jg(z:ae)(A:aA->aA):Prop where
 hK:∀p∈aq z,A p∈aq z
 rep:∀p∈aq z,A (A p)=A p
 eqv:∀p∈aq z,Eqv z p (A p)
def lM(A:ae)(D:aA->aA):Nat:=((aq A).filter λz=>decide (D z=z)).length
def joinR(z:aA->aA)(D G:aA):aA->aA:=λA=>if z A=G then D else z A
def jh(z:ae)(A:aA->aA):Pred:=λG M=>∃D∈aq z,A D=A G/\fG z D M
theorem Nk(e:ae):jg e id:=⟨λ_ z=>z,λ_ _=>S,λA _=>(kC e).refl A⟩
set_option tactic.hygienic true
variable{t1:aA->aA}
def Nl(G:jg l t1)(b:v1∈aq l)(d:nw∈aq l)(hw:Eqv l v1 nw)(h:t1 v1≠t1 nw):jg l (joinR t1 (t1 v1) (t1 nw))/\lM l (joinR t1 (t1 v1) (t1 nw))<lM l t1:=by
 have U:=kC l;exists ⟨λz S=>?_,λz S=>?_,λz S=>?_⟩,?_
 .unfold joinR;split
  .exact G.hK v1 b
  .exact G.hK z S
 .unfold joinR;by_cases c:t1 z=t1 nw
  .rw [ai c,G.rep v1 b,N h]
  .rw [N c,G.rep z S,N c]
 .unfold joinR;split
  .rename_i c;have f:=G.eqv z S
   rw [c]at f;exact U.trans _ _ _ f (U.trans _ _ _ (U.symm _ _ (G.eqv nw d)) (U.trans _ _ _ (U.symm _ _ hw) (G.eqv v1 b)))
  .exact G.eqv z S
 .unfold lM;have q:∀z∈aq l,joinR t1 (t1 v1) (t1 nw) z=z->t1 z=z/\z≠t1 nw:=by
   intro z S T;unfold joinR at T;by_cases c:t1 z=t1 nw
   .rw [ai c]at T;rw [<-T,G.rep v1 b]at c;grind
   .grind
  have i:∀M:List aA,(∀z∈M,z∈aq l)->(M.filter λz=>decide (joinR t1 (t1 v1) (t1 nw) z=z)).length<=(M.filter λz=>decide (t1 z=z)).length/\(t1 nw∈M->(M.filter λz=>decide (joinR t1 (t1 v1) (t1 nw) z=z)).length<(M.filter λz=>decide (t1 z=z)).length):=by
   intro M;induction M with
   |nil=>grind
   |cons z r j=>
    intro k;let⟨R,m⟩:=j λn o=>k n (bC _ o)
    rw [ig,ig];by_cases p:joinR t1 (t1 v1) (t1 nw) z=z
    .grind
    .rw [N λa=>p (d6 a)];by_cases g:t1 z=z
     .grind
     .rw [N λa=>g (d6 a)];exists R,λT=>m ((bg.mp T).resolve_left λa=>g ?_);rw [<-a,G.rep nw d]
  exact(i _ λ_ T=>T).2 (G.hK nw d)
set_option tactic.hygienic false
def Nm(N:jg l t1)(U:∀z A,wr z A->z∈aq l/\jh l t1 z A)(a:ed l wr nw v1):Eqv l nw v1:=by
 have M:=kC l;refine M.way nw v1 (a.mono λz A b=>?_);let⟨c,T,d,f,g⟩:=U z A b
 exists T,?_,g;have:=N.eqv T d
 rw [f]at this;exact M.trans _ _ _ (N.eqv z c) (M.symm _ _ this)
def Nn(q:jg l t1)(i:∀M N,M∈aq l->N∈aq l->ed l (λz A=>z∈aq l/\jh l t1 z A) M N->t1 M=t1 N):∀z∈aq l,∀D∈aq l,Eqv l z D->t1 z=t1 D:=by
 intro z r D T j;have d:∀(z:aA) (A:cw),(z∈aq l/\jh l t1 z A)->A∈bp l:=λz A ⟨_,D,_,_,G⟩=>(lC G).2
 have c:sX l λz D=>z=D\/(z∈aq l/\D∈aq l/\t1 z=t1 D):=by
  exists λz=>.inl S,λz D G=>G.imp Eq.symm λ⟨A,U,c⟩=>⟨U,A,c.symm⟩,λz D s k f=>?_,λM N e=>?_
  .rcases k with rfl|⟨A,U,c⟩
   .exact f
   .rcases f with rfl|⟨t,m,n⟩
    .exact .inr ⟨A,U,c⟩
    .exact .inr ⟨A,m,c.trans n⟩
  .have a:ed l (λz A=>z∈aq l/\jh l t1 z A) M N:=e.mono λz A ⟨D,G,b⟩=>by
    have T:=(lC b).1;rcases G with rfl|⟨o,p,c1⟩
    .exact⟨T,z,T,S,b⟩
    .exact⟨o,D,p,c1.symm,b⟩
   have g:=qN d a;have h:=oG d a
   exact .inr ⟨g,h,i M N g h a⟩
 rcases j _ c with rfl|⟨_,_,G⟩
 .rfl
 .exact G
def Np(b:bG l)(T:jg l t1)(c:∀nw∈aq l,∀A∈aq l,Eqv l nw A->t1 nw=t1 A)(N:nw∈aq l)(D:cw):jh l t1 nw D↔gr l (gq l 2) nw D:=by
 have U:=kC l;have d:gq l 2 nw D=((aq l).filter (jM l nw)).any λA=>(rJ l).contains ⟨A,D⟩:=by rw [<-sZ b.cY N];rfl
 unfold gr jh;rw [d,Hl];constructor
 .rintro⟨A,G,f,M⟩;exists (lC M).2,A,dz.mpr ⟨G,mI.mpr ?_⟩,gQ.mpr M;have:=T.eqv A G
  rw [f]at this;exact U.trans _ _ _ (T.eqv nw N) (U.symm _ _ this)
 .rintro⟨_,A,G,M⟩;let⟨a,g⟩:=dz.mp G
  exists A,a,(c nw N A a (mI.mp g)).symm,gQ.mp M
def xv(T:bG l)(M:jg l t1)(U:∀nw∈aq l,∀A∈aq l,Eqv l nw A->t1 nw=t1 A)(D:nw∈aq l):((aq l).filter λA=>decide (t1 A=t1 nw))=cH (ha l) nw:=by
 have N:=kC l;rw [sZ T.cY D];refine kY λA S=>?_;rw [ic,nY,mI];constructor
 .intro G;have:=M.eqv A S
  rw [G]at this;exact N.trans _ _ _ (M.eqv nw D) (N.symm _ _ this)
 .intro G;exact(U nw D A S G).symm
def Nq(G:bG l)(M:jg l t1)(N:∀z∈aq l,∀A∈aq l,Eqv l z A->t1 z=t1 A):((((aq l).filter λz=>decide (t1 z=z)).map λz=>((aq l).filter λA=>decide (t1 A=t1 z)).length)).Perm ((ha l).map cN):=by
 have S:=(MM G.cY (r:=t1) (λz D=>⟨M.hK z D,M.eqv z D⟩) N).map cN;rw [d7]at S;refine VE (VF (gE λz D=>?_)) S;have T:=(dz.mp D).1
 show _=((aq l).filter (jM l z)).length;rw [xv G M N T,sZ G.cY T]
def xw(A:List Info)(D:Pr):List Pr:=match(A[D.2]?).map (·.aK)with
 |none=>[]
 |some z=>if D.1=0/\(z=.call\/z=.fst\/z=.snd\/z=.get)then [(0,dG A D.2)]
  else if D.1=1/\z=.fn then(cz A λz=>decide (z=.call)).map λG=>(0,dG A G)
  else if D.1=4 then(cz A λz=>decide (z=.set)).map λG=>(0,dG A G)else []
section
variable {e:ae} (G:bG e)
include G
def bG.part{z A:ae}{r:List ae}(D:z∈aG e)(M:kids z=A::r):dG (infos O e) (ag z)=ag A:=by
 let⟨T,N⟩:=G.info D;unfold dG;rw [N];show((kids z).map ag).headD 0=_
 rw [M];rfl
def CU{M:Fm}(T:ae->Option aA)(a:∀z∈aG e,T z=if aB z=M then Y (.node (dG (infos O e) (ag z)))else O):((aG e).filterMap T).map D=(cz (infos O e) λb=>decide (b=M)).map λA=>(0,dG (infos O e) A):=by
 rw [mX G,zT,d7];have d:∀A:List ae,(∀z∈A,z∈aG e)->(A.filterMap λf=>(T f).map D)=(A.filter λz=>decide (aB z=M)).map ((λA=>((0,dG (infos O e) A):Pr))∘ag):=by
  intro A;induction A with
  |nil=>intro _;rfl
  |cons z k g=>
   intro U;rw [kR,ig,a z (U z bE),g λy h=>U y (bC _ h)];by_cases c:aB z=M
   .rw [ai c,ai (cq c)];rfl
   .rw [N c,N λi=>c (d6 i)];rfl
 exact d _ λ_ j=>j
def Nr:(Hn e).map D=(cz (infos O e) λA=>decide (A=.call)).map λz=>(0,dG (infos O e) z):=by
 refine CU G _ λM T=>?_;cases M with
 |app z A a=>rw [ai (by rfl),G.part T (r:=[a]) S];rfl
 |var z y=>rw [N];grind [aB]
 |_=>rfl
def Nt:(Ho e).map D=(cz (infos O e) λA=>decide (A=.set)).map λz=>(0,dG (infos O e) z):=by
 refine CU G _ λM T=>?_;cases M with
 |set z A a=>rw [ai (by rfl),G.part T (r:=[a]) S];rfl
 |var z y=>rw [N];grind [aB]
 |_=>rfl
def pa{N:aA}(b:N∈aq e):∃M∈aG e,ag M=(D N).2/\(∀A,N=.inside A->aB M=.new)/\(∀A,N=.first A\/N=.second A->aB M=.pair)/\(∀A,N=.name A->aB M=.fn\/aB M=.letE):=by
 rcases hZ.mp b with⟨M,c,rfl⟩|⟨A,rfl,⟨y,a,h⟩|⟨y,d,a,h⟩⟩|h
 .exact⟨M,c,S,(λA z=>by cases z),(λA z=>by rcases z with z|z<;>cases z),λA z=>by cases z⟩
 .exact⟨_,h,S,(λA z=>by cases z),(λA z=>by grind),λA z=>.inl S⟩
 .exact⟨_,h,S,(λA z=>by cases z),(λA z=>by grind),λA z=>.inr S⟩
 .rcases h with⟨A,U,f,a,T⟩|⟨A,U,d,T⟩
  .rcases U with rfl|rfl
   .exact⟨_,T,S,(λA z=>by cases z),(λA z=>S),λA z=>by cases z⟩
   .exact⟨_,T,S,(λA z=>by cases z),(λA z=>S),λA z=>by cases z⟩
  .subst U;exact⟨_,T,S,(λA z=>S),(λA z=>by grind),λA z=>by cases z⟩
def Nu{T:aA}(k:T∈aq e):xw (infos O e) (D T)=(e9 e T).map D:=by
 let⟨z,M,h,q,s,t⟩:=pa G k;let⟨u,l⟩:=G.info M
 unfold xw;rw [<-h,l];show(if(D T).1=0/\(aB z=.call\/aB z=.fst\/aB z=.snd\/aB z=.get)then [(0,dG (infos O e) (ag z))]
  else if(D T).1=1/\aB z=.fn then(cz (infos O e) λU=>decide (U=.call)).map λA=>(0,dG (infos O e) A)
  else if(D T).1=4 then(cz (infos O e) λU=>decide (U=.set)).map λA=>(0,dG (infos O e) A)else [])=_
 cases T with
 |node A=>
  have f:ag z=A:=h;have m:ma e A=Y z:=by rw [G.cY.nodeAt,<-f];exact G.cY.get M
  unfold e9;simp [m];cases z with
  |app b U a=>rw [ai ⟨S,.inl S⟩,G.part M (r:=[a]) S];rfl
  |fst b d=>rw [ai ⟨S,.inr (.inl S)⟩,G.part M (r:=[]) S];rfl
  |snd b d=>rw [ai ⟨S,.inr (.inr (.inl S))⟩,G.part M (r:=[]) S];rfl
  |get b d=>rw [ai ⟨S,.inr (.inr (.inr S))⟩,G.part M (r:=[]) S];rfl
  |var b y=>
   have:aB (.var b y)=.given\/aB (.var b y)=.used:=by simp only [aB];split<;>simp
   rcases this with this|this<;>rw [this]<;>rfl
  |_=>rfl
 |name A=>
  have f:=h;unfold e9;dsimp only;rw [N (λg=>by grind)];have j:(zO e).contains A=I↔aB z=.fn:=by
   rw [gQ];unfold zO;rw [bH];constructor
   .rintro⟨y,i,n⟩;let⟨i,o⟩:=dz.mp i
    have:=G.cY.uniq i M (n.trans f.symm);subst this;cases y<;>first|rfl|cases o
   .intro p;exists z,dz.mpr ⟨M,?_⟩,f;cases z with
    |fn b y v=>rfl
    |var b y=>grind [aB]
    |_=>cases p
  by_cases c:aB z=.fn
  .rw [ai ⟨S,c⟩,ai (j.mpr c),Nr G]
  .rw [N λg=>c g.2,N λg=>c (j.mp g)];rfl
 |inside A=>
  simp_all [e9,D,Nt]
 |first A=>rfl
 |second A=>rfl
end
def Nv(a:bG l)(i:bM l or wr)(j:zn.Nodup)(U:nw∈aq l)(c:nw∈zn)(d:∀z∈zn,iB l nw z)(k:∀z A,bT or z A->jd l nw z A)(e:∀z∈zn,∀m∈e9 l z,m∈zn) (n:∀N M,ed l (bT or) N M->M∈zn->N∈zn) (o:∀z A,fG l z A->z∈zn->bT or z A) (p:∀N M A,ed l (bT or) N M->bT or N A->M∈zn->bT or M A):((aq l).filter λz=>decide (z∈zn))=ju l nw/\zn.length=(ju l nw).length/\∃S,ba or (D nw)=Y S/\(((bp l).map a6).filter λq=>decide (q∈S))=(ke l nw).map a6:=by
 have f:o3 l nw (λz=>z∈zn) (bT or):=⟨c,e,n,o,p⟩
 have g:∀z,z∈zn↔iB l nw z:=λz=>⟨d z,λb=>b _ _ f⟩
 have r:∀z A,bT or z A↔jd l nw z A:=λz A=>⟨k z A,λb=>b _ _ f⟩
 have h:((aq l).filter λz=>decide (z∈zn))=ju l nw:=by rw [MS U];refine kY λz _=>?_;rw [ic,nY,Cp];exact g z
 have v:∀z∈zn,z∈aq l:=λz s=>d z s _ _ (w8 nw U);exists h,?_,?_
 .rw [<-h];refine((vc j (a.cY.places.filter _)).mpr λz=>?_).length_eq;grind
 .let⟨S,t,w,x,u⟩:=i.tt.row nw U;exists S,t,?_;rw [MT a.cY U,rL];congr 1;refine kY λA y=>?_;show decide (a6 A∈S)=gm l nw A
  rw [ic,nY,qM,u,r];exact Cq a.cY ((g nw).mp c)
def CV(z A:cw):uV z A=I↔(a6 z).1=(a6 A).1:=by cases z<;>cases A<;>simp [uV,a6]
def Nw(f:bG l)(g:bM l or (gr l (gm l)))(U:nw∈aq l)(h:ba or (D nw)=Y rc)(M:cw):(a6 M).1∈rc.map (·.1)↔gq l 1 nw M=I:=by
 let⟨z,b,m,i,c⟩:=g.row nw U;rw [h]at b;obtain rfl:=aS b;have j:gq l 1 nw M=((bp l).filter (gm l nw)).any (uV M):=by rw [<-wM f.cY.places _ U,<-oH];rfl
 rw [j,Hl,bH];constructor
 .rintro⟨k,d,N⟩;let⟨A,e,rfl⟩:=i k d;exists A,dz.mpr ((c A).mp d),(CV M A).mpr N.symm
 .rintro⟨A,e,N⟩;exists a6 A,(c A).mpr (dz.mp e),((CV M A).mp N).symm
def CW:∀(z:ae) (A:Nat),(aG (aW A z)).map aB=(aG z).map aB:=by intro z;induction z<;>intro A<;>simp_all [aW,aG,aB]
def Nx:∀(d:Nat) (G:ae),gf G<=d->∀T,bJ G=cj T (size G)->∀A∈aG G,∃b e:List Fm,(aG G).map aB=b++((aG A).map aB++e)/\b.length+T=ag A/\∀y,(aG (cQ (ag A) y G)).map aB=b++((aG y).map aB++e):=by
 intro d;induction d with
 |zero=>intro G l;cases G<;>simp at l
 |succ d f=>
  intro G l T o A g;let⟨u,h⟩:=kB o
  rw [gn]at g;rcases bg.mp g with rfl|g
  .exact⟨[],[],by simp,by grind,λy=>by rw [ti S];simp⟩
  .let⟨c,j,m⟩:=di.mp g;let⟨D,N,n⟩:=Hq j
   rw [n,k4,b3,aT,vd,aZ,eC]at h;have v:(D.flatMap bJ).length=(D.map size).sum:=by
    clear n h j;induction D with
    |nil=>rfl
    |cons a p f=>grind [gX]
   have q:cj (T+1) ((D.map size).sum+(size c+(N.map size).sum))=cj (T+1) (D.map size).sum++(cj (T+1+(D.map size).sum) (size c)++cj (T+1+(D.map size).sum+size c) (N.map size).sum):=by rw [kc,kc]
   rw [q]at h;let⟨w,i⟩:=mc h (by grind)
   let⟨i,x⟩:=mc i (by rw [gX,qc]);let⟨b,e,B,C,E⟩:=f c (by have:=h3 j;lia) _ i A m
   have r:ag A∈bJ c:=by unfold bJ;exact dY m
   rw [i,ve]at r;have s:∀M∈D,ag A∉bJ M:=λM U k=>by have:ag A∈D.flatMap bJ:=di.mpr ⟨M,U,k⟩;grind
   have t:∀M∈N,ag A∉bJ M:=λM U k=>by have:ag A∈N.flatMap bJ:=di.mpr ⟨M,U,k⟩;grind
   have F:∀K:List ae,((K.flatMap aG).map aB).length=(K.map size).sum:=by
    intro K;induction K with
    |nil=>rfl
    |cons a p f=>rw [b3,aT,br,f,z];rfl
   exists aB G::((D.flatMap aG).map aB++b),e++(N.flatMap aG).map aB,?_,?_,λy=>?_
   .grind [gn,k4]
   .grind
   .let⟨H,L,P,_⟩:=tj (y:=y) (show ag G≠ag A by lia);have Q:D.map (cQ (ag A) y)=D:=(gE λM U=>o8 (s M U)).trans (rP D)
    have R:N.map (cQ (ag A) y)=N:=(gE λM U=>o8 (t M U)).trans (rP N);grind [ag,gn,dg]
def Ny(U:bG l)(a:py∈aG l){M y:ae}(j:bG M)(d:aW 0 M=aW 0 (cQ (ag py) y l))(G:eu (e0 l M (ag py)) B=Y wE)(q:B<size l):((aG M)[wE]?).map aB=((aG l)[B]?).map aB:=by
 have f:bJ l=cj 0 (Cf.size l):=by have:=lF l 0;rw [U.mS]at this;exact this
 let⟨k,A,b,r,g⟩:=Nx _ l (aR _) 0 f py a;have c:(aG M).map aB=k++((aG y).map aB++A):=by rw [<-g y,<-CW (cQ (ag py) y l) 0,<-d,CW]
 have sz:zQ l (ag py)=Cf.size py:=by unfold zQ;rw [U.cY.nodeAt,U.cY.get a];rfl
 have m:=bD cN b;have n:=bD cN c
 simp only [br,z]at m n;have o:(aG l).length=Cf.size l:=rfl
 have p:(aG M).length=Cf.size M:=rfl;have s:(aG py).length=Cf.size py:=rfl
 have t:(aG y).length=Cf.size y:=rfl;rw [<-bh,<-bh,b,c];clear b c g f d U j a;unfold eu e0 at G;dsimp only at G;rw [sz,o,p]at G;by_cases h:B<ag py
 .rw [ai h]at G;obtain rfl:=aS G;rw [uC (by cutsat),uC (by cutsat)]
 .rw [N h]at G;by_cases i:B<ag py+Cf.size py
  .rw [ai i]at G;cases G
  .rw [N i]at G;have G:=aS G
   rw [hu (by cutsat),hu (by rw [z];cutsat),hu (by cutsat),hu (by rw [z];cutsat)];congr 1;simp only [z]
   cutsat
def Nz(A:Nat)(z:Fm):Bool:=match A with
 |0=>I|1=>jf z|2=>decide (z=.pair)|3=>decide (z=.pair)|4=>decide (z=.new)|_=>ao
def tD(G:bG l)(c:Fm->Bool):B∈cz (infos O l) c↔∃D∈aG l,ag D=B/\c (aB D)=I:=by grind [mX]
def CY(U:bG l){c:Pr}:c∈(aq l).map D↔∃A∈aG l,ag A=c.2/\Nz c.1 (aB A)=I:=by
 rw [<-CP U];unfold tr;simp only [bR,bH,di,tD U,lY,eT];let⟨f,T⟩:=c
 constructor
 .rintro(((⟨e,g,N⟩|⟨e,⟨A,M,G,z⟩,N⟩)|⟨e,⟨A,M,G,z⟩,N⟩)|⟨e,⟨A,M,G,z⟩,N⟩)
  .injection N with a z;subst a z;let⟨A,M,G⟩:=U.node g
   exists A,M,G,S
  .injection N with a b;subst a b;exists A,M,G,z
  .rcases bg.mp N with N|N
   .injection N with a b;subst a b;exists A,M,G,z
   .have N:=bb.mp N;injection N with a b;subst a b;exists A,M,G,z
  .injection N with a b;subst a b;exists A,M,G,z
 .rintro⟨A,M,G,z⟩;dsimp only at G z
  match f,z with
  |0,_=>exact .inl (.inl (.inl ⟨T,G▸U.lt M,S⟩))
  |1,z=>exact .inl (.inl (.inr ⟨T,⟨A,M,G,z⟩,S⟩))
  |2,z=>exact .inl (.inr ⟨T,⟨A,M,G,z⟩,bE⟩)
  |3,z=>exact .inl (.inr ⟨T,⟨A,M,G,z⟩,bC _ (bb.mpr S)⟩)
  |4,z=>exact .inr ⟨T,⟨A,M,G,z⟩,S⟩
def fj(A:Nat->Option Nat)(z:Pr):Option Pr:=(A z.2).map λD=>(z.1,D)
def fX(A:Nat->Option Nat)(z:Pr):Option Pr:=if z=(0,0)then Y z else fj A z
set_option tactic.hygienic true
def xx(z:md)(A:aA):fj (eu z) (D A)=(rR z A).map D:=by cases A<;>(unfold fj rR D;dsimp only;rename_i G;cases eu z G<;>rfl)
set_option tactic.hygienic false
def NA(z:md)(A:cw):fX (eu z) (a6 A)=(zR z A).map a6:=by
 cases A with
 |num=>rfl
 |fn a|pair a|ref a=>
  unfold fX;rw [N (by intro D;injection D with D _;cases D)];unfold fj zR a6;dsimp only;cases eu z a<;>rfl
def jO(z:Nat->Option Nat)(A:Tb)(y:Pr×List Pr):Nat:=match fj z y.1 with
 |none=>0
 |some a=>(y.2.map (fX z)).countP λo=>o.any λD=>decide (D∈(ba A a).getD [])
def hq(z:Nat->Option Nat)(A D:Tb):Nat:=(A.map (jO z D)).sum
theorem countP_flatMap(z:sB->List At)(A:At->Bool):∀M:List sB,(M.flatMap z).countP A=(M.map λN=>(z N).countP A).sum
 |[]=>rfl
 |N::a=>by rw [b3,Tx,countP_flatMap z A a,aZ,eC]
variable{Is:Tb}
def NB(j:bG l)(ab:bG py){s:md}(w:∀z∈aq l,∀T,rR s z=Y T->T∈aq py)(g:bM l or (gr l (gm l)))(u:bM py Is (gr py (gm py))):hq (eu s) or Is=(k6 s (d8 l) (d8 py)).kept:=by
 show _=((d8 l).map (iV s)).countP λo=>o.any (d8 py).contains;have x:∀(z:aA) (G:cw),(d8 py).contains ⟨z,G⟩=I↔gJ py z G:=λz G=>by rw [gQ];exact LQ
 rw [oH l];unfold eS hq;rw [vf,countP_flatMap];have B:=g.nodup j
 have C:∀(a:Tb) (b:List aA),a.map (·.1)=b.map D->(∀y∈a,y∈or)->(∀z∈b,z∈aq l)->(a.map (jO (eu s) Is)).sum=(b.map λz=>(((bp l).filter (gm l z)).map λG=>(⟨z,G⟩:hv)).countP ((λo=>o.any (d8 py).contains)∘iV s)).sum:=by
  intro a;induction a with
  |nil=>simp_all
  |cons y ad E=>
   intro b N k A;cases b with
   |nil=>cases N
   |cons z F=>
    rw [aZ,aZ]at N;injection N with m H;rw [aZ,aZ,eC,eC,E F H (λe c=>k e (bC _ c)) λe c=>A e (bC _ c)];congr 1;have n:=A z bE
    let⟨h,p,K,L,q⟩:=g.row z n;rw [<-m,hI B (show(y.1,y.2)∈or from k y bE)]at p;have P:y.2=h:=aS p
    unfold jO;rw [m,xx,P];cases r:rR s z with
    |none=>
     symm;show Ht _ _=0
     rw [List.countP_eq_zero];intro e c;let⟨G,_,rfl⟩:=bH.mp c;grind [iV]
    |some T=>
     have Q:=w z n T r;let⟨t,R,al,am,V⟩:=u.row T Q
     show Ht (λo=>o.any λs=>decide (s∈(ba Is (D T)).getD [])) (h.map (fX (eu s)))=_;rw [R,vf,vf];have W:h.Perm (((bp l).filter (gm l z)).map a6):=(vc K (iD (λ_ _=>lJ) ((tp j).filter (gm l z)))).mpr λX=>by
      constructor
      .intro f;let⟨G,i,rfl⟩:=L X f;exact dY (dz.mpr ((q G).mp f))
      .intro f;let⟨G,i,rfl⟩:=bH.mp f;exact(q G).mpr (dz.mp i)
     rw [W.countP_eq,vf];refine List.countP_congr λG i=>?_;show((fX (eu s) (a6 G)).any λs=>decide (s∈t))=I↔((iV s ⟨z,G⟩).any (d8 py).contains)=I
     rw [NA];unfold iV;rw [r];cases an:zR s G with
     |none=>simp
     |some v=>
      show decide (a6 v∈t)=I↔(d8 py).contains ⟨T,v⟩=I;rw [nY,x,V];unfold gr;rw [qM];exists λN=>N.2,λN=>⟨(wJ N).2,N⟩
 exact C or _ g.keys (λ_ N=>N) λ_ N=>N
def gs(z:aj):List Int:=z.map λA=>(A.toNat:Int)
def inR(z:Int):Prop:= -1000000000000000000<=z/\z<=1000000000000000000
def q5(z:List Int)(D:k7)(A:List Int):Prop:=match D with
 |.program b=>z=0::(b.length:Int)::(gs b++A)/\b.length<=2000
 |.show_=>z=1::A
 |.set a c=>z=2::a::c::A/\inR a/\inR c
 |.arrows a=>z=3::a::A/\inR a
 |.counts=>z=4::A
 |.class_ a=>z=5::a::A/\inR a
 |.classes=>z=6::A
 |.ask a=>z=7::a::A/\inR a
 |.funs a=>z=8::a::A/\inR a
 |.looked a=>z=9::a::A/\inR a
 |.change a b=>z=10::a::(b.length:Int)::(gs b++A)/\inR a/\b.length<=2000
 |.undo=>z=11::A
 |.size=>z=12::A
inductive Calls:List Int->List k7->Prop
 |nil:Calls [] []
 |cons {l:List Int} {k:k7} {r:List Int} {ks:List k7}:q5 l k r->Calls r ks->Calls l (k::ks)
def toldOf:Vacfaf.Answer->List Int:=VG
def tE:nZ->List k7->List Int
 |_,[]=>[]
 |s,k::ks=>((toldOf (iW s k).2).length:Int)::(toldOf (iW s k).2++tE (iW s k).1 ks)
variable{wf:List Int}
def NC(D:wf.all (λA=>rV A 8)=I):gs (wf.map λG=>eZ G.toNat)=wf:=by
 unfold gs;rw [d7];refine(gE λA M=>?_).trans (nU wf);have:=js.mp D A M
 unfold rV at this;simp [bx,j5]at this;grind [zL]
def ND(D:wf.all (λz=>rV z 8)=I):Tz wf=I:=by
 unfold Tz;rw [js]at D⊢;intro z G;have:=D z G
 unfold rV at this;simp only [bx,j5]at this⊢
 lia
variable{wp:Int}
def lN(A:vi wp=I):inR wp:=by simp_all [vi,inR]
variable{V6 c:List (List Int)}{Pi:List Int}{n k:Nat}
def q6(D:jv wp=Y (n,k))(z:qf jv (wp::wf)=Y (c,Pi)):∃V6,¬wf.length<n/\vj k (wf.drop n)=Y (V6,Pi)/\c=(wp::wf.take n)::V6:=by
 simp only [qf,D]at z;by_cases A:wf.length<n
 .rw [ai A]at z;cases z
 rw [N A]at z;cases a:vj k (wf.drop n)with
 |none=>rw [a]at z;cases z
 |some y=>
  rw [a]at z;cases z;exists y.1,A,S,S
def q7(z:jv wp=Y (0,0))(A:qf jv (wp::wf)=Y (c,Pi)):c=[[wp]]/\wf=Pi:=by let⟨V6,_,D,rfl⟩:=q6 z A;cases D;exists S,S
def q8(A:jv wp=Y (1,0))(D:qf jv (wp::wf)=Y (c,Pi)):∃z,wf=z::Pi/\c=[[wp,z]]:=by
 let⟨V6,G,M,rfl⟩:=q6 A D;cases M;cases wf with
 |nil=>exact absurd TB G
 |cons z wf=>exists z,S,S
variable{WK WT:List Int}
def CZ(z:vj 1 WK=Y (V6,WT)):∃Pi,WK=(Pi.length:Int)::(Pi++WT)/\V6=[Pi]:=by
 cases WK with
 |nil=>cases z
 |cons B wf=>
  by_cases A:0<=B/\B.toNat<=wf.length
  .simp only [vj,show TC (B::wf)=Y (wf.take B.toNat,wf.drop B.toNat)from ai A]at z;cases z;exists wf.take B.toNat,by rw [vk,dU,ik A.2,Int.toNat_of_nonneg A.1],S
  .simp only [vj,show TC (B::wf)=O from N A]at z;cases z
def call_text(A:((wf.all (λ(D:Int)=>rV D 8))&&decide (wf.length<=2000))=I):∃y,Hu wf=Y y/\gs y=wf/\(y.length:Int)=wf.length/\y.length<=2000:=by rw [bx]at A;exact⟨_,ai (ND A.1),NC A.1,by rw [z],by rw [z];exact d6 A.2⟩
def call_one{c:List (List Int)}(z:qf jv wf=Y (c,Pi))(D:TF (mf c)=I):∃h,q5 wf h Pi/\VH (mf c)=Y h:=by
 cases wf with
 |nil=>cases z
 |cons p a=>
 by_cases i:p=0
 .subst i;let⟨j,_,G,rfl⟩:=q6 (n:=0) (k:=1) S z;let⟨T,rfl,rfl⟩:=CZ G;let⟨y,b,d,e,f⟩:=call_text D;exists .program y,⟨by rw [e,d],f⟩,?_;show(Hu T).map _=_
  rw [b];rfl
 by_cases G:p=2
 .subst G;let⟨j,N,G,rfl⟩:=q6 (n:=2) (k:=0) S z;cases G
  match a,N,D with
  |A::l::a,_,D=>
   have M:(vi A&&vi l)=I:=D;rw [bx]at M;exists .set A l,⟨S,lN M.1,lN M.2⟩,S
  |[A],z,_=>exact absurd (pU _) z
  |[],z,_=>exact absurd (Nat.zero_lt_succ _) z
 by_cases m:p=10
 .subst m;let⟨j,N,G,rfl⟩:=q6 (n:=1) (k:=1) S z
  match a,N,G,D with
  |A::a,_,G,D=>
   let⟨T,rfl,rfl⟩:=CZ G;have M:(vi A&&((T.all (λ(B:Int)=>rV B 8))&&decide (T.length<=2000)))=I:=D
   rw [bx]at M;let⟨y,b,d,e,f⟩:=call_text M.2;exists .change A y,⟨by rw [e,d],lN M.1,f⟩,?_;show(Hu T).map _=_
   rw [b];rfl
  |[],z,_,_=>exact absurd TB z
 by_cases N:p=1
 .subst N;let⟨rfl,rfl⟩:=q7 S z;exists .show_,S,S
 by_cases o:p=3
 .subst o;let⟨A,rfl,rfl⟩:=q8 S z;exists .arrows A,⟨S,lN D⟩,S
 by_cases q:p=4
 .subst q;let⟨rfl,rfl⟩:=q7 S z;exists .counts,S,S
 by_cases r:p=5
 .subst r;let⟨A,rfl,rfl⟩:=q8 S z;exists .class_ A,⟨S,lN D⟩,S
 by_cases s:p=6
 .subst s;let⟨rfl,rfl⟩:=q7 S z;exists .classes,S,S
 by_cases t:p=7
 .subst t;let⟨A,rfl,rfl⟩:=q8 S z;exists .ask A,⟨S,lN D⟩,S
 by_cases u:p=8
 .subst u;let⟨A,rfl,rfl⟩:=q8 S z;exists .funs A,⟨S,lN D⟩,S
 by_cases v:p=9
 .subst v;let⟨A,rfl,rfl⟩:=q8 S z;exists .looked A,⟨S,lN D⟩,S
 by_cases w:p=11
 .subst w;let⟨rfl,rfl⟩:=q7 S z;exists .undo,S,S
 by_cases x:p=12
 .subst x;let⟨rfl,rfl⟩:=q7 S z;exists .size,S,S
 simp only [qf,jv,i,N,G,o,q,r,s,t,u,v,m,w,x,ie]at z;cases z
def NG:∀(M:Nat) (D:List Int) (G:List (List (List Int))),zV jv M D=Y G->(G.map mf).all TF=I->∃N,Calls D N/\N.length=G.length/\∀z,Hv (Hw qg z (G.map mf))=tE z N:=by
 intro M;induction M with
 |zero=>
  intro D G A T;cases D with
  |nil=>cases A;exists [],.nil,S,λ_=>S
  |cons p b=>cases A
 |succ M g=>
  intro D G A T;cases D with
  |nil=>cases A;exists [],.nil,S,λ_=>S
  |cons p b=>
   unfold zV at A;cases d:qf jv (p::b)with
   |none=>grind
   |some y=>
    let⟨c,e⟩:=y;rw [d]at A;dsimp only at A;cases f:zV jv M e with
    |none=>grind
    |some a=>
     rw [f]at A;cases A;rw [aZ,iN,bx]at T;let⟨U,h,i⟩:=call_one d T.1
     let⟨N,j,m,k⟩:=g e a f T.2;exists U::N,.cons h j,by grind,λz=>?_;have l:qg z (mf c)=((iW z U).1,toldOf (iW z U).2):=by unfold qg;rw [i];rfl
     show Hv ((qg z (mf c)).2::Hw qg (qg z (mf c)).1 (a.map mf))=_;rw [l];show _::_++Hv (Hw qg (iW z U).1 (a.map mf))=_
     rw [k];rfl
def NH(D:Hx wf=I):∃A,Calls wf A/\A.length<=30/\vl wf=tE Hy A/\(vl wf).length<=10000000:=by
 unfold Hx at D;cases a:zV jv wf.length wf with
 |none=>grind
 |some b=>
  rw [a]at D;simp [bx]at D;let⟨⟨⟨⟨_,S⟩,_⟩,G⟩,T⟩:=D;unfold VI at G;simp only [bx]at G;let⟨A,M,U,N⟩:=NG _ wf b a G.1
  exists A,M,?_,?_,?_
  .grind
  .unfold vl PyVacfaf.calls;rw [a];exact N _
  simp_all [PyFlat.short]
def bB(z:aj):aa:=⟨(z.map il).toArray⟩
def h5(z:aj):(bB z).length=z.length:=by show(z.map il).toArray.size=z.length;simp
def kF{u:aj}:bB sw=bB u↔sw=u:=by
 constructor
 .intro A;have D:(sw.map il).toArray=(u.map il).toArray:=bD Str.cps A
  have G:sw.map il=u.map il:=by simpa using D
  exact List.map_inj_right (λN S M=>uZ.mp M)|>.mp G
 .intro A;rw [A]
def h6(A:aj):Bool:=A.all λz=>e6 z||z==63
def NI:∀z:UInt8,(e6 z||z==63)=I->TH z.toNat=iT z:=by
 have:∀A:Fin 256,(e6 (eZ A.val)||eZ A.val==63)=I->TH A.val=iT (eZ A.val):=by decide+kernel
 intro z D;have G:eZ z.toNat=z:=zW
 have:=this ⟨z.toNat,zX z⟩;simp only [G]at this;exact this D
def NJ:∀z:UInt8,(e6 z||z==63)=I->TJ z.toNat=kZ z:=by
 have:∀A:Fin 256,(e6 (eZ A.val)||eZ A.val==63)=I->TJ A.val=kZ (eZ A.val):=by decide+kernel
 intro z D;have G:eZ z.toNat=z:=zW
 have:=this ⟨z.toNat,zX z⟩;simp only [G]at this;exact this D
def C0(D:Nat->Bool)(M:UInt8->Bool)(G:h6 sw=I)(N:∀z:UInt8,(e6 z||z==63)=I->D z.toNat=M z):(bB sw).cps.all D=sw.all M:=by
 show(sw.map il).toArray.all D=sw.all M;unfold h6 at G;rw [List.all_toArray,TK];induction sw with
 |nil=>rfl
 |cons z b a=>
  rw [iN,bx]at G;rw [iN,iN,a G.2];show(D z.toNat&&_)=_
  rw [N z G.1]
def NK(A:h6 sw=I):zv (bB sw)=(!sw.isEmpty&&sw.all iT):=by unfold zv;rw [C0 _ _ A NI,h5];cases sw<;>rfl
def NL(A:h6 sw=I):zw (bB sw)=(!sw.isEmpty&&sw.all kZ):=by unfold zw;rw [C0 _ _ A NJ,h5];cases sw<;>rfl
def top(i:Nat):a7:=VJ.main.body.getD i (.Pass ⟨0,0,0,0⟩)
abbrev C1:a7:=top 22
abbrev C2:a7:=top 23
def gK:List (Key×V):=[(.inr "fun",.int 1),(.inr "let",.int 2),(.inr "if",.int 3),(.inr "pair",.int 2),(.inr "fst",.int 1),(.inr "snd",.int 1),(.inr "new",.int 1),(.inr "get",.int 1),(.inr "set",.int 2),(.inr "add",.int 2),(.inr "a call",.int 2)]
inductive C3 (z:List V) (H:U) (A:VK) (D:XK):Prop
 |mk(t:aj)(_:z=[.str (bB t)])(_:h6 t=I)(_:t.length<=10000)(_:A (.bl (isNum t)) H)
def xy:(dO "0")=bB [48]:=by decide+kernel
variable{L:aa->Option J}{d:Z}{o0:bc}{wS:dD}{m:aw}{p:au}{P:aD}{K:af}
def NM(f:a9 K "is_number" "is_number" C1 d o0)(g:L "len"=O)(i:L "MOST_DIGITS"=Y (.int 2 wS)):f_ 1 d o0 ["word"] C3:=by
 refine f.go ["word"] λt u x y H B C E G k _ _ _=>?_;let⟨z,rfl,l,e,D⟩:=k;have Q:z.length<=aU:=cu e (by decide)
 exists _,ar (bK (bS cT (T 0) dP (bV _)) (ay (aQ hx)) bQ) (ay (aQ (r8 (Bb PySem.F.slot_str_isdigit PySem.F.type_str_isdigit KA (T 0)) (r8 (oh vH (cR vV (by rfl) g dE (aJ 0)) (b7 i) (bV _)) (z5 (oh qt (cc JB (T 0) cL (λ_ _=>S)) dP (bV _))))))),?_;exists _,S,S,_,S,ec (λU=>?_) (λU=>?_)
 .have b:z=[48]:=by
   have:=d6 U;injection this with this;rw [xy]at this;exact kF.mp this
  subst b;exact D
 .have b:¬z=[48]:=λA=>U (cq (by rw [A,<-xy]));have n:isNum z=((!z.isEmpty&&z.all iT)&&(decide (z.length<=2)&&z.head? !=Y 48)):=by
   unfold isNum;rw [show(z==[48])=ao by simpa using b,zk,TM]
  rw [n]at D;exists _,S,⟨_,S⟩,_,S,S,j2,_,S,?_;rw [NK l];refine ec (λM=>?_) (λM=>?_)
  .rw [M,rW]at D;exists _,S,_,S,by rwa [h5],_,_,S,S,_,S,?_;rw [h5];have o:decide ((z.length:Int)<=2)=decide (z.length<=2):=by
    rw [hb]
    lia
   rw [o];refine ec (λc=>?_) (λc=>?_)
   .rw [c,rW]at D;cases z with
    |nil=>simp at M
    |cons a h=>
     exists _,S,_,_,_,S,S,by rwa [h5],e1 (j:=0) (v:=a.toNat) S,S,?_;have q:(!decide (V.str ⟨#[a.toNat]⟩=V.str (dO "0")))=((a::h).head? !=Y 48):=by
      rw [xy];have:(V.str ⟨#[a.toNat]⟩=V.str (bB [48]))↔a=48:=by
       constructor
       .intro A;injection A with A;have:bB [a]=bB [48]:=A
        have:=kF.mp this;injection this
       .intro A;rw [A];rfl
      by_cases N:a=48
      .rw [cq (this.mpr N),N];rfl
      .rw [bU λA=>N (this.mp A)];simp [N]
     rwa [q]
   .have r:decide (z.length<=2)=ao:=by simpa using c
    rw [r,ux]at D;exact D
  .have s:(!z.isEmpty&&z.all iT)=ao:=by simpa using M
   rw [s,ux]at D;exact D
def NN:∀z:Fm,en z=ao->z≠.call->cU gK (.inr (bB (fz z)))=Y (.int (arity z)):=by intro z A D;cases z<;>first|exact absurd A (by decide)|exact absurd rfl D|decide+kernel
def NO(m:h6 sw=I)(U:¬(32:UInt8)∈sw)(N:ee sw=O):cU gK (.inr (bB sw))=O:=by
 unfold cU gK;unfold ee at N;rw [nN]at N;rw [nN.mpr]
 .rfl
 .intro n T;simp only [bg,gR,g8]at T;have A:∀M:Fm,M∈[Fm.fn,.letE,.ifz,.pair,.fst,.snd,.new,.get,.set,.add]->¬(kO (bB (fz M)):Key)=kO (bB sw):=λM a z=>by
   injection z with z;exact N M a (by rw [kF.mp z];simp)
  have b:dO "fun"=bB (fz .fn):=by decide+kernel
  have c:dO "let"=bB (fz .letE):=by decide+kernel
  have d:dO "if"=bB (fz .ifz):=by decide+kernel
  have e:dO "pair"=bB (fz .pair):=by decide+kernel
  have f:dO "fst"=bB (fz .fst):=by decide+kernel
  have g:dO "snd"=bB (fz .snd):=by decide+kernel
  have h:dO "new"=bB (fz .new):=by decide+kernel
  have i:dO "get"=bB (fz .get):=by decide+kernel
  have j:dO "set"=bB (fz .set):=by decide+kernel
  have k:dO "add"=bB (fz .add):=by decide+kernel
  have l:dO "a call"=bB [97,32,99,97,108,108]:=by decide+kernel
  rw [b,c,d,e,f,g,h,i,j,k,l]at T;rcases T with rfl|rfl|rfl|rfl|rfl|rfl|rfl|rfl|rfl|rfl|rfl
  all_goals (intro z;have z:=d6 z;dsimp only at z)
  .exact A .fn (by simp) z
  .exact A .letE (by simp) z
  .exact A .ifz (by simp) z
  .exact A .pair (by simp) z
  .exact A .fst (by simp) z
  .exact A .snd (by simp) z
  .exact A .new (by simp) z
  .exact A .get (by simp) z
  .exact A .set (by simp) z
  .exact A .add (by simp) z
  .injection z with z;apply U;rw [<-kF.mp z];decide
def C4(N:h6 sw=I)(T:¬(32:UInt8)∈sw):cU gK (.inr (bB sw))=(ee sw).map λA=>V.int (arity A):=by
 cases a:ee sw with
 |none=>exact NO N T a
 |some A=>
  have D:=fq a;have U:fz A=sw:=by have:=mb a;simpa using this
  have M:en A=ao/\A≠.call:=by simp only [bg,gR,g8]at D;rcases D with rfl|rfl|rfl|rfl|rfl|rfl|rfl|rfl|rfl|rfl<;>decide
  rw [<-U];exact NN A M.1 M.2
inductive xA (z:List V) (H:U) (A:VK) (D:XK):Prop
 |mk(t:aj)(_:z=[.str (bB t)])(_:h6 t=I)(_:t.length<=10000)(_:A (.bl (h4 t)) H)
variable{q:Z}
def NP(c:a9 K "is_name" "is_name" C2 q o0)(M:L "len"=O)(f:L "MOST_LETTERS"=Y (.int 4 wS))(g:L "PARTS"=Y (.ref d))(h:KD K m p d gK):f_ 1 q o0 ["word"] xA:=by
 refine c.go ["word"] λa r s t H u x y B i _ _ _=>?_;let⟨z,rfl,b,j,A⟩:=i;have C:z.length<=aU:=cu j (by decide)
 exists _,ay (aQ (r8 (Bb PySem.F.slot_str_isalpha PySem.F.type_str_isalpha KC (T 0)) (r8 (oh vH (cR vV (by rfl) M dE (aJ 0)) (b7 f) (bV _)) (z5 (H5 (Bn (T 0) (ek (v:=.ref d) S g S)) S))))),?_;have k:h4 z=((!z.isEmpty&&z.all kZ)&&(decide (z.length<=4)&&(ee z).isNone)):=by unfold h4;rw [TM]
 rw [k]at A;exists _,S,⟨_,S⟩,_,S,S,j2,_,S,?_;rw [NL b];refine ec (λD=>?_) (λD=>?_)
 .have l:¬(32:UInt8)∈z:=λG=>by
   rw [bx]at D;have:=js.mp D.2 32 G
   revert this;decide
  rw [D,rW]at A;exists _,S,_,S,by rwa [h5],_,_,S,S,_,S,?_;rw [h5];have n:decide ((z.length:Int)<=4)=decide (z.length<=4):=by
   rw [hb]
   lia
  rw [n];refine ec (λN=>?_) (λN=>?_)
  .rw [N,rW]at A;exists _,S,d,_,S,⟨gK,.inr (bB z),h,S,S⟩,?_;rw [C4 b l,kU];have:(!(ee z).isSome)=(ee z).isNone:=by cases ee z<;>rfl
   rwa [this]
  .have o:decide (z.length<=4)=ao:=by simpa using N
   rw [o,ux]at A;exact A
 .have U:(!z.isEmpty&&z.all kZ)=ao:=by simpa using D
  rw [U,ux]at A;exact A
variable{s3:L2.St}{Ev:Ends}{FM:TG}{IN:TS}
def C5{x:aa}{H:U}(G:Nat->L2.St->U->Prop)(l:G 0 s3 H)(m:∀i c s3 H,x.cps[i]?=Y c->G i s3 H->FM (.str ⟨#[c]⟩) s3 H λN T=>IN (Ev.lp (G (i+1))) N T) (n:∀s3 H,G x.cps.size s3 H->Ev.nx s3 H):∃a:Nat->Nat->L2.St->U->Prop,(∃A,a 0 A s3 H)/\∀i A s3 H,a i A s3 H->((qF x).stop i H/\Ev.nx s3 H)\/((qF x).go i H/\∃g:L2.St->U->Prop,(∀b D,g b D->∃h,h<A/\a (i+1) h b D)/\∀v D,(qF x).hc i H v D->FM v s3 D λN T=>IN (Ev.lp g) N T):=by
 exists λi A s3 H=>A=x.cps.size-i/\i<=x.cps.size/\G i s3 H,⟨x.cps.size,by simp,cP _,l⟩,?_;rintro i A s3 H ⟨rfl,q,j⟩;by_cases k:i<x.cps.size
 .refine .inr ⟨k,G (i+1),λb D o=>⟨x.cps.size-(i+1),by lia,S,k,o⟩,λv D y=>?_⟩;let⟨d,c,p,rfl⟩:=y;subst d;exact m i c s3 _ p j
 .have d:i=x.cps.size:=by lia
  subst d;exact .inl ⟨aR _,n s3 H j⟩
def NQ(z:aj)(A:UInt8):bB z++⟨#[A.toNat]⟩=bB (z++[A]):=by show(⟨(z.map il).toArray++ #[A.toNat]⟩:aa)=⟨((z++[A]).map il).toArray⟩;simp
theorem C6(z:UInt8):(⟨#[z.toNat]⟩:aa)=bB [z]:=rfl
def iF:(dO "")=bB []:=by decide+kernel
def C7{i c:Nat}(G:(bB sw).cps[i]?=Y c):∃D,sw[i]?=Y D/\c=D.toNat:=by
 have z:(sw.map il)[i]?=Y c:=by simpa [bB]using G
 rw [bh]at z;cases a:sw[i]? with
 |none=>rw [a]at z;cases z
 |some D=>rw [a]at z;exists D,S,(aS z).symm
theorem C8(z:aj):(bB z).cps.size=z.length:=h5 z
def NS:∀z:UInt8,decide (z.toNat∈(dO " ()").cps.toList)=fH z:=by
 have:∀A:Fin 256,decide (A.val∈(dO " ()").cps.toList)=fH (eZ A.val):=by decide+kernel
 intro z;have D:eZ z.toNat=z:=zW
 have:=this ⟨z.toNat,zX z⟩;simp only [D]at this;exact this
def eM:List aj->aj->aj->List aj×aj
 |ws,w,[]=>(ws,w)
 |ws,w,a::b=>if fH a=I then eM (ws++(if w.isEmpty=I then []else [w])++[[a]]) [] b else eM ws (w++[a]) b
theorem xB(G:UInt8):∀(z A:aj) (D:List aj),eM D A (z++[G])=if fH G=I then((eM D A z).1++(if(eM D A z).2.isEmpty=I then []else [(eM D A z).2])++[[G]],[])else((eM D A z).1,(eM D A z).2++[G])
 |[],A,D=>by rw [dh,eM];rfl
 |c::z,A,D=>by
  rw [dg,eM,eM];split
  .exact xB G z _ _
  .exact xB G z _ _
theorem xC:∀(z A:aj) (D:List aj),(eM D A z).1++(if(eM D A z).2.isEmpty=I then []else [(eM D A z).2])=D++bY A z
 |[],A,D=>by rw [bY];rfl
 |c::z,A,D=>by
  rw [eM,bY];split
  .rw [xC z];simp
  .rw [xC z]
theorem tF:∀(A z:aj) (D:List aj),(eM D z A).1.length+(eM D z A).2.length<=D.length+z.length+2*A.length
 |[],z,D=>by rw [eM];simp
 |c::A,z,D=>by
  rw [eM];split
  .refine cu (tF A _ _) ?_;by_cases G:z.isEmpty=I
   .rw [ai G];simp;lia
   .rw [N G];have:z.length≠0:=λM=>G (by rw [kX.mp M];rfl)
    simp;lia
  .refine cu (tF A _ _) ?_;simp;lia
abbrev C9:a7:=top 25
inductive Dc (D:List V) (H:U) (M:VK) (N:XK):Prop
 |mk(t:aj)(_:D=[.str (bB t)])(_:t.length<=10000)(_:∀p z,(∀A o,H A=Y o->z A=Y o)->H p=O->z p=Y (.lst ((bY [] t).map λx=>V.str (bB x)))->M (.ref p) z)
def NU{y:Z}(B:a9 K "words_of" "words_of" C9 y o0):f_ 1 y o0 ["signs"] Dc:=by
 refine B.go ["signs","words","begun","sign"] λal am an ap H as a0 a1 a2 Q l _ sz=>?_;let⟨D,rfl,a3,q⟩:=Q;exists _,ar (bj 1 l (de aC)) (ar (bj 2 l dP) (ar (d3 dZ S (AW (T 0)) (bX 3 l) (ar (bK (bS KJ (T 3) dP S) (ar (z8 (i:=2) l S (Or.inl S) (T 3) I4 (.inl S)) (ay Ii)) bQ) (ar (bK (bS qt (T 2) dP (bV _)) (ar (cM (fe fu f9 gF fQ (T 1) (aJ 2))) (ay (bj 2 l dP))) bQ) (ay (cM (fe fu f9 gF fQ (T 1) (aJ 3))))))) (ar (bK (bS qt (T 2) dP (bV _)) (ay (cM (fe fu f9 gF fQ (T 1) (aJ 2)))) bQ) (ay (aQ (T 1)))))),?_;exists cP _,λb j=>?_;exists _,S,_,S,?_;let C:VLx:=λi r w=>∃s,A3 (r=[Y (.str (bB D)),Y (.ref b),Y (.str (bB (eM [] [] (D.take i)).2)),s]) (w b=Y (.lst ((eM [] [] (D.take i)).1.map λt=>V.str (bB t)))) (∀d o,H d=Y o->w d=Y o)
 refine C5 (x:=bB D) C ?_ ?_ ?_
 .refine⟨O,?_,?_,?_⟩
  .rw [qh,eM,<-iF];rfl
  .rw [qh,eM,M];rfl
  .intro d o A;rw [ah (by intro h;rw [h,j]at A;cases A)];exact A
 .rintro i c r w R ⟨s,rfl,e,k⟩;let⟨d,E,rfl⟩:=C7 R;have W:=(cF.mp E).1
  have X:D.take (i+1)=D.take i++[d]:=by rw [dq,E];rfl
  have n:=tF (D.take i) [] [];rw [dU,ik (y2 W)]at n;simp only [iP,uQ]at n;dsimp only [C];rw [X,xB];generalize eM [] [] (D.take i)=u at*;let⟨v,a⟩:=u;dsimp only at*;exists _,S,_,_,S,S,_,S,?_;rw [NS];cases hd:fH d with
  |false=>
   exists _,S,_,S,_,_,S,S,?_,?_
   .rw [h5];show a.length+1<=aU;lia
   .refine⟨Y (.str ⟨#[d.toNat]⟩),?_,?_,k⟩
    .rw [N (by decide),<-NQ];rfl
    .rwa [N (by decide)]
  |true=>
   exists _,S,S,_,S,ec (λA=>?_) (λA=>?_)
   .have f:a.isEmpty=ao:=by
     cases a with
     |nil=>rw [iF]at A;simp at A
     |cons=>rfl
    have hw:=List.isEmpty_eq_false_iff.mp f;exists _,S,.inl ⟨S,_,av.of e⟩,_,S,b,_,_,S,S,e,by rw [z];lia,?_;exists _,S,.inl ⟨S,_,av.of (M)⟩,_,S,b,_,_,S,S,M,by rw [br,z];show v.length+1<_;lia,?_;exists Y (.str ⟨#[d.toNat]⟩),?_,?_,?_
    .rw [ai S,iF];rfl
    .rw [ai S,M,f];simp [C6]
    .intro g o A;have:g≠b:=by intro h;rw [h,j]at A;cases A
     rw [ah this,ah this];exact k g o A
   .have f:a=[]:=by
     cases a with
     |nil=>rfl
     |cons t ab=>exact(A (by rw [iF];simp [kF])).elim
    subst f;exists _,S,.inl ⟨S,_,av.of e⟩,_,S,b,_,_,S,S,e,by rw [z];lia,?_;exists Y (.str ⟨#[d.toNat]⟩),?_,?_,?_
    .rw [ai S];rfl
    .rw [ai S,M];simp [C6]
    .intro g o A;have:g≠b:=by intro h;rw [h,j]at A;cases A
     rw [ah this];exact k g o A
 .rintro r w ⟨s,rfl,e,k⟩;rw [C8,dB]at*;have n:=tF D [] []
  simp only [iP,uQ]at n;have G:=xC D [] []
  rw [dh]at G;generalize eM [] [] D=u at*;let⟨v,a⟩:=u;dsimp only at*;exists _,S,S,_,S,ec (λA=>?_) (λA=>?_)
  .have f:a.isEmpty=ao:=by
    cases a with
    |nil=>rw [iF]at A;simp at A
    |cons=>rfl
   rw [f]at G;exists _,S,.inl ⟨S,_,av.of e⟩,_,S,b,_,_,S,S,e,by rw [z];lia,_,S,q _ _ (λg o A=>?_) j ?_
   .have:g≠b:=by intro h;rw [h,j]at A;cases A
    rw [ah this];exact k g o A
   .rw [M,<-G,aT];rfl
  .have f:a=[]:=by
    cases a with
    |nil=>rfl
    |cons t ab=>exact(A (by rw [iF];simp [kF])).elim
   subst f;have ad:v=bY [] D:=by simpa using G
   rw [<-ad]at q;exists _,S,q _ _ k j e
abbrev Dd:a7:=inClass (top 21) 1
abbrev De:a7:=inClass (top 21) 2
abbrev Df:a7:=inClass (top 21) 3
def kG(z:Z)(i A:Int)(D G:Z):List (aa×V):=[("words",.ref z),("at",.int i),("signs_taken",.int A),("nodes",.ref D),("around",.ref G)]
theorem tG{a i n b c}:(kG a i n b c).lookup ("at":aa)=Y (.int i):=rfl
theorem tH{a i n b c}:(kG a i n b c).lookup ("words":aa)=Y (.ref a):=rfl
theorem xD{a i n b c}:(kG a i n b c).lookup ("signs_taken":aa)=Y (.int n):=rfl
theorem mZ{b i n a c}:(kG b i n a c).lookup ("nodes":aa)=Y (.ref a):=rfl
theorem lO{b i n c a}:(kG b i n c a).lookup ("around":aa)=Y (.ref a):=rfl
variable{op:aa}
def gu{a i n b c}(A:op="peek"\/op="take"\/op="pass_over"\/op="begin_node"\/op="read_head"\/op="read_bracketed_head"\/op="read_on"):(kG a i n b c).lookup op=O:=by rcases A with rfl|rfl|rfl|rfl|rfl|rfl|rfl<;>rfl
structure kH(K:af)(z:Z):Prop where
 cl:fc K z
 at_:dF K z "at"
 words:dF K z "words"
 taken:dF K z "signs_taken"
 nodes:dF K z "nodes"
 around:dF K z "around"
def wordAt(z:List aj)(i:Nat):aj:=z.getD i []
def q9{i:Nat}(A:i<wn.length):wn[i]?=Y (wordAt wn i):=by unfold wordAt;rw [Hz,gd A];rfl
def kI{i:Nat}(A:wn.length<=i):wordAt wn i=[]:=by unfold wordAt;rw [Hz,GG A];rfl
def jP(z:List aj)(i:Nat):Nat:=fl (z.take i)
def NV(z:List aj){i:Nat}(A:i<=z.length):jP z (jw (i+1) z.length)=jP z i+(wordAt z i).length:=by
 unfold jP;by_cases c:i<z.length
 .rw [ik c,dq,q9 c,kD];show _+fl [wordAt z i]=_
  rw [o5,MU,j9]
 .rw [n0 (by lia),kI (by lia),iP,j9];have:i=z.length:=by lia
  rw [this]
def hL(M:Z)(H:U)(N D S T:Z)(z:List aj)(i:Nat):Prop:=(∃a,H N=Y (.ins M a (kG D i (jP z i) S T)))/\H D=Y (.lst (z.map λA=>V.str (bB A)))/\i<=z.length/\z.length<20000/\∀A∈z,A.length<=10000
def xE(A:∀D∈wn,D.length<=10000)(i:Nat):(wordAt wn i).length<=10000:=by
 by_cases c:i<wn.length
 .exact A _ (cG (q9 c))
 .rw [kI (by lia)];exact cP _
inductive xF (z:Z) (A:List V) (H:U) (D:VK) (M:XK):Prop
 |mk(a lw ln b ws i:_)(_:A=[.ref a])(_:hL z H a lw ln b ws i)(_:D (.str (bB (wordAt ws i))) H)
def NW{c:Z}(j:a9 K "peek" "Reading.peek" Dd c o0)(D:kH K d)(k:L "len"=O):f_ 1 c o0 ["self"] (xF d):=by
 refine j.go ["self"] λo G q r H s t u v l _ _ _=>?_;let⟨N,e,x,y,f,i,rfl,⟨⟨T,U⟩,g,M,B,_⟩,a⟩:=l;exists _,ar (bK (bS cT (aF 0) (cR el (by rfl) k dE (A (aF 0) aC)) (bV _)) (ay (aQ dP)) bQ) (ay (aQ (cc dk (aF 0) (aF 0) (λ_ _=>S)))),?_;exists _,S,N,d,T,_,_,S,U,D.cl,D.at_,tG,_,S,N,d,T,_,_,S,U,D.cl,D.words,tH,e,_,S,.inl (av.of g),S,_,S,ec (λb=>?_) (λb=>?_)
 .have h:i=f.length:=by
   have:=d6 b;injection this with this;rw [z]at this
   lia
  rw [kI (by lia),<-iF]at a;exact a
 .have h:i<f.length:=by
   refine Nat.lt_of_le_of_ne M λn=>b (cq ?_);rw [z,n]
  exists _,S,N,d,T,_,_,S,U,D.cl,D.words,tH,_,S,N,d,T,_,_,S,U,D.cl,D.at_,tG,e,_,_,_,S,S,av.of g,e1 (by rw [bh,q9 h];rfl),a
def bN(A:Z)(H D:U):Prop:=∀z o,H z=Y o->z≠A->D z=Y o
inductive tI (A:Z) (D:List V) (H:U) (M:VK) (N:XK):Prop
 |mk(a lw ln b ws i:_)(_:D=[.ref a])(_:hL A H a lw ln b ws i)(_:∀z,hL A z a lw ln b ws (jw (i+1) ws.length)->bN a H z->M (.str (bB (wordAt ws i))) z)
def NX(f:a9 K "take" "Reading.take" De q o0)(N:kH K d)(g:L "len"=O)(w:L "min"=O)(r:h_ 1 d "peek" ["self"] (xF d)):f_ 2 q o0 ["self"] (tI d):=by
 refine f.go ["self","word"] λD Q R W H X ab ad s t u _ sz=>?_;let⟨a,h,v,x,b,i,rfl,j,y⟩:=t;let⟨⟨U,c⟩,k,B,C,l⟩:=id j;exists _,ar (bj 1 u (dR (T 0) r s cx)) (ar (dQ (T 0) (cR (I5 S) (by rfl) w (by decide+kernel) (A (hg se (aF 0) cL) (A (cR el (by rfl) g dE (A (aF 0) aC)) aC))) S) (ar (vN (T 0) (cR vV (by rfl) g dE (aJ 1)) vO) (ay (aQ (T 1))))),?_;exists _,S,a,U,_,S,c,gu (.inl S),a,h,v,x,b,i,S,j,?_;exists _,S,a,d,U,_,_,S,c,N.cl,N.at_,tG,_,_,S,S,_,S,a,d,U,_,_,S,c,N.cl,N.words,tH,h,_,S,.inl (av.of k),_,_,S,_,S,a,d,U,_,S,c,N.cl,N.at_,(by show 5<1000;decide),?_;have E:(if((b.map λG=>V.str (bB G)).length:Int)<(i:Int)+1 then((b.map λG=>V.str (bB G)).length:Int)else(i:Int)+1)=((jw (i+1) b.length:Nat):Int):=by rw [z];split<;>lia
 have e:=cW k c (by intro F;cases F);have al:=xE l i
 exists _,S,a,d,U,_,_,S,M,N.cl,N.taken,S,_,S,_,S,by rw [h5];lia,_,_,S,S,U,_,M,(by show 5<1000;decide),_,S,?_;refine y _ ⟨⟨U,?_⟩,by rwa [ah e,ah e],Nat.min_le_right _ _,C,l⟩ λam o an n=>by rwa [ah n,ah n]
 rw [M];rw [E,h5,NV b B];rfl
inductive xG (A D:Z) (M:List V) (H:U) (N:VK) (S:XK):Prop
 |mk(a lw ln b ws i x:_)(_:M=[.ref a,.str (bB x)])(_:hL A H a lw ln b ws i)(_:∀z,hL A z a lw ln b ws (jw (i+1) ws.length)->bN a H z->if wordAt ws i=x then N .bw z else S (.ref D) O z)
variable{Q:Z}
def NY(f:a9 K "pass_over" "Reading.pass_over" Df Q o0)(g:h_ 2 d "take" ["self"] (tI d))(h:L "NoProgram"=Y (.ref q))(j:gP K q fU "Exception.__new__"=I):k_ 3 Q o0 ["self","word"] (xG d q):=by
 refine f.ew ["self","word"] λx B C D H M R V b k _ _ _=>?_;let⟨c,l,G,n,w,i,o,rfl,e,U⟩:=k;let⟨⟨a,r⟩,X,ab,ad⟩:=id e;exists _,ay (bK (bS qt (dR (E:=E0) (T 0) g b cx) (T 1) (bV _)) (ay (jH j8 (by decide) j S h b.hd)) bQ),?_;exists _,S,c,a,_,S,r,gu (.inr (.inl S)),c,l,G,n,w,i,S,e,λs t u=>⟨_,S,S,_,S,?_⟩;have z:=U s t u
 by_cases A:wordAt w i=o
 .rw [ai A]at z;subst A;exact KR S z
 .rw [N A]at z;refine ec (λ_=>z) λv=>?_;exfalso;apply v;rw [bU (λy=>A (by injection y with y;exact kF.mp y))];rfl
def ji:aj:=az " ()0123456789abcdefghijklmnopqrstuvwxyz"
def sig_str:(dO " ()0123456789abcdefghijklmnopqrstuvwxyz")=bB ji:=by decide+kernel
def nc(A:aj):List (Key×V):=A.map λz=>(.inl (z.toNat:Int),.str (bB [z]))
variable{KB:List (Key×V)}
def AO{A:Key}{v:V}(D:(KB.any λG=>decide (G.1=A))=ao):putK KB A v=KB++[(A,v)]:=by unfold putK;rw [D];rfl
def NZ:∀i:Fin 39,((nc (ji.take i.val)).any λz=>decide (z.1=(.inl ((ji.getD i.val 0).toNat:Int))))=ao:=by decide+kernel
def N1:∀z:UInt8,((cU (nc ji) (.inl (z.toNat:Int))).getD (.str (dO "?")))=.str (bB [norm z]):=by
 have:∀A:Fin 256,((cU (nc ji) (.inl (A.val:Int))).getD (.str (dO "?")))=.str (bB [norm (eZ A.val)]):=by decide+kernel
 intro z;have D:eZ z.toNat=z:=zW
 have:=this ⟨z.toNat,zX z⟩;simp only [D]at this;exact this
theorem Dg:∀A:aj,GR (dO "") (A.map λz=>bB [z])=bB A
 |[]=>rfl
 |[z]=>rfl
 |z::c::a=>by
  show bB [z]++dO ""++GR (dO "") ((c::a).map λz=>bB [z])=_;rw [Dg (c::a),iF];show(⟨((([z]:aj).map il).toArray++(([]:aj).map il).toArray)++((c::a).map il).toArray⟩:aa)=⟨((z::c::a).map il).toArray⟩
  simp
def join_nil(z:aj):zu (dO "") (z.map λA=>bB [A])=bB z:=by rw [TL.join_eq];exact Dg z
abbrev Dh:a7:=top 24
inductive Di (D:List V) (H:U) (M:VK) (N:XK):Prop
 |mk(a:_)(t:aj)(_:D=[.ref a])(_:H a=Y (.lst (t.map λz=>V.int (z.toNat:Int))))(_:t.length<=10000)(_:∀A,(∀z o,H z=Y o->A z=Y o)->M (.str (bB (t.map norm))) A)
variable{UF:dD}
def N2(am:a9 K "signs_of" "signs_of" Dh d o0)(an:L "ord"=O)(a0:L "SIGNS"=Y (.str " ()0123456789abcdefghijklmnopqrstuvwxyz" wS))(a1:L "NO_SIGN"=Y (.str "?" UF)):f_ 1 d o0 ["text"] Di:=by
 refine am.go ["text","sign_of","sign","byte"] λbi bk bl r H bm bn bs bt a2 n G sz=>?_;let⟨w,N,rfl,Q,bv,a3⟩:=a2;exists _,ar (bj 1 n wk) (ar (d3 dZ S (AW (hl a0)) (bX 2 n) (ay (sC G (T 1) (cR Ah (by rfl) an (by decide+kernel) (aJ 2)) (T 2) S))) (ay (aQ (KI dP (fS (own:=[("byte",3)]) S n (dC (T 0)) (e2 S) (λr H R W X=>bX 3 n) (λr H R W X=>hB) (λr H R W X=>Kq G (T 1) (T 3) (hl a1) ⟨S,S,S,S⟩)))))),?_;intro e ab;exists _,S,?_;rw [sig_str];let s:VLx:=λi t q=>∃v,A3 (t=[Y (.ref w),Y (.ref e),v,O]) (q e=Y (.dK (nc (ji.take i)))) (∀A o,H A=Y o->q A=Y o)
 refine C5 (x:=bB ji) s ?_ ?_ ?_
 .refine⟨O,S,?_,?_⟩
  .rw [M];rfl
  .intro A o D;rw [ah (by intro a;rw [a,ab]at D;cases D)];exact D
 .rintro i c t q a4 ⟨v,rfl,f,g⟩;let⟨A,b,rfl⟩:=C7 a4;have ad:i<39:=(cF.mp b).1
  have y:ji.take (i+1)=ji.take i++[A]:=by rw [dq,b];rfl
  have h:=NZ ⟨i,ad⟩;have a5:ji.getD i 0=A:=by rw [Hz,b];rfl
  simp only [a5]at h;exists _,S,_,S,_,S,_,S,S,e,_,S,.inl ⟨_,.inl (A.toNat:Int),f,S,?_,S⟩,?_
  .unfold nc;rw [z,dU]
   lia
  .refine⟨_,S,?_,?_⟩
   .rw [M,AO h,y];unfold nc;rw [aT];rfl
   .intro c o D;rw [ah (by intro a;rw [a,ab]at D;cases D)];exact g c o D
 .rintro t q ⟨v,rfl,f,g⟩;rw [C8,dB]at f;exists ⟨_,S⟩,_,S,w,S,?_,?_
  .exact⟨_,av.of (g w _ Q)⟩
  .intro j B;have al:e≠j:=by intro a;rw [a,B]at f;cases f
   have h:∀A o,H A=Y o->A≠j:=by intro A o D a;rw [a]at D;rw [g j o D]at B;cases B
   let s:VCx:=λi E=>A3 (E j=Y (.lst ((N.take i).map λA=>V.str (bB [norm A])))) (E e=Y (.dK (nc ji))) (∀A o,H A=Y o->E A=Y o);refine hC (xs:=N.map λA=>V.int (A.toNat:Int)) s ?_ ?_ ?_ ?_
   .refine⟨by rw [M];rfl,ah al▸f,λA o D=>?_⟩;rw [ah (h A o D)];exact g A o D
   .rintro i E ad ⟨_,_,k⟩;exact av.of (k w _ Q)
   .rintro i ca E l ⟨F,C,k⟩;rw [bh]at l;cases b:N[i]? with
    |none=>rw [b]at l;cases l
    |some A=>
     rw [b]at l;obtain rfl:=aS l;have y:N.take (i+1)=N.take i++[A]:=by rw [dq,b];rfl
     exists S,?_;unfold hk;dsimp only [];rw [ai S];exists _,S,e,S,.inl ⟨_,.inl C⟩,_,S,_,.inl ⟨_,.inl (A.toNat:Int),.inl C,S,S⟩,_,F,?_,?_,?_,?_
     .rw [z,dU];lia
     .rw [M,N1,y,aT];rfl
     .rwa [ah al]
     .intro c o D;rw [ah (h c o D)];exact k c o D
   .rintro E ⟨F,C,k⟩;rw [z,dB]at F;have bd:(N.map λA=>V.str (bB [norm A]))=((N.map norm).map λA=>bB [A]).map V.str:=by
     rw [d7,d7];rfl
    rw [bd]at F;exists _,j,_,S,S,.inl (av.of F),?_,?_
    .rw [z,z,iF,h5];have:∀u:aj,((u.map λA=>bB [A]).map (·.length)).sum=u.length:=by
      intro u;induction u with
      |nil=>rfl
      |cons A cd be=>rw [aZ,aZ,eC,be,h5];simp;lia
     rw [this,z];simp
     lia
    .rw [join_nil];exact a3 E k
def b4(z:Pr):List V:=[.int z.1,.int z.2]
def pk(z:Pr):List Key:=[.inl (z.1:Int),.inl (z.2:Int)]
def lP(D:pk re=pk Fk):re=Fk:=by unfold pk at D;injection D with b a;injection b with b;injection a with a _;injection a with a;exact kf (by lia) (by lia)
def Ext(H A:U):Prop:=∀z o,H z=Y o->A z=Y o
theorem Ext.refl(H:U):Ext H H:=λ_ _ z=>z
variable{r sK:U}
theorem Ext.trans{H:U}(G:Ext H r)(M:Ext r sK):Ext H sK:=λD o N=>M D o (G D o N)
theorem Ext.upd{H:U}{o:HO}(G:Ext H r)(M:H d=O):Ext H (upd r d o):=λN u z=>by rw [ah (by intro S;rw [S,M]at z;cases z)];exact G N u z
def Ext.none{H:U}(G:Ext H r)(D:r d=O):H d=O:=by
 cases a:H d with
 |none=>rfl
 |some o=>rw [G d o a]at D;cases D
def Ext.rd{H:U}{o:HO}(G:Ext H r)(z:Rd H d o):Rd r d o:=by
 rcases z with z|⟨u,z⟩
 .exact .inl (G d _ z)
 .exact .inr ⟨u,G d _ z⟩
variable{t3:List V}
theorem Ext.aP{K:af}{H:U}(G:Ext H r)(M:ax K H d t3):ax K r d t3:=M.imp G.rd id
theorem Ext.ef{K:af}{H:U}(G:Ext H r)(M:av K H d t3):av K r d t3:=M.imp G.rd id
variable{pp:bW}
theorem Ext.keys{K:af}{H:U}(D:Ext H r)(G:b9 K H pp):b9 K r pp:=λM N=>D.aP (G M N)
abbrev fJ(K:af)(H:U):List Z->List Pr->Prop:=cE λz A=>ax K H z (b4 A)
def LstAt(K:af)(H:U)(A:Z)(D:List Pr):Prop:=∃z,av K H A (z.map V.ref)/\fJ K H z D
def fK(D:aw)(G:au)(K:af)(H:U)(A:Z)(M:List Pr):Prop:=∃z,H A=Y (dX D G A z)/\b9 K H z/\z.map (·.1)=M.map pk
variable{v2:List Z}
theorem fJ.ext{K:af}{H:U}(G:Ext H r)(M:fJ K H v2 rc):fJ K r v2 rc:=Paired.cb M λ_ _ N=>G.aP N
def LstAt.ext{K:af}{H:U}(G:Ext H r)(M:LstAt K H d rc):LstAt K r d rc:=by let⟨N,S,T⟩:=M;exists N,G.ef S,fJ.ext G T
def fK.ext{K:af}{H:U}(N:Ext H r)(S:fK m p K H d rc):fK m p K r d rc:=by let⟨T,a,b,c⟩:=S;exists T,N d _ a,N.keys b,c
def kJ(S:pp.map (·.1)=rc.map pk)(G:Pr):(cm pp (pk G)).isSome=decide (G∈rc):=by
 unfold cm;rw [kU];rw [ic,List.find?_isSome,nY];constructor
 .rintro⟨M,N,z⟩;have z:=d6 z
  have:M.1∈rc.map pk:=S▸dY N;let⟨a,b,T⟩:=bH.mp this;rw [z]at T;rwa [<-lP T]
 .intro U;have:pk G∈pp.map (·.1):=S▸dY U
  let⟨M,N,z⟩:=bH.mp this;exists M,N,cq z
theorem eA{D:sB->At->Prop}{i:Nat}:∀{G:List sB} {M:List At} {N:sB},cE D G M->G[i]?=Y N->∃S,M[i]?=Y S/\D N S:=λT U=>A0 T U
abbrev Dj:a7:=top 71
inductive xH (m:aw) (p:au) (K:af) (A:List V) (H:U) (D:VK) (M:XK):Prop
 |mk(a ps:_)(_:A=[.ref a])(_:LstAt K H a ps)(_:ps.Nodup)(_:ps.length<=10000)(_:∀d z,Ext H z->H d=O->fK m p K z d ps->D (.ref d) z)
def N3(Q:a9 K "as_keys" "as_keys" Dj d o0):f_ 1 d o0 ["sorts"] (xH m p K):=by
 refine Q.go ["sorts","keys","sort"] λas a0 a1 a2 H a3 a4 a5 bd G t R sz=>?_;let⟨u,b,rfl,⟨x,y,B⟩,C,be,W⟩:=G;exists _,ar (bj 1 t ky) (ar (d3 dZ S (dC (T 0)) (bX 2 t) (ay (i4 R (T 1) (T 2) hx S))) (ay (aQ (T 1)))),?_;intro f k;exists _,S,u,S,⟨_,(Ext.upd (Ext.refl H) k).ef y⟩,?_;let X:VLx:=λi l N=>X2 λs A=>A5 (l=[Y (.ref u),Y (.ref f),s]) (N f=Y (dX m p f A)) (b9 K N A) (A.map (·.1)=(b.take i).map pk) (Ext H N)
 refine fw (xs:=x.map V.ref) X ?_ ?_ ?_ ?_
 .exact⟨O,[],S,M,λD n=>absurd n gR,S,Ext.upd (Ext.refl H) k⟩
 .rintro i l N _ ⟨s,A,rfl,g,h,a,r⟩;exact r.ef y
 .rintro i bi l N j ⟨s,A,rfl,g,h,a,r⟩;rw [bh]at j;cases q:x[i]? with
  |none=>rw [q]at j;cases j
  |some ab=>
   rw [q]at j;obtain rfl:=aS j;let⟨D,n,ad⟩:=eA B q;have bk:A.length<=b.length:=by
    have:=bD cN a;rw [z,z,dU]at this
    lia
   have E:b.take (i+1)=b.take i++[D]:=by rw [dq,n];rfl
   have al:cm A (pk D)=O:=by
    have:=kJ a D;have am:D∉b.take i:=by
     have F:=(cF.mp n)
     let⟨F,e⟩:=F;rw [<-vk (i+1) b,E]at C;have:=(gC.mp (gC.mp C).1).2.2
     intro an;exact this D an D (bb.mpr S) S
    rw [bU am]at this;cases e:cm A (pk D)with
    |none=>rfl
    |some v=>rw [e]at this;cases this
   have w:=r.aP ad;exists _,S,_,S,f,A,pk D,ab,S,g,h,S,w,by lia,_,_,S,M,?_,?_,?_
   .exact(ly h _ w).same λc bl G=>bF (.inl (g▸trivial)) G
   .rw [iw _ _ al,aT,a,E,aT];rfl
   .intro c o e;rw [ah (by intro ap;rw [ap,k]at e;cases e)];exact r c o e
 .rintro l N ⟨s,A,rfl,g,h,a,r⟩;rw [z,bO B,dB]at a;exists _,S,W f N r k ⟨A,g,h,a⟩
def fk(D:aw)(G:au)(K:af)(H:U):bW->List (Pr×List Pr)->Prop:=cE λz y=>z.1=pk y.1/\∃A,z.2.2=.ref A/\fK D G K H A y.2
def TabAt(D:aw)(G:au)(K:af)(H:U)(A:Z)(M:List (Pr×List Pr)):Prop:=∃z,H A=Y (dX D G A z)/\b9 K H z/\fk D G K H z M/\(z.map (·.2.2)).Nodup/\(V.ref A)∉z.map (·.2.2)
variable{P3:List (Pr×List Pr)}
def TabAt.ext{K:af}{H:U}(A:Ext H r)(S:TabAt m p K H d P3):TabAt m p K r d P3:=by let⟨T,a,b,c,z⟩:=S;exists T,A d _ a,A.keys b,Paired.cb c λj y e=>?_,z;let⟨f,g,h,i⟩:=e;exists f,g,h,i.ext A
def gv{K:af}{H:U}(d:fk m p K H pp P3):ba P3 re=Y rc->∃A,cm pp (pk re)=Y (.ref A)/\fK m p K H A rc:=by
 induction d with
 |nil=>intro z;cases z
 | @cons x y pp P3 e D f=>
  intro z;let⟨b,A,g,h⟩:=e;unfold ba at z;rw [gb]at z;by_cases c:y.1=re
  .rw [cq c]at z;obtain rfl:=aS z;exists A,?_,h;unfold cm;rw [gb,cq (by rw [b,c])];show Y x.2.2=_
   rw [g]
  .rw [bU c]at z;let⟨i,j,k⟩:=f z;exists i,?_,k;unfold cm;rw [gb,bU (by rw [b];exactλl=>c (lP l))];exact j
def h7(A:Z)(H:U)(D:Z)(G:aa)(v:V):Prop:=∃M z,H D=Y (.ins A M z)/\z.lookup G=Y v
def h7.ext{H:U}{v:V}(M:Ext H r)(N:h7 q H d op v):h7 q r d op v:=by let⟨S,T,a,b⟩:=N;exists S,T,M d _ a,b
theorem fY{D:sB->At->Prop}{G:List sB}{M:List At}{N:sB}{S:At}(T:cE D G M)(U:D N S):cE D (G++[N]) (M++[S]):=T.snoc U
variable{h:Cx}{ss xL:TE}{pu:b2}{o i:a8}
def pb(z:aw)(A:au)(K:af)(D:h.A.units+1<cK)(G:PE h o ss)(M:PE h i xL)(N:ox i)(T:h.prog=z:=by rfl)(hw:h.w=A:=by rfl)(U:h.K=K:=by rfl):PE h (.Subscript o i pu) (Bl z A K ss xL):=by subst T hw U;exact ff D G M N
def Dk(z:aw)(A:au)(K:af)(D:h.A.units+1<cK)(G:PE h i xL)(M:PE h o ss)(N:h.prog=z:=by rfl)(hw:h.w=A:=by rfl)(T:h.K=K:=by rfl):PC h .In i o (Bm z A K xL ss):=by subst N hw T;exact wA D G M
variable{no:a8}
def xI(K:af)(z:PE h no ss)(A:j3 no op h.env (iR no h.env)=iR no h.env)(D:h.K=K:=by rfl):PE h (.Attribute no op pu) (vM K ss op):=by subst D;exact fP z A
def pd(K:af)(z:h.K=K:=by rfl):qx h (Az K):=by subst z;exact ku
abbrev Dl:a7:=top 72
inductive tJ (m:aw) (p:au) (K:af) (D:Z) (M:List V) (H:U) (N:VK) (T:XK):Prop
 |mk(P t b ls a tab c ps:_)(_:M=[.ref P,.ref t,.ref b])(_:h7 D H P "sorts" (.ref ls))(_:LstAt K H ls a)(_:a.length<=10000)(_:TabAt m p K H t tab)(_:ax K H b (b4 c))(_:ba tab c=Y ps)(_:∀z A,Ext H A->H z=O->LstAt K A z (a.filter λx=>decide (x∈ps))->(∃S,A z=Y (.lst S))->N (.ref z) A)
def N4(W:a9 K "sorts_at" "sorts_at" Dl q o0)(j:fc K d)(X:dF K d "sorts"):f_ 1 q o0 ["program","table","place"] (tJ m p K d):=by
 refine W.go ["program","table","place","sort"] λch ci cl r H cn co cr cs ab t u sz=>?_;let⟨v,ad,x,al,f,ct,am,k,rfl,⟨an,ap,as,a0⟩,⟨y,B,C⟩,c0,a1,a2,a3,a4⟩:=ab;exists _,ay (aQ (fS (own:=[("sort",3)]) S t (dC (aF 0)) (e2 S) (λr H d j E=>bX 3 t) (λr H d j E=>kv (i0 (Dk m p K u (T 3) (pb m p K u (T 1) (T 2) (λ_ _=>S))) S)) (λr H d j E=>T 3))),?_;dsimp;exists _,S,v,d,an,ap,_,S,as,j,X,a0,al,S,⟨_,B⟩,λF n=>?_;let a:VCx:=λi b=>(∃D,b F=Y (.lst (D.map V.ref))/\fJ K b D ((f.take i).filter λe=>decide (e∈k))/\D.length<=i)/\Ext H b
 refine hC (xs:=y.map V.ref) a ?_ ?_ ?_ ?_
 .exact⟨⟨[],M,.nil,aR _⟩,Ext.upd (Ext.refl H) n⟩
 .rintro i b a5 ⟨_,A⟩;exact A.ef B
 .rintro i e b g ⟨⟨D,w,h,o⟩,A⟩;rw [bh]at g;cases s:y[i]? with
  |none=>rw [s]at g;cases g
  |some c=>
   rw [s]at g;obtain rfl:=aS g;let⟨l,Q,R⟩:=eA C s;have a5:=(cF.mp Q).1
   have bd:f.take (i+1)=f.take i++[l]:=by rw [dq,Q];rfl
   let⟨be,bi,bk,bl,_⟩:=a1.ext A;let⟨bm,bn,bs,bt,bv,ca⟩:=gv bl a3;exists S,_,S,_,S,_,S,ad,_,S,⟨be,pk am,x,bi,bk,S,A.aP a2,bn.symm⟩,bm,_,S,⟨bs,pk l,c,bt,bv,S,A.aP R,S⟩,?_;rw [kJ ca];have cd:(f.take (i+1)).filter (λe=>decide (e∈k))=(f.take i).filter (λe=>decide (e∈k))++(if decide (l∈k)=I then [l]else []):=by rw [bd,nT];congr 1;rw [ig,vg]
   dsimp only [a];rw [cd];exists _,S,ec (λG=>?_) (λG=>?_)
   .rw [ai G];exists _,S,_,w,by rw [z];lia,⟨D++[c],?_,?_,br▸qi o 1⟩,?_
    .rw [M,aT];rfl
    .refine fY (Paired.cb h λx v ce=>?_) ?_
     .exact bF (.inl (w▸trivial)) ce
     .exact bF (.inl (w▸trivial)) (A.aP R)
    .exact Ext.upd A n
   .rw [N G,b0];exists ⟨D,w,h,HA o⟩,A
 .rintro b ⟨⟨D,w,h,o⟩,A⟩;rw [z,bO C,dB]at h;exact a4 F b A n ⟨D,av.of w,h⟩ ⟨_,w⟩
variable{Id:TT}
def ra{o:aL}{aX:bW}{u:U->Prop}(z:Nat->U->Prop)(B:z 0 (upd r d (.lst [])))(C:∀i H,i<=aX.length->z i H->H q=Y (.bP o (dX m p q aX)))(E:∀i a H,aX[i]?=Y a->z i H->FM (.ref a.2.1) (wipe s3 ww) H λA h=>wipe A ww=wipe s3 ww/\Id A h λj c=>if j=I then ss A c λy N=>∃D,N d=Y (.lst D)/\D.length<aU/\z (i+1) (upd N d (.lst (D++[y])))else z (i+1) c) (F:∀H,z aX.length H->u H):∃k:Nat->Nat->U->Prop,(∃G,k 0 G (upd r d (.lst [])))/\∀i G H,k i G H->((lA m p q o aX).stop i H/\u H)\/((lA m p q o aX).go i H/\∃l:U->Prop,(∀M,l M->∃v,v<G/\k (i+1) v M)/\∀T M,(lA m p q o aX).hc i H T M->FM T (wipe s3 ww) M λA h=>wipe A ww=wipe s3 ww/\Id A h λj c=>if j=I then ss A c λy N=>∃D,N d=Y (.lst D)/\D.length<aU/\l (upd N d (.lst (D++[y])))else l c):=by
 exists λi G H=>G=aX.length-i/\i<=aX.length/\z i H,⟨aX.length,by simp,cP _,B⟩,?_;rintro i G H ⟨rfl,K,a⟩;have w:=C i H K a
 by_cases x:i<aX.length
 .refine .inr ⟨⟨w,x⟩,z (i+1),λM n=>⟨aX.length-(i+1),by lia,S,x,n⟩,λT M y=>?_⟩;let⟨b,n,L,rfl⟩:=y;subst b;exact E i n _ L a
 .have b:i=aX.length:=by lia
  subst b;exact .inl ⟨⟨w,aR _⟩,F H a⟩
abbrev Dm:a7:=top 51
inductive xJ (m:aw) (p:au) (K:af) (D:List V) (H:U) (M:VK) (N:XK):Prop
 |mk(t tab l k ps:_)(_:D=[.ref t,.int (l:Nat),.int (k:Nat)])(_:TabAt m p K H t tab)(_:ba tab (0,l)=Y ps)(_:ps.length<=10000)(_:∀z A,Ext H A->H z=O->A z=Y (.lst ((dJ k ps).map λx=>V.int (x:Nat)))->M (.ref z) A)
set_option tactic.hygienic true
def N5(bi:a9 K "labels_at" "labels_at" Dm d o0)(bl:L "NODE_PLACE"=Y (.int 0 wS)):f_ 1 d o0 ["table","label","kind"] (xJ m p K):=by
 refine bi.go ["table","label","kind","sort"] λct c0 c1 E H c2 c3 c4 c5 G am bm sz=>?_;let⟨F,c6,an,j,q,rfl,bn,bs,c7,bt⟩:=G;exists _,ay (my (aQ (fS (own:=[("sort",3)]) S am (lB (ff bm (T 0) (b6 (A (b7 bl) (aJ 1))) (λ_ _=>S))) (e2 S) (λE H ap as a0=>bX 3 am) (λE H ap as a0=>kv (bS cT (cc (pd K) (T 3) cL (λ_ _=>S)) (T 2) (bV _))) (λE H ap as a0=>cc (pd K) (T 3) cL (λ_ _=>S))))),?_;let⟨a1,a2,bv,ca,c8,cd⟩:=bn;let⟨c,w,r,Q,ce,a3⟩:=gv ca bs;exists c,_,Q,trivial,λR=>?_;have ch:F≠c:=by
  intro b;apply cd;have:∃e∈a1,e.2.2=.ref c:=by unfold cm at w;let⟨e,k,a⟩:=cv.mp w;exists e,fq k,a
  let⟨e,k,a⟩:=this;rw [b,<-a];exact dY k
 exists _,S,_,S,(by show 2<=aU;decide),λl t=>?_;have x:l≠c:=by intro b;rw [b,M]at t;cases t
 have a4:H l=O:=by rw [ah x]at t;exact t
 have ci:F≠l:=by intro b;rw [b,a4]at a2;cases a2
 let cl:U:=upd (upd H c (.bP R (dX m p c r))) l (.tup [.int 0,.int (an:Nat)]);have a5:∀D f,ax K H D f->ax K cl D f:=λD f G=>bF (.inr t) (bF (.inl (Q▸trivial)) G)
 exists F,_,S,⟨a1,pk (0,an),l,?_,bv.same a5,S,ax.of M,w.symm⟩,c,R,r,S,?_,λs ad=>?_
 .rwa [ah ci,ah ch]
 .rw [ah x.symm,M];rfl
 have y:c≠s:=by intro b;rw [<-b,ah x.symm,M]at ad;cases ad
 have W:H s=O:=by
  have n:s≠l:=by intro b;rw [b,M]at ad;cases ad
  rw [ah n,ah (eP y)]at ad;exact ad
 have cn:r.length=q.length:=by have:=bD cN a3;rwa [z,z]at this
 let bd:VCx:=λi g=>A4 (g s=Y (.lst ((dJ j (q.take i)).map λe=>V.int (e:Nat)))) (g c=Y (.bP R (dX m p c r))) (∀D f,ax K H D f->ax K g D f) (∀D o,D≠c->H D=Y o->g D=Y o);refine ra (aX:=r) bd ?_ ?_ ?_ ?_
 .refine⟨M,by rw [ah y,ah x.symm,M],λD f G=>bF (.inr ad) (a5 D f G),λD o h a=>?_⟩;have n:D≠s:=by intro b;rw [b,W]at a;cases a
  have co:D≠l:=by intro b;rw [b,a4]at a;cases a
  rwa [ah n,ah co,ah h]
 .rintro i g _ ⟨_,G,_⟩;exact G
 .rintro i e g k ⟨u,X,B,C⟩;have v:(r.map (·.1))[i]?=Y e.1:=by rw [bh,k];rfl
  rw [a3,bh]at v;cases ab:q[i]? with
  |none=>rw [ab]at v;cases v
  |some al=>
   rw [ab]at v;have cr:=aS v
   have be:ax K g e.2.1 (b4 al):=by have:=B _ _ (ce e (cG k));rw [<-cr]at this;exact this
   have cs:dJ j (q.take (i+1))=dJ j (q.take i)++(if al.1=j then [al.2]else []):=by
    rw [dq,ab];unfold dJ;rw [vh];congr 1;show TN _ [al]=_
    rw [kR,zU];split<;>rename_i G<;>split at G<;>simp_all
   have c9:=(cF.mp k).1;exists S,_,S,_,_,_,_,S,S,be,S,_,S,S,_,S,?_;dsimp only [bd];rw [cs];refine ec (λa=>?_) (λa=>?_)
   .have n:al.1=j:=by
     have:=d6 a;injection this with this
     lia
    rw [ai n];exists _,S,_,_,_,_,S,S,be,S,_,u,?_,?_,?_,?_,?_
    .rw [z];have:(dJ j (q.take i)).length<=i:=cu (iU _ _) (by rw [dU];lia)
     lia
    .rw [M,aT];rfl
    .rwa [ah y]
    .exactλD f G=>bF (.inl (u▸trivial)) (B D f G)
    .intro D o h a;rw [ah (by intro b;rw [b,W]at a;cases a)];exact C D o h a
   .have n:¬al.1=j:=λb=>a (cq (by rw [b]));rw [N n,b0];exists u,X,B,C
 .rintro g ⟨u,X,B,C⟩;rw [cn,dB]at u;exists X,bt s _ ?_ W ?_
  .intro D o a;by_cases h:D=c
   .rwa [h,M,<-Q,<-h]
   .rw [ah h];exact C D o h a
  .rwa [ah (eP y)]
set_option tactic.hygienic false
def cO:Fm->aa
 |.num=>"a number"|.used=>"a name"|.given=>"in"|.call=>"a call"
 |.fn=>"fun"|.letE=>"let"|.ifz=>"if"|.pair=>"pair"|.fst=>"fst"|.snd=>"snd"|.new=>"new"|.get=>"get"|.set=>"set"|.add=>"add"
def Dn:∀z A:Fm,cO z=cO A->z=A:=by intro z A;cases z<;>cases A<;>first|exactλ_=>rfl|exactλD=>absurd D (by decide+kernel)
def rb(z A:Fm):decide (V.str (cO z)=V.str (cO A))=decide (z=A):=by rw [hb];exact⟨λD=>Dn z A (by injection D),λD=>by rw [D]⟩
def nf:Option Nat->V
 |none=>.bw
 |some n=>.int (n:Nat)
structure kK(z:Z)(H:U)(a:Z)(i:Info):Prop where
 aK:h7 z H a "form" (.str (cO i.aK))
 word:h7 z H a "word" (.str (bB i.word))
 parent:h7 z H a "parent" (nf i.parent)
 parts:∃lp,h7 z H a "parts" (.ref lp)/\H lp=Y (.lst (i.parts.map λx=>V.int (x:Nat)))
def kK.ext{H:U}{i:Info}(z:Ext H r)(A:kK d H q i):kK d r q i:=by let⟨N,S,T⟩:=A.parts;exists A.aK.ext z,A.word.ext z,A.parent.ext z,N,S.ext z,z _ _ T
structure lQ(K:af)(z N:Z)(H:U)(p:Z)(A:Pg):Prop where
 nodes:∃D G,h7 z H p "nodes" (.ref D)/\H D=Y (.lst (G.map V.ref))/\cE (kK N H) G A.nodes
 binders:∃lb,h7 z H p "binders" (.ref lb)/\H lb=Y (.dK (A.binders.map λx=>(.inl (x.1:Int),.int (x.2:Nat))))
 sorts:∃M,h7 z H p "sorts" (.ref M)/\LstAt K H M A.sorts
 places:∃lp,h7 z H p "places" (.ref lp)/\LstAt K H lp A.places
def lQ.ext{K:af}{H:U}{S:Pg}(z:Ext H r)(A:lQ K d q H Q S):lQ K d q r Q S:=by let⟨T,a,b,c,D⟩:=A.nodes;let⟨e,f,g⟩:=A.binders;let⟨h,i,j⟩:=A.sorts;let⟨k,l,m⟩:=A.places;exists ⟨T,a,b.ext z,z _ _ c,Paired.cb D λ_ _ n=>n.ext z⟩,⟨e,f.ext z,z _ _ g⟩,⟨h,i.ext z,j.ext z⟩,⟨k,l.ext z,m.ext z⟩
structure rf(K:af)(z A:Z):Prop where
 c:fc K z
 cn:fc K A
 nodes:dF K z "nodes"
 binders:dF K z "binders"
 sorts:dF K z "sorts"
 places:dF K z "places"
 aK:dF K A "form"
 word:dF K A "word"
 parent:dF K A "parent"
 parts:dF K A "parts"
def da(K:af)(H:U)(G:Z)(z:Wy):Prop:=∃A D,ax K H G [.ref A,.ref D]/\ax K H A (b4 z.1)/\ax K H D (b4 z.2)
def da.ext{K:af}{H:U}{G:Wy}(z:Ext H r)(M:da K H d G):da K r d G:=by let⟨N,S,T,a,b⟩:=M;exists N,S,z.aP T,z.aP a,z.aP b
def jj(K:af)(H:U)(A:Z)(D:List Wy):Prop:=∃z,H A=Y (.lst (z.map V.ref))/\cE (da K H) z D
theorem Ext.new{H:U}{o:HO}(D:Ext H r)(G:r d=O):Ext H (L2.upd r d o):=D.upd (D.none G)
theorem Ext.one{H:U}{o:HO}(A:H d=O):Ext H (L2.upd H d o):=(Ext.refl H).new A
structure Gs(G:aa->Option J):Prop where
 node:∃z,G "NODE_PLACE"=Y (.int 0 z)
 name:∃z,G "NAME_PLACE"=Y (.int 1 z)
 first:∃z,G "FIRST_PLACE"=Y (.int 2 z)
 second:∃z,G "SECOND_PLACE"=Y (.int 3 z)
 inside:∃z,G "INSIDE_PLACE"=Y (.int 4 z)
 used:∃z,G "USED_NAME"=Y (.str "a name" z)
 call:∃z,G "CALL"=Y (.str "a call" z)
def ng{G:At->sB->Prop}{M:List At}{N:List sB}{i:Nat}{T:sB}(a:cE G M N):N[i]?=Y T->∃U,M[i]?=Y U/\G U T:=by
 induction a generalizing i with
 |nil=>exactλz=>by cases z
 |cons b d c=>
  intro z;cases i with
  |zero=>cases z;exists _,S,b
  |succ i=>exact c (i:=i) z
def cD:2<=aU:=by decide
def eN:1<=aU:=by decide
def N6(D:Pg)(G:Nat):cU (D.binders.map λz=>((.inl (z.1:Int):Key),V.int (z.2:Nat))) (.inl (G:Int))=(lH D G).map λN=>V.int (N:Nat):=by
 unfold cU lH;induction D.binders with
 |nil=>rfl
 |cons z a b=>
  rw [aZ,gb,gb];by_cases A:z.1=G
  .rw [cq (by rw [A]),cq A];rfl
  .rwa [bU (by intro M;injection M with M;exact A (by lia)),bU A]
abbrev Dq:a7:=top 48
inductive Dr (K:af) (D M:Z) (N:List V) (H:U) (S:VK) (T:XK):Prop
 |mk(p g l i:_)(_:N=[.ref p,.int (l:Nat)])(_:lQ K D M H p g)(_:g.nodes[l]?=Y i)(_:i.parts.length=arity i.aK)(_:(i.aK=.used->(lH g l).isSome=I))(_:∀z A,Ext H A->H z=O->jj K A z (hG g l i.aK i.parts)->S (.ref z) A)
theorem list1{z:List sB}(D:z.length=1):∃M,z=[M]:=TQ.mp D
theorem rg{z:List sB}(N:z.length=2):∃A D,z=[A,D]:=match z,N with
 |[A,D],_=>⟨A,D,S⟩
theorem N7{z:List sB}(N:z.length=3):∃A D c,z=[A,D,c]:=match z,N with
 |[A,D,c],_=>⟨A,D,c,S⟩
def Ds{D:sB->At->Prop}{M:List sB}{N:At}(U:cE D M [N]):∃T,M=[T]/\D T N:=by
 cases U with
 |cons a b=>cases b;exists _,S,a
def tK{z:sB->At->Prop}{M:List sB}{N y:At}(U:cE z M [N,y]):∃T c,M=[T,c]/\z T N/\z c y:=by
 cases U with
 |cons a b=>let⟨c,rfl,d⟩:=Ds b;exists _,c,S,a,d
def N8{z:sB->At->Prop}{N:List sB}{T y U:At}(d:cE z N [T,y,U]):∃b c A,N=[b,c,A]/\z b T/\z c y/\z A U:=by
 cases d with
 |cons a e=>let⟨c,A,rfl,f⟩:=tK e;exists _,c,A,S,a,f
def N9{y:Z}(dp:a9 K "standing_ways" "standing_ways" Dq q o0)(N:rf K d y)(am:Gs L):f_ 1 q o0 ["program","label"] (Dr K d y):=by
 let⟨g3,c3⟩:=am.node;let⟨hd,c4⟩:=am.name;let⟨he,ds⟩:=am.first;let⟨hf,dx⟩:=am.second;let⟨hi,dK⟩:=am.inside;let⟨hm,dL⟩:=am.used;refine dp.go ["program","label","node","here","parts","part"] λhz h0 h1 ce H h2 id ii im dT bv dX sz=>?_;let⟨ch,ci,c1,i,rfl,c5,d0,an,d1,g⟩:=dT;exists _,ar (bj 2 bv (cc dk (aF 0) (T 1) (λ_ _=>S))) (ar (bj 3 bv (b6 (A (b7 c3) (aJ 1)))) (ar (sv (i:=4) (own:=[("part",5)]) S bv S rfl (sx S rfl rfl rfl) (dC (aF 2)) (e2 S) (λce H d N c6=>bX 5 bv) (λce H d N c6=>hB) (λce H d N c6=>b6 (A (b7 c3) (aJ 5)))) (ar (bK (bS cT (aF 2) (ek (v:=.str (cO .used)) S dL ⟨_,S⟩) (bV _)) (ay (aQ (de (A (b6 (A (b6 (A (b7 c4) (A (AR dX (aF 0) (T 1) (λ_ _=>S)) aC))) (aJ 3))) aC)))) bQ) (ar (bK (bS cT (aF 2) dP (bV _)) (ay (aQ (de (A (b6 (A (cc dk (T 4) cL (λ_ _=>S)) (A (b6 (A (b7 c4) (aJ 1))) aC))) (A (b6 (A (cc dk (T 4) cL (λ_ _=>S)) (aJ 3))) aC))))) bQ) (ar (bK (bS cT (aF 2) dP (bV _)) (ay (aQ (de (A (b6 (A (cc dk (T 4) cL (λ_ _=>S)) (aJ 3))) (A (b6 (A (cc dk (T 4) cL (λ_ _=>S)) (aJ 3))) aC))))) bQ) (ar (bK (bS cT (aF 2) dP (bV _)) (ay (aQ (de (A (b6 (A (cc dk (T 4) cL (λ_ _=>S)) (A (b6 (A (b7 ds) (aJ 1))) aC))) (A (b6 (A (cc dk (T 4) cL (λ_ _=>S)) (A (b6 (A (b7 dx) (aJ 1))) aC))) aC))))) bQ) (ar (bK (bS cT (aF 2) dP (bV _)) (ay (aQ (de (A (b6 (A (cc dk (T 4) cL (λ_ _=>S)) (A (b6 (A (b7 dK) (aJ 1))) aC))) aC)))) bQ) (ar (bK (bS cT (aF 2) dP (bV _)) (ay (aQ (de (A (b6 (A (cc dk (T 4) cL (λ_ _=>S)) (aJ 3))) aC)))) bQ) (ay (aQ (de aC))))))))))),?_;let⟨em,io,⟨eq,es,ev,ex⟩,fa,fd⟩:=c5.nodes;let⟨R,fl,c7⟩:=ng fd d0;let⟨fm,⟨fn,fr,fs,fT⟩,c8⟩:=c7.parts;exists _,S,ch,d,eq,es,_,S,ev,N.c,N.nodes,ex,_,S,em,_,_,_,S,S,av.of fa,e1 (by rw [bh,fl];rfl),?_;exists _,S,cD,λc2 f0=>?_;have ca:Ext H (upd H c2 (.tup [.int 0,.int (c1:Nat)])):=Ext.one f0
 exists _,S,R,y,fn,fr,_,S,ca _ _ fs,N.cn,N.parts,fT,fm,S,⟨_,av.of (ca _ _ c8)⟩,λs cl=>?_;have f1:=ca.none cl
 let f2:VCx:=λW C=>A3 (∃ap,C s=Y (.lst (ap.map V.ref))/\fJ K C ap ((i.parts.take W).map λE=>(0,E))/\ap.length<=W) (Ext H C) (ax K C c2 (b4 (0,c1)));refine hC (xs:=i.parts.map λE=>V.int (E:Nat)) f2 ?_ ?_ ?_ ?_
 .exact⟨⟨[],M,.nil,aR _⟩,ca.new cl,(Ext.one cl).aP (ax.of M)⟩
 .rintro W C _ ⟨_,a,_⟩;exact av.of (a _ _ c8)
 .rintro W E C bl ⟨⟨ap,r,l,c9⟩,a,X⟩;rw [bh]at bl;cases cd:i.parts[W]? with
  |none=>rw [cd]at bl;cases bl
  |some c=>
   rw [cd]at bl;obtain rfl:=aS bl;have is:=(cF.mp cd).1
   have it:i.parts.length<=3:=by rw [an];cases i.aK<;>decide
   have f4:(i.parts.take (W+1)).map (λE=>((0,E):Pr))=(i.parts.take W).map (λE=>(0,E))++[(0,c)]:=by rw [dq,cd,aT];rfl
   exists S,?_;unfold hk;dsimp only [];rw [ai S];exists _,S,cD,λcn bm=>?_;have db:s≠cn:=by intro bn;rw [<-bn,r]at bm;cases bm
   have co:cX (upd C cn (.tup [.int 0,.int (c:Nat)]) s):=by rw [ah db,r];exact trivial
   exists _,by rw [ah db];exact r,by rw [z];lia,⟨ap++[cn],?_,?_,by rw [br];exact qi c9 1⟩,(a.new bm).upd f1,bF (.inl co) (bF (.inr bm) X)
   .rw [M,aT];rfl
   .rw [f4];exact fY (Paired.cb l λas ch bn=>bF (.inl co) (bF (.inr bm) bn)) (bF (.inl co) (ax.of M))
 .rintro C ⟨⟨ap,r,l,c9⟩,a,X⟩;rw [z,dB]at l;let⟨a0,a1,a2,a3⟩:=(c7.ext a).aK;have bs:∀ab:Fm,¬decide (V.str (cO i.aK)=V.str (cO ab))=I->¬i.aK=ab:=λab x bn=>x (by rw [bn];exact cq S)
  have a4:∀ab:Fm,decide (V.str (cO i.aK)=V.str (cO ab))=I->i.aK=ab:=λab x=>by rw [rb]at x;exact d6 x
  exists _,S,R,y,a0,a1,_,S,a2,N.cn,N.aK,a3,S,_,S,ec (λx=>?_) (λx=>?_)
  .have x:=a4 .used x;let⟨f8,⟨ga,ge,gl,go⟩,gt⟩:=(c5.ext a).binders;let⟨as,dd⟩:=rA.mp (d1 x);exists _,S,ch,d,ga,ge,_,S,gl,N.c,N.binders,go,_,S,f8,.int (as:Nat),S,?_,cD,λt ad=>?_
   .have:=ir.k (k:=.inl (c1:Int)) gt;rw [N6,dd]at this;exact this
   exists _,S,cD,λb f=>⟨eN,λw D=>?_⟩;have al:=Ext.one (o:=.tup [.int 1,.int (as:Nat)]) ad
   have G:=al.new (o:=.tup [.ref t,.ref c2]) f;have e:=G.new (o:=.lst [.ref b]) D
   have cr:hG ci c1 i.aK i.parts=[((1,as),(0,c1))]:=by
    rw [x];show(match lH ci c1 with|some as=>[((1,as),(0,c1))]|none=>[])=_
    rw [dd]
   rw [cr]at g;exact g w _ (a.trans e) ((a.trans G).none D) ⟨[b],M,.cons ⟨t,c2,(Ext.one D).aP (ax.of M),((Ext.one f).new D).aP (ax.of M),e.aP X⟩ .nil⟩
  exists _,S,R,y,a0,a1,_,S,a2,N.cn,N.aK,a3,S,_,S,ec (λa5=>?_) (λa5=>?_)
  .have a5:=a4 .letE a5;let⟨c,cs,h⟩:=rg (an.trans (bD arity a5));rw [a5,h]at g;rw [h]at l;let⟨j,F,rfl,B,bt⟩:=tK l;exists _,S,s,_,_,_,S,S,av.of r,S,_,S,cD,λt ad=>⟨cD,λb f=>?_⟩;have al:=Ext.one (o:=.tup [.int 1,.int (c1:Nat)]) ad
   have G:=al.new (o:=.tup [.ref j,.ref t]) f;exists _,S,s,_,_,_,S,S,av.of (G _ _ r),S,_,S,cD,λQ u=>⟨cD,λw D=>?_⟩;have e:=G.new (o:=.tup [.ref F,.ref c2]) u
   have n:=e.new (o:=.lst [.ref b,.ref Q]) D;exact g w _ (a.trans n) ((a.trans e).none D) ⟨[b,Q],M,.cons ⟨j,t,((Ext.one u).new D).aP (ax.of M),n.aP B,(((Ext.one f).new u).new D).aP (ax.of M)⟩ (.cons ⟨F,c2,(Ext.one D).aP (ax.of M),n.aP bt,n.aP X⟩ .nil)⟩
  exists _,S,R,y,a0,a1,_,S,a2,N.cn,N.aK,a3,S,_,S,ec (λbd=>?_) (λbd=>?_)
  .have bd:=a4 .ifz bd;let⟨c,cs,ix,h⟩:=N7 (an.trans (bD arity bd));rw [bd,h]at g;rw [h]at l;let⟨g1,j,F,rfl,g2,B,bt⟩:=N8 l;exists _,S,s,_,_,_,S,S,av.of r,S,_,S,cD,λb f=>?_;have G:=Ext.one (o:=.tup [.ref j,.ref c2]) f
   exists _,S,s,_,_,_,S,S,av.of (G _ _ r),S,_,S,cD,λQ u=>⟨cD,λw D=>?_⟩;have e:=G.new (o:=.tup [.ref F,.ref c2]) u
   have n:=e.new (o:=.lst [.ref b,.ref Q]) D;exact g w _ (a.trans n) ((a.trans e).none D) ⟨[b,Q],M,.cons ⟨j,c2,((Ext.one u).new D).aP (ax.of M),n.aP B,n.aP X⟩ (.cons ⟨F,c2,(Ext.one D).aP (ax.of M),n.aP bt,n.aP X⟩ .nil)⟩
  exists _,S,R,y,a0,a1,_,S,a2,N.cn,N.aK,a3,S,_,S,ec (λbe=>?_) (λbe=>?_)
  .have be:=a4 .pair be;let⟨c,cs,h⟩:=rg (an.trans (bD arity be));rw [be,h]at g;rw [h]at l;let⟨j,F,rfl,B,bt⟩:=tK l;exists _,S,s,_,_,_,S,S,av.of r,S,_,S,cD,λt ad=>⟨cD,λb f=>?_⟩;have al:=Ext.one (o:=.tup [.int 2,.int (c1:Nat)]) ad
   have G:=al.new (o:=.tup [.ref j,.ref t]) f;exists _,S,s,_,_,_,S,S,av.of (G _ _ r),S,_,S,cD,λdl ct=>⟨cD,λQ u=>⟨cD,λw D=>?_⟩⟩;have e:=G.new (o:=.tup [.int 3,.int (c1:Nat)]) ct
   have n:=e.new (o:=.tup [.ref F,.ref dl]) u;have c0:=n.new (o:=.lst [.ref b,.ref Q]) D
   exact g w _ (a.trans c0) ((a.trans n).none D) ⟨[b,Q],M,.cons ⟨j,t,(((Ext.one ct).new u).new D).aP (ax.of M),c0.aP B,((((Ext.one f).new ct).new u).new D).aP (ax.of M)⟩ (.cons ⟨F,dl,(Ext.one D).aP (ax.of M),c0.aP bt,((Ext.one u).new D).aP (ax.of M)⟩ .nil)⟩
  exists _,S,R,y,a0,a1,_,S,a2,N.cn,N.aK,a3,S,_,S,ec (λbi=>?_) (λbi=>?_)
  .have bi:=a4 .new bi;let⟨c,h⟩:=list1 (an.trans (bD arity bi));rw [bi,h]at g;rw [h]at l;let⟨j,rfl,B⟩:=Ds l;exists _,S,s,_,_,_,S,S,av.of r,S,_,S,cD,λt ad=>⟨cD,λb f=>⟨eN,λw D=>?_⟩⟩;have al:=Ext.one (o:=.tup [.int 4,.int (c1:Nat)]) ad
   have G:=al.new (o:=.tup [.ref j,.ref t]) f;have e:=G.new (o:=.lst [.ref b]) D
   exact g w _ (a.trans e) ((a.trans G).none D) ⟨[b],M,.cons ⟨j,t,(Ext.one D).aP (ax.of M),e.aP B,((Ext.one f).new D).aP (ax.of M)⟩ .nil⟩
  exists _,S,R,y,a0,a1,_,S,a2,N.cn,N.aK,a3,S,_,S,ec (λbk=>?_) (λbk=>?_)
  .have bk:=a4 .set bk;let⟨c,cs,h⟩:=rg (an.trans (bD arity bk));rw [bk,h]at g;rw [h]at l;let⟨g1,j,rfl,g2,B⟩:=tK l;exists _,S,s,_,_,_,S,S,av.of r,S,_,S,cD,λb f=>⟨eN,λw D=>?_⟩;have G:=Ext.one (o:=.tup [.ref j,.ref c2]) f
   have e:=G.new (o:=.lst [.ref b]) D;exact g w _ (a.trans e) ((a.trans G).none D) ⟨[b],M,.cons ⟨j,c2,(Ext.one D).aP (ax.of M),e.aP B,e.aP X⟩ .nil⟩
  have cr:hG ci c1 i.aK i.parts=[]:=by
   have jp:=bs .letE a5;have kk:=bs .ifz bd
   have kp:=bs .pair be;have ks:=bs .new bi
   have kt:=bs .set bk;unfold hG;split<;>first|rfl|(exfalso;simp_all)
  rw [cr]at g;exists cP _,λw D=>g w _ (a.new D) (a.none D) ⟨[],M,.nil⟩
abbrev Dt:a7:=inClass (top 20) 0
def eV(z:Fm)(A:aj)(D:Option Nat)(G:Z)(M N:Int):List (aa×V):=[("form",.str (cO z)),("word",.str (bB A)),("parent",nf D),("parts",.ref G),("begin",.int M),("end",.int N)]
structure pe(K:af)(z:Z):Prop where
 cl:fc K z
 aK:dF K z "form"
 word:dF K z "word"
 parent:dF K z "parent"
 parts:dF K z "parts"
 begin_:dF K z "begin"
 end_:dF K z "end"
inductive xM (z:Z) (A:List V) (H:U) (D:VK) (M:XK):Prop
 |mk(a b f x:_)(_:A=[.ref a,.str (cO f),.str (bB x)])(_:H a=Y (.ins z b []))(_:∀lp,H lp=O->D .bw (upd (upd H lp (.lst [])) a (.ins z b (eV f x O lp 0 0))))
variable{Db:HO}
def gS{H:U}{o:HO}:upd (upd H d o) d Db=upd H d Db:=by
 funext a;by_cases A:a=d
 .subst A;rw [M,M]
 .rw [ah A,ah A,ah A]
def Du{H:U}{o:HO}(T:d≠q):upd (upd H d o) q Db=upd (upd H q Db) d o:=by
 funext c;by_cases D:c=d
 .subst D;rw [ah T,M,M]
 .by_cases N:c=q
  .subst N;rw [M,ah D,M]
  .rw [ah N,ah D,ah D,ah N]
def Oa{c:bc}(e:a9 K "__init__" "Node.__init__" Dt q c)(z:pe K d):f_ 1 q c ["self","form","word"] (xM d):=by
 refine e.go ["self","form","word"] λj k l b H n w G r f _ _ _=>?_;let⟨D,N,q,s,rfl,g,h⟩:=f;exists _,ar (dQ (T 0) (T 1) S) (ar (dQ (T 0) (T 2) S) (ar (dQ (T 0) vr S) (ar (dQ (T 0) (de aC) S) (ar (dQ (T 0) cL S) (ay (dQ (T 0) cL S)))))),?_;exists _,S,_,S,D,d,N,_,S,g,z.cl,z.aK,(by decide),?_;exists _,S,_,S,D,d,N,_,S,M,z.cl,z.word,(by show 1<1000;decide),?_;exists _,S,D,d,N,_,S,M,z.cl,z.parent,(by show 2<1000;decide),?_;exists cP _,λA a=>?_;have U:A≠D:=by intro i;rw [i,M]at a;cases a
 exists _,S,D,d,N,_,S,by rw [ah U.symm,M],z.cl,z.parts,(by show 3<1000;decide),?_;exists _,S,D,d,N,_,S,M,z.cl,z.begin_,(by show 4<1000;decide),?_;exists _,S,D,d,N,_,S,M,z.cl,z.end_,(by show 5<1000;decide),?_;rw [ah U,ah U,ah U]at a;have:=h A a
 rw [gS,gS,Du (o:=HO.lst []) U,gS,gS,gS];rw [Du U]at this;exact this
abbrev Dv:a7:=inClass (top 21) 5
abbrev Dx:a7:=inClass (top 21) 6
structure nh(ws:List aj):Prop where
 ok:∀x∈ws,h6 x=I
 bl:∀x∈ws,¬(32:UInt8)∈x\/x=[32]
def nh.word(A:nh wn)(i:Nat):h6 (wordAt wn i)=I/\(¬(32:UInt8)∈wordAt wn i\/wordAt wn i=[32]):=by
 by_cases c:i<wn.length
 .have:=cG (q9 c);exists A.ok _ this,A.bl _ this
 .rw [kI (by lia)];exists S,.inl (λD=>nomatch D)
def Ob(D:h6 sw=I)(A:¬(32:UInt8)∈sw\/sw=[32]):cU gK (.inr (bB sw))=(ee sw).map λG=>V.int (arity G):=by
 rcases A with A|rfl
 .exact C4 D A
 .decide+kernel
def jQ{i:Nat}(A:i<wn.length):wn.drop i=wordAt wn i::wn.drop (i+1):=by
 rw [TR A];have:=q9 A
 rw [gd A]at this;rw [aS this]
theorem jk{i:Nat}(A:wn.length<=i):wn.drop i=[]:=zY A
theorem bN.refl(z:Z)(H:U):bN z H H:=λ_ _ A _=>A
theorem bN.trans{H:U}(N:bN d H r)(S:bN d r sK):bN d H sK:=λG o T M=>S G o (N G o T M) M
theorem Ext.but{a:Z}{H:U}(A:Ext H r):bN a H r:=λD o G _=>A D o G
def bN.none{H:U}(M:bN q H r)(G:r d=O)(N:d≠q):H d=O:=by
 cases a:H d with
 |none=>rfl
 |some o=>rw [M d o a N]at G;cases G
structure Oc(A a:Z)(H z:U)(nd lp:Z)(D:Fm)(x:aj):Prop where
 but:bN a H z
 xN:H nd=O
 xO:H lp=O
 pf:nd≠a
 Dy:lp≠a
 nd:∃G,z nd=Y (.ins A G (eV D x O lp 0 0))
 lp:z lp=Y (.lst [])
variable{pi:Z}
def tL{f:Fm}{t:aj}(h:r d=O)(i:r q=O)(m:q≠d)(N:upd (upd r q (.own d)) d (.ins pi q []) Q=O):∃c,c=upd (upd (upd (upd r q (.own d)) d (.ins pi q [])) Q (.lst [])) d (.ins pi q (eV f t O Q 0 0))/\Ext r c/\r Q=O/\Q≠d/\c d=Y (.ins pi q (eV f t O Q 0 0))/\c Q=Y (.lst []):=by
 have z:Q≠d:=by intro G;rw [G,M]at N;cases N
 have j:Q≠q:=by intro G;rw [ah z,G,M]at N;cases N
 rw [ah z,ah j]at N;refine⟨_,S,λe o a=>?_,N,z,M,by rw [ah z,M]⟩;have g:e≠d:=by intro G;rw [G,h]at a;cases a
 have k:e≠q:=by intro G;rw [G,i]at a;cases a
 have l:e≠Q:=by intro G;rw [G,N]at a;cases a
 rwa [ah g,ah l,ah g,ah k]
variable{s2:Z}
def hL.ext{H:U}{i:Nat}(T:Ext H r)(a:hL d H q Q pi s2 wn i):hL d r q Q pi s2 wn i:=by let⟨⟨b,c⟩,z,e⟩:=a;exists ⟨b,T _ _ c⟩,T _ _ z,e
def ni(S T a:Z)(H:U)(b:VK)(c:XK)(A d e f:Z)(D:List aj):Option (Fm×aj×List aj)->Prop
 |none=>∀z,bN A H z->c (.ref a) O z
 |some (g,x,h)=>∀z M N i,M<=D.length->D.drop M=h->hL S z A d e f D M->Oc T A H z N i g x->b (.ref N) z
inductive Dz (z A D:Z) (M:List V) (H:U) (N:VK) (S:XK):Prop
 |mk(a lw ln b ws i:_)(_:M=[.ref a])(_:hL z H a lw ln b ws i)(_:nh ws)(_:ni z A D H N S a lw ln b ws (eo (ws.drop i)))
def xQ{A:Fm}(D:ee sw=Y A):bB sw=cO A/\fz A=sw:=by
 have M:=fq D;have N:fz A=sw:=by simpa using mb D
 exists ?_,N;rw [<-N];simp only [bg,gR,g8]at M;rcases M with rfl|rfl|rfl|rfl|rfl|rfl|rfl|rfl|rfl|rfl<;>decide+kernel
def Od{z:Fm}(D:ee sw=Y z):jE (.str (bB sw)) [.str "fun",.str "let"]=isBinder z:=by
 rw [(xQ D).1];have M:=fq D
 simp only [bg,gR,g8]at M;rcases M with rfl|rfl|rfl|rfl|rfl|rfl|rfl|rfl|rfl|rfl<;>decide+kernel
def DA:(dO "in")=bB du:=by decide+kernel
def xR:(dO " ")=bB [32]:=by decide+kernel
theorem Oe:(dO "a call")=cO .call:=rfl
variable{v4:Z}
def Of(c4:a9 K "read_bracketed_head" "Reading.read_bracketed_head" Dx v4 o0)(f1:kH K d)(c5:L "NoProgram"=Y (.ref q))(c6:gP K q fU "Exception.__new__"=I)(c7:L "PARTS"=Y (.ref Q)) (c8:KD K m p Q gK) (c9:L "BINDERS"=Y (.ref pi)) (db:∀H,ax K H pi [.str "fun",.str "let"])  (dp:L "CALL"=Y (.str "a call" wS)) (ds:L "GIVEN"=Y (.str "in" UF))(dx:h_ 1 d "peek" ["self"] (xF d)) (dK:h_ 2 d "take" ["self"] (tI d)) (cl:r_ 3 d "pass_over" ["self","word"] (xG d q))(bl:iu m p K L P aE 1 "Node" s2 ["self","form","word"] (xM s2)) (dL:g_ 1 "is_name" ["word"] xA):k_ 4 v4 o0 ["self"] (Dz d s2 q):=by
 refine c4.ew ["self","form","bound"] λf2 f4 f8 ga H ge gl go r dT cn _ _=>?_;let⟨j,ap,as,a0,z,i,rfl,a1,co,e⟩:=dT;have cr:=r.mo 1
 have a2:=r.mo 2;exists _,ar (bj 1 cn (dR (E:=E0) (T 0) dx cr cx)) (ar (bK (i0 (Bn (T 1) (ek (v:=.ref Q) S c7 S)) S) (ay (aQ (iv (E:=E0) bl a2 cx (A (hl dp) (A dP aC))))) bQ) (ar (cM (eL (T 0) cl r dw (aJ 1))) (ar (bK (bS AB (T 1) (ek (v:=.ref pi) S c9 S) S) (ay (aQ (iv (E:=E0) bl a2 cx (A (T 1) (A dP aC))))) bQ) (ar (cM (eL (T 0) cl r dw (A dP aC))) (ar (bj 2 cn (dR (E:=E0) (T 0) dK a2 cx)) (ar (bK (PW.pt (vw (bS cT (T 2) (hl ds) (bV _)) (vu (r7 (kn (bI dL cr (aJ 2))))))) (ay (jH j8 (by decide) c6 S c5 r.hd)) bQ) (ay (aQ (iv (E:=E0) bl a2 cx (A (T 1) (aJ 2))))))))))),?_;let⟨⟨cs,a3⟩,gt,dX,g1,g2⟩:=id a1;let⟨d0,d1⟩:=co.word i;exists _,S,j,cs,_,S,a3,gu (.inl S),j,ap,as,a0,z,i,S,a1,?_;exists _,S,Q,_,S,⟨gK,.inr (bB (wordAt z i)),c8,S,S⟩,_,S,?_;rw [Ob d0 d1,kU];cases h:ee (wordAt z i)with
 |none=>
  refine cf ?_;have s:eo (z.drop i)=Y (.call,[],z.drop i):=by
   by_cases c:i<z.length
   .rw [jQ c];unfold eo;dsimp only;rw [h]
   .rw [jk (by lia)];rfl
  rw [s]at e;intro U k a u x;exists U,k,.call,[],?_,M,λal y=>⟨S,?_⟩
  .rw [Oe,iF];rfl
  .obtain⟨B,C,l,g,ct,G,w⟩:=tL (f:=.call) (t:=[]) a u x y;rw [<-C];exact e B i U al dX S (a1.ext l) ⟨l.but,a,g,(by intro D;rw [D,a3]at a;cases a),(by intro D;rw [D,a3]at g;cases g),⟨k,G⟩,w⟩
 |some fm=>
  refine b1 ?_;have c:i<z.length:=by refine p6 λD=>?_;rw [kI D,show ee ([]:aj)=O by decide]at h;cases h
  have em:=ik c;exists _,S,j,cs,_,S,a3,gu (.inr (.inr (.inl S))),_,S,j,ap,as,a0,z,i,wordAt z i,S,a1,λeq a4 n=>?_;rw [ai S];rw [em]at a4;let⟨⟨es,bm⟩,g3,ev,hd,he⟩:=id a4;exists _,S,pi,_,S,.inr (db eq),S,S,_,S,?_;rw [ai S,Od h];have bn:=jQ c
  cases bs:isBinder fm with
  |false=>
   refine cf ?_;have s:eo (z.drop i)=Y (fm,[],z.drop (i+1)):=by rw [bn];unfold eo;dsimp only;rw [h];dsimp only;rw [bs];rfl
   rw [s]at e;exists _,S,λU k a u x=>?_;exists U,k,fm,[],?_,M,λal y=>⟨S,?_⟩
   .rw [(xQ h).1,iF];rfl
   .obtain⟨B,C,l,g,ct,G,w⟩:=tL (f:=fm) (t:=[]) a u x y;rw [<-C];have R:U≠j:=by intro D;rw [D,bm]at a;cases a
    have X:al≠j:=by intro D;rw [D,bm]at g;cases g
    exact e B (i+1) U al ev S (a4.ext l) ⟨n.trans l.but,n.none a R,n.none g X,R,X,⟨k,G⟩,w⟩
  |true=>
   refine b1 ?_;exists _,S,j,es,_,S,bm,gu (.inr (.inr (.inl S))),j,ap,as,a0,z,i+1,[32],?_,a4,λex bt a5=>?_
   .rw [<-xR];rfl
   by_cases am:wordAt z (i+1)=[32]
   .rw [ai am];have bd:i+1<z.length:=by
     refine p6 λD=>?_;rw [kI D]at am;cases am
    have fa:=ik bd;rw [fa]at bt;let⟨⟨fd,fl⟩,hf,hi,hm,hz⟩:=id bt;exists _,S,j,fd,_,S,fl,gu (.inr (.inl S)),j,ap,as,a0,z,i+2,S,bt,λc0 bv ca=>?_;let⟨fn,h0⟩:=co.word (i+2);let⟨⟨h1,c1⟩,h2,c2,ii,fr⟩:=id bv;have fs:z.drop i=wordAt z i::[32]::z.drop (i+2):=by rw [bn,jQ bd,am]
    have cd:eo (z.drop i)=(match z.drop (i+2)with
      |U::c3=>if U=du\/h4 U=ao then O else Y (fm,U,c3)
      |[]=>O):=by
     rw [fs];unfold eo;dsimp only;rw [h];dsimp only;rw [ai bs];cases z.drop (i+2)with
     |nil=>rfl
     |cons U be=>dsimp only;rw [ai S]
    exists _,S,S,_,S,?_;have fT:decide (V.str (bB (wordAt z (i+2)))=V.str (dO "in"))=decide (wordAt z (i+2)=du):=by rw [hb,DA];exact⟨λD=>by injection D with D;exact kF.mp D,λD=>by rw [D]⟩
    rw [fT];refine ec (λo=>?_) (λo=>?_)
    .have o:=d6 o;refine cf ?_;have ab:eo (z.drop i)=O:=by
      rw [cd];cases b:z.drop (i+2)with
      |nil=>rfl
      |cons U be=>
       have an:=p6 λD=>by rw [jk D]at b;cases b
       rw [jQ an]at b;injection b with ad _;dsimp only;rw [ai (.inl (ad▸o))]
     rw [ab]at e;exact e c0 ((n.trans a5).trans ca)
    .have o:¬wordAt z (i+2)=du:=λD=>o (cq D);exists _,S,wordAt z (i+2),S,fn,xE fr _,_,S,?_;cases bi:h4 (wordAt z (i+2))with
     |false=>
      refine cf ?_;have ab:eo (z.drop i)=O:=by
       rw [cd];cases b:z.drop (i+2)with
       |nil=>rfl
       |cons U be=>
        have an:=p6 λD=>by rw [jk D]at b;cases b
        rw [jQ an]at b;injection b with ad _;dsimp only;rw [ai (.inr (ad▸bi))]
      rw [ab]at e;exact e c0 ((n.trans a5).trans ca)
     |true=>
      refine b1 ?_;have an:i+2<z.length:=by refine p6 λD=>?_;rw [kI D]at bi;exact absurd bi (by decide)
      have f0:=ik an;rw [f0]at bv c2;have s:eo (z.drop i)=Y (fm,wordAt z (i+2),z.drop (i+3)):=by rw [cd,jQ an];dsimp only;rw [N (λD=>D.elim o λD=>by rw [bi]at D;cases D)]
      rw [s]at e;exists _,S,_,S,λU k a u x=>?_;exists U,k,fm,wordAt z (i+2),?_,M,λal y=>⟨S,?_⟩
      .rw [(xQ h).1];rfl
      .obtain⟨B,C,l,g,ct,G,w⟩:=tL (f:=fm) (t:=wordAt z (i+2)) a u x y;rw [<-C];have ce:=(n.trans a5).trans ca
       have R:U≠j:=by intro D;rw [D,c1]at a;cases a
       have X:al≠j:=by intro D;rw [D,c1]at g;cases g
       exact e B (i+3) U al c2 S (bv.ext l) ⟨ce.trans l.but,ce.none a R,ce.none g X,R,X,⟨k,G⟩,w⟩
   .rw [N am];have ab:eo (z.drop i)=O:=by
     rw [bn];unfold eo;dsimp only;rw [h];dsimp only;rw [ai bs];cases b:z.drop (i+1)with
     |nil=>rfl
     |cons im be=>
      have bd:=p6 λD=>by rw [jk D]at b;cases b
      rw [jQ bd]at b;injection b with ad _;cases be with
      |nil=>rfl
      |cons U c3=>dsimp only;rw [N (ad▸am)]
    rw [ab]at e;exact e ex (n.trans a5)
inductive DB (z A D:Z) (M:List V) (H:U) (N:VK) (S:XK):Prop
 |mk(a lw ln b ws i:_)(_:M=[.ref a])(_:hL z H a lw ln b ws i)(_:nh ws)(_:ni z A D H N S a lw ln b ws (head (ws.drop i)))
def Og(z:List aj)(i:Nat):head (z.drop i)=if wordAt z i=[40]then eo (z.drop (i+1))else if isNum (wordAt z i)=I then Y (.num,wordAt z i,z.drop (i+1))else if wordAt z i=du then Y (.given,[],z.drop (i+1))else if h4 (wordAt z i)=I then Y (.used,wordAt z i,z.drop (i+1))else O:=by
 by_cases c:i<z.length
 .rw [jQ c];rfl
 .rw [jk (by lia),kI (by lia)];rfl
def xS(A D:aj):decide (V.str (bB A)=V.str (bB D))=decide (A=D):=by rw [hb];exact⟨λz=>by injection z with z;exact kF.mp z,λz=>by rw [z]⟩
def Oh:(dO "(")=bB [40]:=by decide+kernel
variable{IR:VK}{BT:Z}
theorem ni.from{H:U}{c:XK}(A:bN d H r):∀{o:Option (Fm×aj×List aj)},ni q Q pi H IR c d s2 v4 BT wn o->ni q Q pi r IR c d s2 v4 BT wn o
 |none,k=>λM h=>k M (A.trans h)
 |some (D,x,N),k=>λM i j l m n p z=>k M i j l m n p ⟨A.trans z.but,A.none z.xN z.pf,A.none z.xO z.Dy,z.pf,z.Dy,z.nd,z.lp⟩
variable{Wl:dD}
def Oi{o:Z}(a3:a9 K "read_head" "Reading.read_head" Dv Q o0)(c1:kH K q)(a4:L "NoProgram"=Y (.ref o))(a5:gP K o fU "Exception.__new__"=I) (bk:L "NUMBER"=Y (.str "a number" wS)) (ad:L "GIVEN"=Y (.str "in" UF)) (bl:L "USED_NAME"=Y (.str "a name" Wl))(bm:h_ 2 q "take" ["self"] (tI q)) (bn:r_ 4 q "read_bracketed_head" ["self"] (Dz q d o))(v:iu m p K L P aE 1 "Node" d ["self","form","word"] (xM d)) (bs:g_ 1 "is_name" ["word"] xA) (bt:g_ 1 "is_number" ["word"] C3):k_ 5 Q o0 ["self"] (DB q d o):=by
 refine a3.ew ["self","word"] λc3 c5 c6 c7 H c8 al bv X ca cd _ _=>?_;let⟨n,x,y,B,U,i,rfl,am,an,D⟩:=ca;have ap:=X.mo 1
 have ab:=X.mo 2;exists _,ar (bj 1 cd (dR (E:=E0) (T 0) bm ab cx)) (ar (bK (bS cT (T 1) dP (bV _)) (ay (aQ (dR (T 0) bn X dw))) bQ) (ar (bK (kn (bI bt ap (aJ 1))) (ay (aQ (iv (E:=E0) v ab cx (A (hl bk) (aJ 1))))) bQ) (ar (bK (bS cT (T 1) (hl ad) (bV _)) (ay (aQ (iv (E:=E0) v ab cx (A (hl ad) (A dP aC))))) bQ) (ar (bK (kn (bI bs ap (aJ 1))) (ay (aQ (iv (E:=E0) v ab cx (A (hl bl) (aJ 1))))) bQ) (ay (jH j8 (by decide) a5 S a4 X.hd)))))),?_;let⟨⟨ce,ch⟩,c9,db,dd,ci⟩:=id am;let⟨as,dl⟩:=an.word i;exists _,S,n,ce,_,S,ch,gu (.inr (.inl S)),n,x,y,B,U,i,S,am,λj C cl=>?_;have D:=ni.from cl D
 rw [Og]at D;let⟨⟨cn,G⟩,dp,co,ds,dx⟩:=id C;have a0:=xE ci i
 have a1:U.drop (jw (i+1) U.length)=U.drop (i+1):=by
  by_cases c:i<U.length
  .rw [ik c]
  .rw [n0 (by lia),jk (aR _),jk (by lia)]
 have g:∀{r:Fm} {a:aj},ni q d o j al bv n x y B U (Y (r,a,U.drop (i+1)))->∀w z,j w=O->j z=O->z≠w->∀b,upd (upd j z (.own w)) w (.ins d z []) b=O->al (.ref w) (upd (upd (upd (upd j z (.own w)) w (.ins d z [])) b (.lst [])) w (.ins d z (eV r a O b 0 0))):=by intro r a D w z e k l b h;let⟨cr,cs,a2,R,dK,ct,c0⟩:=tL (f:=r) (t:=a) e k l h;rw [<-cs];exact D cr _ w b co a1 (C.ext a2) ⟨a2.but,e,R,(by intro V;rw [V,G]at e;cases e),(by intro V;rw [V,G]at R;cases R),⟨z,ct⟩,c0⟩
 exists _,S,S,_,S,?_;rw [Oh,xS];by_cases s:wordAt U i=[40]
 .rw [ai s]at D;rw [cq s];refine cf ⟨_,S,n,cn,_,S,G,gu (.inr (.inr (.inr (.inr (.inr (.inl S)))))),n,x,y,B,U,_,S,C,an,?_⟩;rwa [a1]
 rw [N s]at D;rw [bU s];refine b1 ⟨_,S,wordAt U i,S,as,a0,_,S,?_⟩;cases c2:isNum (wordAt U i)with
 |true=>
  rw [ai c2]at D;exact cf ⟨_,S,λa z e k l=>⟨a,z,.num,wordAt U i,S,M,λb h=>⟨S,g D a z e k l b h⟩⟩⟩
 |false=>
 rw [N (by rw [c2];decide)]at D;refine b1 ⟨_,S,S,_,S,?_⟩;rw [DA,xS];by_cases u:wordAt U i=du
 .rw [ai u]at D;rw [cq u];refine cf (λa z e k l=>⟨a,z,.given,[],?_,M,λb h=>⟨S,g D a z e k l b h⟩⟩);rw [iF];rfl
 rw [N u]at D;rw [bU u];refine b1 ⟨_,S,wordAt U i,S,as,a0,_,S,?_⟩;cases c4:h4 (wordAt U i)with
 |true=>
  rw [ai c4]at D;exact cf ⟨_,S,λa z e k l=>⟨a,z,.used,wordAt U i,S,M,λb h=>⟨S,g D a z e k l b h⟩⟩⟩
 |false=>
  rw [N (by rw [c4];decide)]at D;exact b1 (D j (bN.refl n j))
abbrev DC:a7:=inClass (top 21) 4
abbrev DD:a7:=inClass (top 21) 7
structure NR where
 a:Z
 lp:Z
 i:Info
 sp:Nat×Nat
def gL(D:Z)(A:Nat)(H:U)(z:NR):Prop:=(∃G,H z.a=Y (.ins D G (eV z.i.aK z.i.word z.i.parent z.lp ((A:Int)-z.sp.1) ((A:Int)-z.sp.2))))/\H z.lp=Y (.lst (z.i.parts.map λM=>V.int (M:Nat)))
structure eB(S T:Z)(D H:U)(a N G M:Z)(ws:List aj)(i:Nat)(rs:List NR)(A:List Nat):Prop where
 rd:hL S H a N G M ws i
 nodes:H G=Y (.lst (rs.map λz=>V.ref z.a))
 around:H M=Y (.lst (A.reverse.map λx=>V.int (x:Nat)))
 nd:∀z∈rs,gL T (fl ws) H z
 nj:(rs.map (·.lp)).Nodup
 nk:(rs.map (·.a)).Nodup
 h8:∀z∈rs,z.lp≠M/\z.lp≠G/\z.lp≠N/\z.a≠a
 lR:G≠M
 lS:N≠M/\N≠G
 ext:Ext D H
 fresh:D a=O/\D G=O/\D M=O/\D N=O/\∀z∈rs,D z.a=O/\D z.lp=O
 bL:rs.length<=30/\A.length<=9/\(∀p∈A,p<rs.length)/\∀z∈rs,z.i.parts.length<=30
variable{FS:List (aa×V)}
theorem gw{H:U}{y:Z}(N:H d=Y (.ins q Q FS))(S:H y=Y (.lst t3)):d≠y:=cW N S (by intro T;cases T)
section
variable {C CN:Z} {H0 H H1:U} {a lw ln la:Z} {ws:List aj} {i j:Nat} {rs:List NR} {A:List Nat}
def eB.but(z:eB C CN H0 H a lw ln la ws i rs A)(D:bN a H H1)(U:hL C H1 a lw ln la ws j):eB C CN H0 H1 a lw ln la ws j rs A:=by let⟨⟨f,G⟩,g,h⟩:=z.rd;exists U,D _ _ z.nodes (gw G z.nodes).symm,D _ _ z.around (gw G z.around).symm,λN S=>?_,z.nj,z.nk,z.h8,z.lR,z.lS,λc o M=>D c o (z.ext c o M) (by intro b;rw [b,z.fresh.1]at M;cases M),z.fresh,z.bL;let⟨⟨d,e⟩,T⟩:=z.nd N S;exists ⟨d,D _ _ e (z.h8 N S).2.2.2⟩,D _ _ T (gw G T).symm
def eB.new(z:eB C CN H0 H a lw ln la ws i rs A){D:Z}{o:HO}(N:H0 D=O)(S:D≠a)(T:D≠ln)(U:D≠la)(b:D≠lw)(c:∀G∈rs,D≠G.a/\D≠G.lp):eB C CN H0 (upd H D o) a lw ln la ws i rs A:=by let⟨⟨d,e⟩,f,g⟩:=z.rd;exists ⟨⟨d,ah S.symm▸e⟩,ah b.symm▸f,g⟩,ah T.symm▸z.nodes,ah U.symm▸z.around,λG M=>?_,z.nj,z.nk,z.h8,z.lR,z.lS,z.ext.upd N,z.fresh,z.bL;let⟨⟨h,k⟩,l⟩:=z.nd G M;let⟨m,n⟩:=c G M;exists ⟨h,ah m.symm▸k⟩,ah n.symm▸l
end
variable{GT:List NR}
def ph{G:NR->NR}{z:NR}(S:z∈GT.modify B G):∃y∈GT,z=y\/z=G y:=by
 let⟨U,M⟩:=hR.mp S;rw [vm]at M;let⟨y,T,D⟩:=cv.mp M;exists y,cG T,?_;split at D
 .exact .inr D.symm
 .exact .inl D.symm
theorem kL{c:Type}(z:sB->c)(G:sB->sB)(T:∀D,z (G D)=z D):∀(U:List sB) (M:Nat),(U.modify M G).map z=U.map z
 |[],M=>by simp
 |D::b,0=>by show z (G D)::_=_;rw [T];rfl
 |D::b,M+1=>by show z D::(b.modify M G).map z=_;rw [kL z G T b M];rfl
theorem xT(z:sB->At)(M:sB->sB)(T:At->At)(c:∀D,z (M D)=T (z D)):∀(d:List sB) (G:Nat),(d.modify G M).map z=(d.map z).modify G T
 |[],G=>by simp
 |D::b,0=>by show z (M D)::_=T (z D)::_;rw [c]
 |D::b,G+1=>by show z D::(b.modify G M).map z=z D::_;rw [xT z M T c b G];rfl
section
variable {C CN:Z} {H0 H H1:U} {a lw ln la:Z} {ws:List aj} {i j:Nat} {rs:List NR} {A:List Nat}
def addPart(D:Nat)(z:NR):NR:={z with i:={z.i with parts:=z.i.parts++[D]}}
end
def jl(q:Nat)(z:NR):NR:={z with sp:=(z.sp.1,q)}
section
variable {C CN:Z} {H0 H H1:U} {a lw ln la:Z} {ws:List aj} {i j:Nat} {rs:List NR} {A:List Nat}
def eB.attach(z:eB C CN H0 H a lw ln la ws i rs A){b n:Nat}{G:NR}(f:rs[b]?=Y G)(q:G.i.parts.length<30):eB C CN H0 (upd H G.lp (.lst (G.i.parts.map (λy=>V.int (y:Nat))++[V.int (n:Nat)]))) a lw ln la ws i (rs.modify b (addPart n)) A:=by
 let⟨⟨r,m⟩,s,g⟩:=z.rd;have h:=cG f
 let⟨t,u,v,X⟩:=z.h8 G h;have w:=(gw m (z.nd G h).2).symm
 have x:(rs.modify b (addPart n)).map (·.lp)=rs.map (·.lp):=kL (·.lp) (addPart n) (λ_=>S) _ _;have B:(rs.modify b (addPart n)).map (·.a)=rs.map (·.a):=kL (·.a) (addPart n) (λ_=>S) _ _
 have E:(rs.modify b (addPart n)).map (λz=>V.ref z.a)=rs.map λz=>V.ref z.a:=kL (λz:NR=>V.ref z.a) (addPart n) (λ_=>S) _ _;exists ⟨⟨r,by rw [ah w.symm];exact m⟩,by rw [ah v.symm];exact s,g⟩,by rw [ah u.symm,E];exact z.nodes,by rw [ah t.symm];exact z.around,λy d=>?_,by rw [x];exact z.nj,by rw [B];exact z.nk,λy d=>?_,z.lR,z.lS,z.ext.upd (z.fresh.2.2.2.2 G h).2,⟨z.fresh.1,z.fresh.2.1,z.fresh.2.2.1,z.fresh.2.2.2.1,λy d=>?_⟩,by rw [rX];exact z.bL.1,z.bL.2.1,by rw [rX];exact z.bL.2.2.1,λy d=>?_
 .obtain⟨k,e⟩:=hR.mp d;rw [vm]at e;let⟨T,U,D⟩:=cv.mp e;have F:=cG U
  let⟨⟨o,l⟩,K⟩:=z.nd T F;have p:T.a≠G.lp:=gw l (z.nd G h).2
  by_cases c:b=k
  .rw [ai c]at D;subst c;rw [f]at U;obtain rfl:=aS U;subst D;exists ⟨o,?_⟩,?_
   .show upd H G.lp _ G.a=_;rw [ah p];exact l
   .show upd H G.lp _ G.lp=_;rw [M];show _=Y (HO.lst ((G.i.parts++[n]).map _))
    rw [aT];rfl
  .rw [N c]at D;have D:T=y:=D
   subst D;have L:T.lp≠G.lp:=by
    intro P;have Q:=z.nj
    have g:(rs.map (·.lp))[b]?=Y G.lp:=by rw [bh,f];rfl
    have R:(rs.map (·.lp))[k]?=Y G.lp:=by rw [bh,U];show Y T.lp=_;rw [P]
    have W:=(cF.mp g).1;exact c ((Hi W Q).mp (g.trans R.symm))
   exact⟨⟨o,by rw [ah p];exact l⟩,by rw [ah L];exact K⟩
 .obtain⟨T,U,D|D⟩:=ph d
  .rw [D];exact z.h8 T U
  .rw [D];exact z.h8 T U
 .obtain⟨T,U,D|D⟩:=ph d
  .rw [D];exact z.fresh.2.2.2.2 T U
  .rw [D];exact z.fresh.2.2.2.2 T U
 .obtain⟨k,e⟩:=hR.mp d;rw [vm]at e;let⟨T,U,D⟩:=cv.mp e;by_cases c:b=k
  .rw [ai c]at D;subst c;rw [f]at U;obtain rfl:=aS U;rw [<-D];show(G.i.parts++[n]).length<=30
   rw [br];exact q
  .rw [N c]at D;have D:T=y:=D
   rw [<-D];exact z.bL.2.2.2 T (cG U)
def eB.push(D:eB C CN H0 H a lw ln la ws i rs A){x:NR}(g:gL CN (fl ws) H x)(q:H0 x.a=O/\H0 x.lp=O)(h:x.lp≠la/\x.lp≠ln/\x.lp≠lw/\x.a≠a)(d:∀y∈rs,x.a≠y.a/\x.lp≠y.lp)(k:rs.length<30)(e:x.i.parts.length<=30):eB C CN H0 (upd H ln (.lst (rs.map (λD=>V.ref D.a)++[V.ref x.a]))) a lw ln la ws i (rs++[x]) A:=by
 let⟨⟨l,f⟩,m,n⟩:=D.rd;have o:=gw f D.nodes
 exists ⟨⟨l,ah o▸f⟩,ah D.lS.2▸m,n⟩,by rw [M,aT];rfl,ah D.lR.symm▸D.around,λy z=>?_,?_,?_,λy z=>?_,D.lR,D.lS,D.ext.upd D.fresh.2.1,⟨D.fresh.1,D.fresh.2.1,D.fresh.2.2.1,D.fresh.2.2.2.1,λy z=>?_⟩,br▸k,D.bL.2.1,λp e=>?_,λy z=>?_
 .rcases bR.mp z with z|z
  .obtain⟨⟨T,G⟩,U⟩:=D.nd y z;exists ⟨T,ah (gw G D.nodes)▸G⟩,ah (D.h8 y z).2.1▸U
  .rw [bb.mp z];let⟨⟨T,G⟩,U⟩:=g;exists ⟨T,ah (gw G D.nodes)▸G⟩,ah h.2.1▸U
 .rw [aT];refine gC.mpr ⟨D.nj,by simp,λu b v c N=>?_⟩;let⟨y,z,rfl⟩:=bH.mp b;rw [bb.mp c]at N;exact(d y z).2 N.symm
 .rw [aT];refine gC.mpr ⟨D.nk,by simp,λu b v c N=>?_⟩;let⟨y,z,rfl⟩:=bH.mp b;rw [bb.mp c]at N;exact(d y z).1 N.symm
 .rcases bR.mp z with z|z
  .exact D.h8 y z
  .rwa [bb.mp z]
 .rcases bR.mp z with z|z
  .exact D.fresh.2.2.2.2 y z
  .rwa [bb.mp z]
 .have:=D.bL.2.2.1 p e;rw [br]
  lia
 .rcases bR.mp z with z|z
  .exact D.bL.2.2.2 y z
  .rwa [bb.mp z]
def eB.xU(z:eB C CN H0 H a lw ln la ws i rs A){A':List Nat}(S:A'.length<=9)(T:∀U∈A',U<rs.length):eB C CN H0 (upd H la (.lst (A'.reverse.map λb=>V.int (b:Nat)))) a lw ln la ws i rs A':=by
 let⟨⟨c,D⟩,d,e⟩:=z.rd;have f:=gw D z.around
 exists ⟨⟨c,ah f▸D⟩,ah z.lS.1▸d,e⟩,ah z.lR▸z.nodes,M,λy G=>?_,z.nj,z.nk,z.h8,z.lR,z.lS,z.ext.upd z.fresh.2.2.1,z.fresh,z.bL.1,S,T,z.bL.2.2.2;let⟨⟨g,N⟩,h⟩:=z.nd y G;exists ⟨g,ah (gw N z.around)▸N⟩,ah (z.h8 y G).1▸h
def eB.jl(z:eB C CN H0 H a lw ln la ws i rs A){b q:Nat}{G:NR}(g:rs[b]?=Y G){h:Z}{r:List (aa×V)}(e:H G.a=Y (.ins CN h r)):eB C CN H0 (upd H G.a (.ins CN h (eV G.i.aK G.i.word G.i.parent G.lp ((fl ws:Int)-G.sp.1) ((fl ws:Int)-q)))) a lw ln la ws i (rs.modify b (Cf.jl q)) A:=by
 let⟨⟨s,t⟩,l,f⟩:=z.rd;have m:=cG g
 let⟨P,Q,R,u⟩:=z.h8 G m;have v:(rs.modify b (Cf.jl q)).map (·.lp)=rs.map (·.lp):=kL (·.lp) (Cf.jl q) (λ_=>S) _ _
 have w:(rs.modify b (Cf.jl q)).map (·.a)=rs.map (·.a):=kL (·.a) (Cf.jl q) (λ_=>S) _ _;have x:(rs.modify b (Cf.jl q)).map (λz=>V.ref z.a)=rs.map λz=>V.ref z.a:=kL (λz:NR=>V.ref z.a) (Cf.jl q) (λ_=>S) _ _
 exists ⟨⟨s,ah u.symm▸t⟩,ah (gw e l).symm▸l,f⟩,by rw [ah (gw e z.nodes).symm,x];exact z.nodes,ah (gw e z.around).symm▸z.around,λy d=>?_,v▸z.nj,w▸z.nk,λy d=>?_,z.lR,z.lS,z.ext.upd (z.fresh.2.2.2.2 G m).1,⟨z.fresh.1,z.fresh.2.1,z.fresh.2.2.1,z.fresh.2.2.2.1,λy d=>?_⟩,by rw [rX];exact z.bL.1,z.bL.2.1,by rw [rX];exact z.bL.2.2.1,λy d=>?_
 .obtain⟨n,o⟩:=hR.mp d;rw [vm]at o;let⟨U,T,D⟩:=cv.mp o;let⟨⟨B,E⟩,k⟩:=z.nd U (cG T);have p:=(gw e k).symm
  by_cases c:b=n
  .rw [ai c]at D;subst c;rw [g]at T;obtain rfl:=aS T;subst D;exists ⟨h,M⟩,(ah p).trans k
  .rw [N c]at D;have D:=D
   subst D;have F:U.a≠G.a:=by
    intro K;have f:(rs.map (·.a))[b]?=Y G.a:=by rw [bh,g];rfl
    have L:(rs.map (·.a))[n]?=Y G.a:=by rw [bh,T];show Y U.a=_;rw [K]
    exact c ((Hi ((cF.mp f).1) z.nk).mp (f.trans L.symm))
   exact⟨⟨B,by rw [ah F];exact E⟩,by rw [ah p];exact k⟩
 .obtain⟨U,T,D|D⟩:=ph d
  .rw [D];exact z.h8 U T
  .rw [D];exact z.h8 U T
 .obtain⟨U,T,D|D⟩:=ph d
  .rw [D];exact z.fresh.2.2.2.2 U T
  .rw [D];exact z.fresh.2.2.2.2 U T
 .obtain⟨U,T,D|D⟩:=ph d
  .rw [D];exact z.bL.2.2.2 U T
  .rw [D];exact z.bL.2.2.2 U T
end
def xV(z:List aj)(i:Nat):((jP z i:Nat):Int)=(fl z:Int)-(fl (z.drop i):Int):=by
 have:fl z=fl (z.take i)+fl (z.drop i):=by rw [<-kD,vk]
 unfold jP
 lia
def Oj(M:List aj)(i:Nat)(A:List NR)(D:List Nat):fI ⟨M.drop i,A.map (·.i),D,A.map (·.sp)⟩=if A.length=30\/8<D.length then O else(head (M.drop i)).map λG=>(⟨G.2.2,attach (A.map (·.i)) D A.length++[⟨G.1,G.2.1,D.head?,[]⟩],if en G.1=I then D else A.length::D,A.map (·.sp)++[(fl (M.drop i),fl G.2.2)]⟩:RX):=by
 unfold fI begin_ RX.rs;dsimp only;rw [z];by_cases c:A.length=30\/8<D.length
 .rw [ai c,ai c];rfl
 .rw [N c,N c];cases head (M.drop i)with
  |none=>rfl
  |some G=>rfl
def DE(z:Fm):(cU gK (.inr (cO z))).isSome= !en z:=by cases z<;>decide+kernel
def rh(S T b:Z)(D:U)(c:VK)(d:XK)(e f g h:Z)(M:List aj):Option RX->Prop
 |none=>∀z,Ext D z->d (.ref b) O z
 |some a=>∀z N A,eB S T D z e f g h M N A a.around->a.ws=M.drop N->a.nodes=A.map (·.i)->a.sp=A.map (·.sp)->c .bw z
inductive xX (z D M:Z) (N:List V) (H:U) (S:VK) (T:XK):Prop
 |mk(a lw ln b ws i c rs A:_)(_:N=[.ref a])(_:eB z D c H a lw ln b ws i rs A)(_:nh ws)(_:(∀p d,A=p::d->∀y,rs[p]?=Y y->y.i.parts.length<30))(_:rh z D M c S T a lw ln b ws (fI ⟨ws.drop i,rs.map (·.i),A,rs.map (·.sp)⟩))
def Ol(fd:a9 K "begin_node" "Reading.begin_node" DC s2 o0)(k:kH K q)(B:pe K d)(fm:L "NoProgram"=Y (.ref pi))(fn:gP K pi fU "Exception.__new__"=I)(fr:L "PARTS"=Y (.ref Q)) (dp:KD K m p Q gK) (cl:L "len"=O)  (f0:L "MOST_NODES"=Y (.int 30 wS)) (f1:L "MOST_AROUND"=Y (.int 8 UF))(f2:r_ 5 q "read_head" ["self"] (DB q d pi)):k_ 6 s2 o0 ["self"] (xX q d pi):=by
 refine fd.ew ["self","begin","node","label"] λis it ix jp H kk kp ks ds f4 cn _ sz=>?_;let⟨t,co,s,an,D,i,bi,b,ab,rfl,g,f8,ga,E⟩:=f4;exists _,ar (bK (PW.pt (vw (bS cT (cR el (by rfl) cl dE (A (aF 0) aC)) (b7 f0) (bV _)) (vu (bS vI (cR el (by rfl) cl dE (A (aF 0) aC)) (b7 f1) (bV _))))) (ay (jH j8 (by decide) fn S fm ds.hd)) bQ) (ar (bj 1 cn (aF 0)) (ar (bj 2 cn (dR (T 0) f2 ds dw)) (ar (dQ (T 2) (T 1) S) (ar (dQ (T 2) (aF 0) S) (ar (bj 3 cn (cR el (by rfl) cl dE (A (aF 0) aC))) (ar (bK (sg (aF 0) (λ_=>S)) (ar (dQ (T 2) (cc dk (aF 0) (vD vG cL) (λ_ _=>S)) S) (ay (cM (fe fu f9 gF fQ (fP (cc dk (aF 0) (aF 2) (λ_ _=>S)) S) (aJ 3))))) bQ) (ar (cM (fe fu f9 gF fQ (aF 0) (aJ 2))) (ay (bK (i0 (wC (aF 2) (ek (v:=.ref Q) S fr S)) S) (ay (cM (fe fu f9 gF fQ (aF 0) (aJ 3)))) bQ))))))))),?_;let⟨⟨bk,bl⟩,ge,kt,kw,kP⟩:=g.rd;rw [Oj]at E;exists _,S,t,q,bk,_,_,S,bl,k.cl,k.nodes,mZ,s,_,S,.inl (av.of g.nodes),S,_,S,?_;rw [z];by_cases dx:b.length=30
 .rw [ai (.inl dx)]at E;rw [dx];exact cf (cf (E H g.ext))
 have cr:decide (V.int ((b.length:Nat):Int)=V.int 30)=ao:=bU λa0=>by injection a0 with a0;lia
 rw [cr];refine b1 ⟨_,S,t,q,bk,_,_,S,bl,k.cl,k.around,lO,an,_,S,.inl (av.of g.around),_,_,S,S,_,S,?_⟩;rw [z,TU];by_cases dK:8<ab.length
 .rw [ai (.inr dK)]at E;rw [cq (by lia)];exact cf (E H g.ext)
 rw [bU (by lia)];rw [N (by lia)]at E;refine b1 ⟨_,S,t,q,bk,_,_,S,bl,k.cl,k.taken,xD,_,S,t,bk,_,S,bl,gu (.inr (.inr (.inr (.inr (.inl S))))),t,co,s,an,D,i,S,g.rd,f8,?_⟩;cases dL:head (D.drop i)with
 |none=>
  rw [dL]at E;exactλgl a1=>E gl λc o u=>a1 c o (g.ext c o u) (by intro a0;rw [a0,g.fresh.1]at u;cases u)
 |some go=>
 let⟨w,e,kV⟩:=go;rw [dL]at E;intro a2 j G f k0 ad dT h;have gt:=g.but h.but dT
 let⟨be,dX⟩:=h.nd;let⟨⟨g1,g2⟩,k1,k2,k3,k5⟩:=id dT;have a3:∀{a1:Z} {o:HO},H a1=Y o->G≠a1/\f≠a1:=λu=>⟨λa0=>(by rw [<-a0,h.xN]at u;cases u),λa0=>(by rw [<-a0,h.xO]at u;cases u)⟩
 have a4:=a3 g.nodes;have cs:=a3 g.around
 have ct:=a3 ge;have al:∀y∈b,(G≠y.a/\f≠y.a)/\G≠y.lp/\f≠y.lp:=λy r=>by let⟨⟨d0,c0⟩,bm⟩:=g.nd y r;exists a3 c0,a3 bm
 have c1:bi G=O/\bi f=O:=⟨g.ext.none h.xN,g.ext.none h.xO⟩
 have d1:=gw dX h.lp;exists _,S,_,S,G,d,be,_,S,dX,B.cl,B.begin_,(by show 6<1000;decide),?_;exists _,S,t,q,g1,_,_,S,by rw [ah h.pf.symm];exact g2,k.cl,k.taken,xD,_,S,G,d,be,_,S,M,B.cl,B.end_,(by show 6<1000;decide),?_;rw [gS];have am:=gt.new (o:=.ins d be (eV w e O f ((fl D:Int)-(fl (D.drop i):Int)) ((fl D:Int)-(fl (D.drop j):Int)))) c1.1 h.pf a4.1 cs.1 ct.1 λy r=>⟨(al y r).1.1,(al y r).2.1⟩
 have em:upd a2 G (.ins d be (aO "end" (.int (jP D j)) (aO "begin" (.int (jP D i)) (eV w e O f 0 0))))=upd a2 G (.ins d be (eV w e O f ((fl D:Int)-(fl (D.drop i):Int)) ((fl D:Int)-(fl (D.drop j):Int)))):=by rw [<-xV,<-xV];rfl
 rw [em];have c2:upd a2 G (.ins d be (eV w e O f ((fl D:Int)-(fl (D.drop i):Int)) ((fl D:Int)-(fl (D.drop j):Int)))) G=Y (.ins d be (eV w e O f ((fl D:Int)-(fl (D.drop i):Int)) ((fl D:Int)-(fl (D.drop j):Int)))):=M
 have eq:upd a2 G (.ins d be (eV w e O f ((fl D:Int)-(fl (D.drop i):Int)) ((fl D:Int)-(fl (D.drop j):Int)))) f=Y (.lst []):=(ah d1.symm).trans h.lp;clear em;generalize upd a2 G (.ins d be (eV w e O f ((fl D:Int)-(fl (D.drop i):Int)) ((fl D:Int)-(fl (D.drop j):Int))))=bn at*;let⟨⟨bs,bt⟩,_⟩:=am.rd;exists _,S,t,q,bs,_,_,S,bt,k.cl,k.nodes,mZ,s,_,S,.inl (av.of am.nodes),?_;exists _,S,t,q,bs,_,_,S,bt,k.cl,k.around,lO,_,.inl ⟨_,av.of am.around,S⟩,?_;have es:∀{ap:U} {X:List NR},eB q d bi ap t co s an D j X ab->X.map (·.i)=attach (b.map (·.i)) ab b.length->X.map (·.sp)=b.map (·.sp)->(∀y∈X,∃a0∈b,y.a=a0.a/\y.lp=a0.lp)->ap G=Y (.ins d be (eV w e ab.head? f ((fl D:Int)-(fl (D.drop i):Int)) ((fl D:Int)-(fl (D.drop j):Int))))->ap f=Y (.lst [])->
   ∃C:eB q d bi (upd ap s (.lst (X.map (λg=>V.ref g.a)++[V.ref G]))) t co s an D j (X++[⟨G,f,⟨w,e,ab.head?,[]⟩,(fl (D.drop i),fl (D.drop j))⟩]) ab,X.length=b.length:=by
  intro ap X as bv a5 g3 ca c3;have cd:X.length=b.length:=by have:=bD cN a5;simpa using this
  exists as.push (x:=⟨G,f,⟨w,e,ab.head?,[]⟩,(fl (D.drop i),fl (D.drop j))⟩) ⟨⟨be,ca⟩,c3⟩ c1 ⟨cs.2,a4.2,ct.2,h.pf⟩ (λy r=>?_) ?_ (cP _),cd
  .obtain⟨a0,ce,cr,hd⟩:=g3 y r;let⟨he,hf⟩:=al a0 ce;rw [cr,hd];exists he.1,hf.2
  .have:=g.bL.1
   lia
 have la:∀{y:NR},y∈b->y.lp≠G:=λr=>(al _ r).2.1.symm;cases ev:ab with
 |nil=>
  subst ev;refine b1 ?_;let⟨C,cd⟩:=es am S rfl (λy r=>⟨y,r,S,S⟩) c2 eq;exists _,S,t,q,bs,_,_,S,bt,k.cl,k.nodes,mZ,.inl ⟨S,_,av.of am.nodes⟩,_,S,s,_,_,S,S,am.nodes,by rw [z];have:=g.bL.1;lia,?_;have c4:upd bn s (.lst (b.map (λg=>V.ref g.a)++[V.ref G])) G=_:=(ah a4.1).trans c2
  let⟨⟨c5,c6⟩,_⟩:=C.rd;exists _,S,G,d,be,_,_,S,c4,B.cl,B.aK,S,Q,_,S,⟨gK,.inr (cO w),dp,S,S⟩,_,S,?_;rw [DE];cases bd:en w with
  |true=>
   refine b1 ?_;refine E _ j (b++[⟨G,f,⟨w,e,([]:List Nat).head?,[]⟩,(fl (D.drop i),fl (D.drop j))⟩]) ?_ ad.symm ?_ ?_
   .dsimp only;rw [ai bd];exact C
   .rw [aT];rfl
   .rw [aT,<-ad];rfl
  |false=>
   refine cf ?_;exists _,S,t,q,c5,_,_,S,c6,k.cl,k.around,lO,.inl ⟨S,_,av.of C.around⟩,_,S,an,_,_,S,S,C.around,(by decide),?_;have c7:=C.xU (A':=[b.length]) (by show 1<=9;decide) (λl hi=>by rw [bb.mp hi,br];simp)
   refine E _ j (b++[⟨G,f,⟨w,e,([]:List Nat).head?,[]⟩,(fl (D.drop i),fl (D.drop j))⟩]) ?_ ad.symm ?_ ?_
   .dsimp only;rw [N (by rw [bd];decide)];have c8:(rT (λe=>V.int ((e:Nat):Int)) ([]:List Nat).reverse++[V.int ((rT (λg:NR=>V.ref g.a) b).length:Int)])=rT (λe=>V.int ((e:Nat):Int)) [b.length].reverse:=by
     rw [z];rfl
    rw [c8];exact c7
   .rw [aT];rfl
   .rw [aT,<-ad];rfl
 |cons l R=>
  subst ev;have hm:l<b.length:=g.bL.2.2.1 l bE
  obtain⟨y,r⟩:∃y,b[l]?=Y y:=⟨_,gd hm⟩
  have ch:=cG r;have ex:((l::R).reverse.map λe=>V.int ((e:Nat):Int))=(R.reverse.map λe=>V.int ((e:Nat):Int))++[V.int ((l:Nat):Int)]:=by rw [zZ,aT];rfl
  have hz:(!((l::R).reverse.map λe=>V.int ((e:Nat):Int)).isEmpty)=I:=by rw [ex];simp
  rw [hz];refine cf ?_;exists _,S,t,q,bs,_,_,S,bt,k.cl,k.around,lO,_,S,an,_,_,_,S,S,av.of am.around,by rw [ex];exact vS _ _,_,S,G,d,be,_,S,c2,B.cl,B.parent,(by show 6<1000;decide),?_;have ci:=am.new (o:=.ins d be (aO "parent" (.int (l:Nat)) (eV w e O f ((fl D:Int)-(fl (D.drop i):Int)) ((fl D:Int)-(fl (D.drop j):Int))))) c1.1 h.pf a4.1 cs.1 ct.1 λy r=>⟨(al y r).1.1,(al y r).2.1⟩
  have fa:upd bn G (.ins d be (aO "parent" (.int (l:Nat)) (eV w e O f ((fl D:Int)-(fl (D.drop i):Int)) ((fl D:Int)-(fl (D.drop j):Int))))) G=Y (.ins d be (eV w e (Y l) f ((fl D:Int)-(fl (D.drop i):Int)) ((fl D:Int)-(fl (D.drop j):Int)))):=M;have h0:upd bn G (.ins d be (aO "parent" (.int (l:Nat)) (eV w e O f ((fl D:Int)-(fl (D.drop i):Int)) ((fl D:Int)-(fl (D.drop j):Int))))) f=Y (.lst []):=(ah d1.symm).trans eq
  generalize upd bn G (.ins d be (aO "parent" (.int (l:Nat)) (eV w e O f ((fl D:Int)-(fl (D.drop i):Int)) ((fl D:Int)-(fl (D.drop j):Int)))))=c9 at*;let⟨⟨h1,h2⟩,_⟩:=ci.rd;let⟨⟨d0,c0⟩,bm⟩:=ci.nd y ch;exists _,S,t,q,h1,_,_,S,h2,k.cl,k.nodes,mZ,_,S,G,d,be,_,_,S,fa,B.cl,B.parent,S,s,_,_,_,S,S,av.of ci.nodes,e1 (by rw [bh,r];rfl),y.a,d,d0,_,_,S,c0,B.cl,B.parts,S,.inl ⟨S,_,av.of bm⟩,_,S,y.lp,_,_,S,S,bm,by rw [z];have:=g.bL.2.2.2 y ch;lia,?_;rw [z];have as:=ci.attach (n:=b.length) r (ga l R S y r)
  have ca:upd c9 y.lp (.lst (y.i.parts.map (λa0=>V.int ((a0:Nat):Int))++[V.int ((b.length:Nat):Int)])) G=_:=(ah (al y ch).2.1).trans fa;have c3:upd c9 y.lp (.lst (y.i.parts.map (λa0=>V.int ((a0:Nat):Int))++[V.int ((b.length:Nat):Int)])) f=_:=(ah (al y ch).2.2).trans h0
  generalize upd c9 y.lp (.lst (y.i.parts.map (λa0=>V.int ((a0:Nat):Int))++[V.int ((b.length:Nat):Int)]))=ap at*;have bv:(b.modify l (addPart b.length)).map (·.i)=attach (b.map (·.i)) (l::R) b.length:=xT (·.i) (addPart b.length) _ (λ_=>S) _ _
  have a5:(b.modify l (addPart b.length)).map (·.sp)=b.map (·.sp):=kL (·.sp) (addPart b.length) (λ_=>S) _ _;let⟨C,cd⟩:=es as bv a5 (λy r=>by
   obtain⟨a0,ce,u|u⟩:=ph r
   .exact⟨a0,ce,by rw [u],by rw [u]⟩
   .exact⟨a0,ce,by rw [u];rfl,by rw [u];rfl⟩) ca c3
  let⟨⟨ii,im⟩,_⟩:=as.rd;exists _,S,t,q,ii,_,_,S,im,k.cl,k.nodes,mZ,.inl ⟨S,_,av.of as.nodes⟩,_,S,s,_,_,S,S,as.nodes,by rw [z];have:=as.bL.1;lia,?_;have c4:upd ap s (.lst ((b.modify l (addPart b.length)).map (λg=>V.ref g.a)++[V.ref G])) G=_:=(ah a4.1).trans ca
  let⟨⟨c5,c6⟩,_⟩:=C.rd;exists _,S,G,d,be,_,_,S,c4,B.cl,B.aK,S,Q,_,S,⟨gK,.inr (cO w),dp,S,S⟩,_,S,?_;rw [DE];cases bd:en w with
  |true=>
   refine b1 ?_;refine E _ j (b.modify l (addPart b.length)++[⟨G,f,⟨w,e,(l::R).head?,[]⟩,(fl (D.drop i),fl (D.drop j))⟩]) ?_ ad.symm ?_ ?_
   .dsimp only;rw [ai bd];exact C
   .rw [aT,bv];rfl
   .rw [aT,a5,<-ad];rfl
  |false=>
   refine cf ?_;exists _,S,t,q,c5,_,_,S,c6,k.cl,k.around,lO,.inl ⟨S,_,av.of C.around⟩,_,S,an,_,_,S,S,C.around,by rw [z,TU];have:=C.bL.2.1;lia,?_;have c7:=C.xU (A':=b.length::l::R) (by simp only [dn]at dK⊢;lia) (λio db=>by
    rw [br];rcases bg.mp db with u|db
    .rw [u];simp [cd]
    .have:=C.bL.2.2.1 io db;rw [br]at this;exact this)
   refine E _ j (b.modify l (addPart b.length)++[⟨G,f,⟨w,e,(l::R).head?,[]⟩,(fl (D.drop i),fl (D.drop j))⟩]) ?_ ad.symm ?_ ?_
   .dsimp only;rw [N (by rw [bd];decide)];have c8:(rT (λe=>V.int ((e:Nat):Int)) (l::R).reverse++[V.int ((b.length:Nat):Int)])=rT (λe=>V.int ((e:Nat):Int)) (b.length::l::R).reverse:=by
     rw [zZ (a:=b.length),aT];rfl
    rw [c8];exact c7
   .rw [aT,bv];rfl
   .rw [aT,a5,<-ad];rfl
structure nq(z:RX):Prop where
 at_:∀p∈z.around,∃i,z.nodes[p]?=Y i/\en i.aK=ao/\i.parts.length<=arity i.aK
 nd:z.around.Nodup
def Om(z:Fm):arity z<=3:=by cases z<;>decide
def DF{z e:RX}(f:fI z=Y e)(U:nq z)(l:∀A b,z.around=A::b->∀i,z.nodes[A]?=Y i->i.parts.length<arity i.aK):nq e:=by
 unfold fI at f;let⟨p,a,rfl⟩:=cv.mp f;unfold begin_ at a;split at a
 .cases a
 .obtain⟨G,q,rfl⟩:=cv.mp a;have g:∀A∈z.around,∃i,(attach z.nodes z.around z.nodes.length++[(⟨G.1,G.2.1,z.around.head?,[]⟩:Info)])[A]?=Y i/\en i.aK=ao/\i.parts.length<=arity i.aK:=by
   intro A D;let⟨i,M,h,m⟩:=U.at_ A D;have n:=(cF.mp M).1
   cases j:z.around with
   |nil=>rw [j]at D;cases D
   |cons d b=>
    show∃i,((z.nodes.modify d λi=>{i with parts:=i.parts++[z.nodes.length]})++_)[A]?=Y i/\_;rw [uC (by rw [rX];exact n),vm,M];by_cases c:d=A
    .subst c;exists {i with parts:=i.parts++[z.nodes.length]},by simp,h,?_;have:=l d b j i M
     rw [br];exact this
    .exact⟨i,by simp [c],h,m⟩
  by_cases T:en G.1=I
  .refine⟨?_,?_⟩
   .rw [ai T];exact g
   .rw [ai T];exact U.nd
  .refine⟨?_,?_⟩
   .rw [N T];intro A D;rcases bg.mp D with rfl|D
    .refine⟨⟨G.1,G.2.1,z.around.head?,[]⟩,?_,by simpa using T,cP _⟩;have k:=oW z.nodes z.around z.nodes.length
     show(attach z.nodes z.around z.nodes.length++[_])[z.nodes.length]?=_;rw [hu (by rw [k];exact aR _),k,kd];rfl
    .exact g A D
   .rw [N T];refine ej.mpr ⟨λo=>?_,U.nd⟩;let⟨i,M,_⟩:=U.at_ _ o;have:=(cF.mp M).1
    exact jY _ this
def Oo{D M:RX}(z:fi D=Y M)(A:nq D):nq M:=by
 let⟨l,b,T,m⟩:=D;cases T with
 |nil=>cases z
 |cons p T=>
  let⟨i,d,n,o⟩:=A.at_ p bE;have U:=d
  unfold fi at z;simp only [U]at z;by_cases c:i.parts.length=arity i.aK
  .rw [ai c]at z;let⟨e,f,rfl⟩:=cv.mp z;exists λa G=>A.at_ a (bC _ G),(ej.mp A.nd).2
  .rw [N c]at z;let⟨e,f,g⟩:=ft.mp z;refine DF g ⟨A.at_,A.nd⟩ λa q G h j=>?_;injection G with k r;subst k;have:b[p]?=Y h:=j
   rw [U]at this;obtain rfl:=aS this
   lia
def DG{i:Nat}(D:sw≠[]):pass sw (wn.drop i)=if wordAt wn i=sw then Y (wn.drop (i+1))else O:=by
 by_cases c:i<wn.length
 .rw [jQ c];rfl
 .rw [jk (by lia),kI (by lia),N D.symm];rfl
def Oq{z:Fm}(A:en z=ao):Y (V.int (arity z))=cU gK (.inr (cO z)):=by cases z<;>first|exact absurd A (by decide)|decide+kernel
def Ot:(dO ")")=bB [41]:=by decide+kernel
def xY(z:List aj)(i:Nat):z.drop (jw (i+1) z.length)=z.drop (i+1):=by
 by_cases c:i<z.length
 .rw [ik c]
 .rw [n0 (by lia),jk (aR _),jk (by lia)]
inductive DH (z D M:Z) (N:List V) (H:U) (S:VK) (T:XK):Prop
 |mk(a lw ln b ws i c rs p A:_)(_:N=[.ref a])(_:eB z D c H a lw ln b ws i rs (p::A))(_:nh ws)(_:nq ⟨ws.drop i,rs.map (·.i),p::A,rs.map (·.sp)⟩)(_:rh z D M c S T a lw ln b ws (fi ⟨ws.drop i,rs.map (·.i),p::A,rs.map (·.sp)⟩))
def Ou(c1:a9 K "read_on" "Reading.read_on" DD v4 o0)(B:kH K d)(G:pe K Q)(c2:L "PARTS"=Y (.ref s2)) (c3:KD K m p s2 gK) (c4:L "len"=O)  (c6:L "CALL"=Y (.str "a call" wS))(bv:r_ 3 d "pass_over" ["self","word"] (xG d pi)) (c7:r_ 6 d "begin_node" ["self"] (xX d Q pi)):k_ 7 v4 o0 ["self"] (DH d Q pi):=by
 refine c1.ew ["self","inner"] λfa fd fm fn H fr ca a5 cd c8 c9 _ sz=>?_;let⟨M,n,W,j,D,i,E,e,f,k,rfl,b,bd,db,l⟩:=c8;have ce:=cd.mo 3
 exists _,ar (bj 1 c9 (cc dk (aF 0) (cc dk (aF 0) (vD vG cL) (λ_ _=>S)) (λ_ _=>S))) (ar (bK (bS cT (cR el (by rfl) c4 dE (A (aF 1) aC)) (wB (ek (v:=.ref s2) S c2 S) (aF 1) (λ_ _=>S)) (bV _)) (ar (cM (eL (T 0) bv ce dw (A dP aC))) (ar (dQ (T 1) (aF 0) S) (ar (cM (JJ fu R9 PySem.F.type_list_pop JQ (aF 0))) (ay Im)))) bQ) (ar (bK (PW.pt (vw (bS qt (aF 1) (hl c6) (bV _)) (vu (sg (aF 1) (λ_=>S))))) (ay (cM (eL (T 0) bv ce dw (A dP aC)))) bQ) (ay (cM (dR (T 0) c7 cd dw))))),?_;let⟨⟨X,ab⟩,fs,fT,f0,f1⟩:=b.rd;have dd:=b.bL.2.2.1 f bE
 obtain⟨y,al⟩:∃y,e[f]?=Y y:=⟨_,gd dd⟩
 have ch:=cG al;let⟨⟨as,a0⟩,ci⟩:=b.nd y ch;have cl:(e.map (·.i))[f]?=Y y.i:=by rw [bh,al];rfl
 let⟨f2,dl,dp,f4⟩:=db.at_ f bE;have cn:=dl
 rw [cl]at cn;obtain rfl:=aS cn;have f8:=Om y.i.aK
 have be:((f::k).reverse.map λg=>V.int ((g:Nat):Int))=(k.reverse.map λg=>V.int ((g:Nat):Int))++[V.int ((f:Nat):Int)]:=by rw [zZ,aT];rfl
 exists _,S,M,d,X,_,_,S,ab,B.cl,B.nodes,mZ,_,S,M,d,X,_,_,S,ab,B.cl,B.around,lO,_,S,j,_,_,_,S,S,av.of b.around,be▸vS _ _,W,_,_,_,S,S,av.of b.nodes,e1 (by rw [bh,al];rfl),?_;exists _,S,y.a,Q,as,_,_,S,a0,G.cl,G.parts,S,y.lp,_,S,.inl (av.of ci),_,S,y.a,Q,as,_,_,S,a0,G.cl,G.aK,S,s2,_,S,⟨gK,.inr (cO y.i.aK),c3,S,Oq dp⟩,S,_,S,?_;rw [z];have ds:fi ⟨D.drop i,e.map (·.i),f::k,e.map (·.sp)⟩=if y.i.parts.length=arity y.i.aK then(pass [41] (D.drop i)).map λb=>(⟨b,e.map (·.i),k,(e.map (·.sp)).modify f λg=>(g.1,fl b)⟩:RX)
  else((if y.i.aK≠.call\/y.i.parts≠[]then pass [32] (D.drop i)else Y (D.drop i))).bind λb=>fI ⟨b,e.map (·.i),f::k,e.map (·.sp)⟩:=by
  unfold fi;simp only [cl]
 rw [ds]at l;have co:∀{w:U},bN M H w->Ext E w:=λdx c o am=>dx c o (b.ext c o am) (by intro C;rw [C,b.fresh.1]at am;cases am)
 by_cases a1:y.i.parts.length=arity y.i.aK
 .rw [ai a1,DG (by decide)]at l;rw [cq (by rw [a1])];refine cf ⟨_,S,M,X,_,S,ab,gu (.inr (.inr (.inl S))),M,n,W,j,D,i,[41],?_,b.rd,λw r s=>?_⟩
  .rw [<-Ot];rfl
  by_cases h:wordAt D i=[41]
  .rw [ai h]at l⊢;have ad:=b.but s r
   let⟨⟨t,R⟩,ga,ge,gl,go⟩:=id r;let⟨⟨a2,cr⟩,gt⟩:=ad.nd y ch;exists _,S,M,d,t,_,_,S,R,B.cl,B.taken,xD,_,S,y.a,Q,a2,_,S,cr,G.cl,G.end_,(by show 6<1000;decide),?_;have a3:=ad.jl (q:=fl (D.drop (i+1))) al cr
   have dK:upd w y.a (.ins Q a2 (aO "end" (.int (jP D (jw (i+1) D.length))) (eV y.i.aK y.i.word y.i.parent y.lp ((fl D:Int)-y.sp.1) ((fl D:Int)-y.sp.2))))=upd w y.a (.ins Q a2 (eV y.i.aK y.i.word y.i.parent y.lp ((fl D:Int)-y.sp.1) ((fl D:Int)-(fl (D.drop (i+1)):Nat)))):=by rw [xV,xY];rfl
   rw [dK];generalize upd w y.a (.ins Q a2 (eV y.i.aK y.i.word y.i.parent y.lp ((fl D:Int)-y.sp.1) ((fl D:Int)-(fl (D.drop (i+1)):Nat))))=g1 at*;let⟨⟨dL,dT⟩,_⟩:=a3.rd;exists _,S,M,d,dL,_,_,S,dT,B.cl,B.around,lO,.inl ⟨S,_,av.of a3.around⟩,j,_,V.int (f:Nat),S,S,a3.around,?_,?_
   .rw [be,br];show(_++[_])[_+1-1]?=_
    rw [SS,hu (aR _),kd];rfl
   .rw [be,List.dropLast_concat];have dX:=a3.xU (A':=k) (by have:=b.bL.2.1;rw [dn]at this;lia) (λd0 d1=>by rw [rX];exact b.bL.2.2.1 d0 (bC _ d1))
    refine l _ _ _ dX (xY D i).symm ?_ ?_
    .exact(kL (·.i) (Cf.jl (fl (D.drop (i+1)))) (λ_=>S) _ _).symm
    .exact(xT (·.sp) (Cf.jl (fl (D.drop (i+1)))) _ (λ_=>S) _ _).symm
  .rw [N h]at l⊢;exact l w (co s)
 .rw [N a1]at l;rw [bU (λC=>a1 (by injection C with C;lia))];have em:y.i.parts.length<30:=by lia
  have bi:∀bk cs,f::k=bk::cs->∀C,e[bk]?=Y C->C.i.parts.length<30:=λbk cs am C ct=>by injection am with eq _;subst eq;rw [al]at ct;obtain rfl:=aS ct;exact em
  refine b1 ⟨_,S,y.a,Q,as,_,_,S,a0,G.cl,G.aK,S,S,_,S,?_⟩;have es:decide (V.str (cO y.i.aK)=V.str (dO "a call"))=decide (y.i.aK=.call):=rb y.i.aK .call
  rw [es];have c0:∀(an:rh d Q pi E ca a5 M n W j D ((pass [32] (D.drop i)).bind λb=>fI ⟨b,e.map (·.i),f::k,e.map (·.sp)⟩)),∀w,hL d w M n W j D (jw (i+1) D.length)->bN M H w->(wordAt D i=[32]->∃t:Z,w M=Y (.ins d t (kG n (jw (i+1) D.length:Nat) (jP D (jw (i+1) D.length)) W j))/\eB d Q E w M n W j D (jw (i+1) D.length) e (f::k)/\rh d Q pi E ca a5 M n W j D (fI ⟨D.drop (jw (i+1) D.length),e.map (·.i),f::k,e.map (·.sp)⟩))/\(¬wordAt D i=[32]->a5 (.ref pi) O w):=by
   intro an w r s;rw [DG (by decide)]at an;exists λc=>?_,λc=>?_
   .rw [ai c]at an;let⟨⟨t,R⟩,_⟩:=id r;exists t,R,b.but s r,?_;rwa [xY]
   .rw [N c]at an;exact an w (co s)
  by_cases h:y.i.aK=.call
  .rw [cq h];refine b1 ⟨_,S,y.a,Q,as,_,_,S,a0,G.cl,G.parts,S,_,.inl ⟨_,av.of ci,S⟩,?_⟩;by_cases a4:y.i.parts=[]
   .rw [N (by rw [h,a4];simp)]at l;rw [a4];exact b1 ⟨_,S,M,X,_,S,ab,gu (.inr (.inr (.inr (.inl S)))),M,n,W,j,D,i,E,e,f::k,S,b,bd,bi,l⟩
   .rw [ai (.inr a4)]at l;have ev:(!(y.i.parts.map λg=>V.int ((g:Nat):Int)).isEmpty)=I:=by
     cases ex:y.i.parts with
     |nil=>exact absurd ex a4
     |cons u v=>rfl
    rw [ev];refine cf ⟨_,S,M,X,_,S,ab,gu (.inr (.inr (.inl S))),M,n,W,j,D,i,[32],?_,b.rd,λw r s=>?_⟩
    .rw [<-xR];rfl
    let⟨bl,bm⟩:=c0 l w r s;by_cases x:wordAt D i=[32]
    .rw [ai x];let⟨t,R,ad,bn⟩:=bl x;exists _,S,M,t,_,S,R,gu (.inr (.inr (.inr (.inl S)))),M,n,W,j,D,_,E,e,f::k,S,ad,bd,bi,bn
    .rw [N x];exact bm x
  .rw [ai (.inl h)]at l;rw [bU h];refine cf (cf ⟨_,S,M,X,_,S,ab,gu (.inr (.inr (.inl S))),M,n,W,j,D,i,[32],?_,b.rd,λw r s=>?_⟩)
   .rw [<-xR];rfl
   let⟨bl,bm⟩:=c0 l w r s;by_cases x:wordAt D i=[32]
   .rw [ai x];let⟨t,R,ad,bn⟩:=bl x;exists _,S,M,t,_,S,R,gu (.inr (.inr (.inr (.inl S)))),M,n,W,j,D,_,E,e,f::k,S,ad,bd,bi,bn
   .rw [N x];exact bm x
abbrev DI:a7:=inClass (top 21) 0
abbrev DJ:a7:=top 26
def pj(z:UInt8):Bool:=e6 z||z==63
set_option tactic.hygienic true
theorem pq:∀(U G A:aj),(G.all λz=>pj z&& !fH z)=I->(U.all pj)=I->A∈bY G U->h6 A=I/\(¬(32:UInt8)∈A\/A=[32])/\A.length<=G.length+U.length
 |[],G,A,hw,b,a=>by
  rw [bY]at a;split at a
  .cases a
  .rw [bb.mp a];refine⟨?_,.inl λd=>?_,by simp⟩
   .rw [js]at hw;unfold h6;rw [js];intro z g;have:=hw z g
    rw [bx]at this;exact this.1
   .rw [js]at hw;have:=hw 32 d
    revert this;decide
 |z::e,G,A,hw,b,a=>by
  rw [iN,bx]at b;rw [bY]at a;split at a
  .rename_i f;have:A∈(if G.isEmpty=I then []else [G])\/A=[z]\/A∈bY [] e:=by
    rcases bR.mp a with D|D
    .exact .inl D
    .rcases bg.mp D with D|D
     .exact .inr (.inl D)
     .exact .inr (.inr D)
   rcases this with D|D|D
   .have h:A∈bY G []:=by rwa [bY]
    let⟨M,N,T⟩:=pq [] G A hw rfl h;exact⟨M,N,by simp at T⊢;lia⟩
   .subst D;refine⟨?_,?_,by simp;lia⟩
    .show([z].all λz=>e6 z||z==63)=I;rw [iN,bx];exists b.1,S
    .by_cases c:z=32
     .exact .inr (by rw [c])
     .exact .inl λd=>c (bb.mp d).symm
   .obtain⟨M,N,T⟩:=pq e [] A S b.2 D;exact⟨M,N,by simp at T⊢;lia⟩
  .rename_i f;have i:((G++[z]).all λz=>pj z&& !fH z)=I:=by
    rw [zM,hw,rW,iN,Tn,To,b.1,rW];simpa using f
   let⟨M,N,T⟩:=pq e (G++[z]) A i b.2 a;exact⟨M,N,by simp at T⊢;lia⟩
set_option tactic.hygienic false
theorem xZ:∀(A z:aj),(bY z A).length<=2*A.length+1
 |[],z=>by rw [bY];split<;>simp
 |b::a,z=>by
  rw [bY];have D:=xZ a []
  have G:=xZ a (z++[b]);split
  .rw [br,dn,dn];split<;>simp<;>lia
  .rw [dn];lia
def x6(A:aj):((A.map norm).all pj)=I:=by
 rw [TK,js];intro z _;show pj (norm z)=I
 unfold norm pj;by_cases c:e6 z=I
 .rw [ai c,c];rfl
 .rw [N c];decide
theorem Ov(z:aj):nh (bY [] (z.map norm)):=⟨λA D=>(pq _ [] A S (x6 z) D).1,λA D=>(pq _ [] A S (x6 z) D).2.1⟩
def Ow(A:aj):fl (bY [] (A.map norm))=A.length:=by rw [<-xi,qQ,dh,z]
inductive DK (M:Z) (N:List V) (H:U) (S:VK) (T:XK):Prop
 |mk(a b lw:_)(_:N=[.ref a,.ref lw])(_:H a=Y (.ins M b []))(_:∀z A D,bN a H z->H A=O->H D=O->A≠D->A≠a->D≠a->z A=Y (.lst [])->z D=Y (.lst [])->z a=Y (.ins M b (kG lw 0 0 A D))->S .bw z)
def Ox{i:Z}(j:a9 K "__init__" "Reading.__init__" DI i o0)(A:kH K d):f_ 1 i o0 ["self","words"] (DK d):=by
 refine j.go ["self","words"] λt u v x H y B C E n _ _ _=>?_;let⟨b,a,F,rfl,w,q⟩:=n;exists _,ar (dQ (T 0) (T 1) S) (ar (dQ (T 0) cL S) (ar (dQ (T 0) cL S) (ar (dQ (T 0) (de aC) S) (ay (dQ (T 0) (de aC) S))))),?_;exists _,S,_,S,b,d,a,_,S,w,A.cl,A.words,(by decide),?_;exists _,S,b,d,a,_,S,M,A.cl,A.at_,(by show 1<1000;decide),?_;exists _,S,b,d,a,_,S,M,A.cl,A.taken,(by show 2<1000;decide),?_;exists cP _,λf c=>?_;have D:f≠b:=by intro N;rw [N,M]at c;cases c
 exists _,S,b,d,a,_,S,by rw [ah D.symm,M],A.cl,A.nodes,(by show 3<1000;decide),?_;exists cP _,λg U=>?_;have z:g≠b:=by intro N;rw [N,M]at U;cases U
 have h:g≠f:=by intro N;rw [ah z,N,M]at U;cases U
 exists _,S,b,d,a,_,S,by rw [ah z.symm,M],A.cl,A.around,(by show 4<1000;decide),?_;refine q _ f g (λk o l e=>?_) ?_ ?_ h.symm D z ?_ ?_ M
 .have r:k≠f:=by intro N;rw [ah D,ah D,ah D,<-N,l]at c;cases c
  have s:k≠g:=by intro N;rw [ah z,ah h,ah z,ah z,ah z,<-N,l]at U;cases U
  rwa [ah e,ah s,ah e,ah r,ah e,ah e,ah e]
 .rw [ah D,ah D,ah D]at c;exact c
 .rw [ah z,ah h,ah z,ah z,ah z]at U;exact U
 .rw [ah D,ah h.symm,ah D,M]
 .rw [ah z,M]
def x7(N S:Z)(H:U)(T:VK)(a:XK)(b:Nat):Option (List Info×List (Nat×Nat))->Prop
 |none=>∀z,Ext H z->a (.ref S) O z
 |some (ns,sp)=>∀(z:U) (D:Z) (A:List NR),Ext H z->H D=O->z D=Y (.lst (A.map λM=>V.ref M.a))->(∀M∈A,gL N b z M)->A.map (·.i)=ns->A.map (·.sp)=sp->T (.ref D) z
inductive x8 (z A:Z) (D:List V) (H:U) (M:VK) (N:XK):Prop
 |mk(lt:_)(t:aj)(_:D=[.ref lt])(_:H lt=Y (.lst (t.map λS=>V.int (S.toNat:Int))))(_:t.length<=9000)(_:x7 z A H M N t.length (hH (bY [] (t.map norm))))
def Oy(c3:a9 K "read_expression" "read_expression" DJ pi o0)(n:kH K d)(c4:L "NoProgram"=Y (.ref Q))(c5:gP K Q fU "Exception.__new__"=I)(c6:L "len"=O)(c7:g_ 1 "signs_of" ["text"] Di) (c8:g_ 1 "words_of" ["signs"] Dc) (c9:iu m p K L P aE 1 "Reading" d ["self","words"] (DK d))(db:r_ 6 d "begin_node" ["self"] (xX d q Q)) (dd:r_ 7 d "read_on" ["self"] (DH d q Q)):k_ 8 pi o0 ["text"] (x8 q Q):=by
 refine c3.ew ["text","reading"] λgt g1 g2 g3 H hd bs as t e dl _ sz=>?_;let⟨a0,h,rfl,a1,he,G⟩:=e;have bt:=t.mo 1
 have dp:=t.mo 2;have ds:=t.mo 6
 exists _,ar (bj 1 dl (iv (E:=E0) c9 dp cx (A (bI c8 bt (A (bI c7 bt (aJ 0)) aC)) aC))) (ar (cM (dR (T 1) db ds dw)) (ar (oe z0 (sg (aF 1) (λ_=>S)) (ay (cM (dR (T 1) dd t dw)))) (ar (bK (bS sf (aF 1) (cR el (by rfl) c6 dE (A (aF 1) aC)) (bV _)) (ay (jH j8 (by decide) c5 S c4 t.hd)) bQ) (ay (aQ (aF 1)))))),?_;have a2:=Ov h
 have dx:=xZ (h.map norm) [];rw [z]at dx;have dK:∀B∈bY [] (h.map norm),B.length<=10000:=λB dL=>by
  have:=(pq _ [] B S (x6 h) dL).2.2;rw [z]at this;simp at this
  lia
 have dT:=Ow h;exists _,S,a0,h,S,a1,by lia,λdX ab=>?_;exists h.map norm,S,by rw [z];lia,λi ad a3 d0 C=>?_;have a3:=a3
 have ab:Ext H dX:=ab;generalize bY [] (h.map norm)=ws at*;intro a b a4 bv hf;have ca:=cB C a4
 have d1:=cB C bv;exists a,b,i,S,M,λcd bm u ce ch ci em hi hm eq es ev=>⟨S,?_⟩;have al:=ab.trans a3
 have ex:Ext H cd:=λr o g=>by
  have a5:=al r o g;have k:=cB a5 a4
  have bd:=cB a5 bv;exact ce r o (by rw [ah k,ah bd];exact a5) k
 have fa:=ce i _ (by rw [ah ca,ah d1];exact C) ca;have am:∀{r:Z},upd (upd ad b (.own a)) a (.ins d b []) r=O->ad r=O:=λ{r} g=>by
  have k:r≠a:=by intro R;rw [R,M]at g;cases g
  have bd:r≠b:=by intro R;rw [ah k,R,M]at g;cases g
  rw [ah k,ah bd]at g;exact g
 have cl:eB d q H cd a i bm u ws 0 [] []:=
  ⟨⟨⟨b,ev⟩,fa,cP _,by lia,dK⟩,eq,es,(λ_ e=>nomatch e),gc,gc,(λ_ e=>nomatch e),em,⟨cB (H:=ad) C (am ci),cB (H:=ad) C (am ch)⟩,ex,⟨al.none a4,al.none (am ch),al.none (am ci),ab.none d0,λ_ e=>nomatch e⟩,by decide,by decide,(λ_ e=>nomatch e),(λ_ e=>nomatch e)⟩
 let⟨⟨fd,fl⟩,_⟩:=cl.rd;exists _,S,a,fd,_,S,fl,gu (.inr (.inr (.inr (.inl S)))),a,i,bm,u,ws,0,H,[],[],S,cl,a2,(λs hz g=>nomatch g),?_;show rh d q Q H _ as a i bm u ws (fI ⟨ws,[],[],[]⟩)
 cases be:fI ⟨ws,[],[],[]⟩with
 |none=>
  have bi:hH ws=O:=by unfold hH;rw [be];rfl
  rw [bi]at G;exact G
 |some f=>
 intro h0 U D fm fn fr fs;have bi:hH ws=(ep f).bind λf=>if f.ws=[]then Y (f.nodes,f.sp)else O:=by unfold hH;rw [be];rfl
 rw [bi]at G;have fT:=DF be ⟨(λs f0=>nomatch f0),gc⟩ (λs w g=>nomatch g)
 have cn:f=⟨ws.drop U,D.map (·.i),f.around,D.map (·.sp)⟩:=by rw [<-fn,<-fr,<-fs]
 refine⟨λco cr an=>∃U D w,cr=[Y (.ref a0),Y (.ref a)]/\eB d q H an a i bm u ws U D w/\nq ⟨ws.drop U,D.map (·.i),w,D.map (·.sp)⟩/\ep ⟨ws.drop U,D.map (·.i),w,D.map (·.sp)⟩=ep f/\co=(ws.drop U).length,⟨_,U,D,f.around,S,fm,by rw [<-cn];exact fT,by rw [<-cn],S⟩,?_⟩;rintro co cr an ⟨U,D,w,rfl,l,bk,cs,rfl⟩;let⟨⟨v,x⟩,f1,h1,_⟩:=l.rd;exists _,S,a,d,v,_,_,S,x,n.cl,n.around,lO,_,.inl ⟨_,av.of l.around,S⟩,?_;cases w with
 |nil=>
  refine b1 ?_;have j:ep f=Y ⟨ws.drop U,D.map (·.i),[],D.map (·.sp)⟩:=by rw [<-cs,mW,ai S]
  rw [j]at G;exists _,S,a,d,v,_,_,S,x,n.cl,n.at_,tG,_,S,a,d,v,_,_,S,x,n.cl,n.words,tH,i,_,S,.inl (av.of f1),_,_,S,S,_,S,?_;rw [z];by_cases c:U<ws.length
  .rw [cq (by lia)];have:¬ws.drop U=[]:=by rw [jQ c];intro R;cases R
   have X:x7 q Q H bs as h.length (if ws.drop U=[]then Y (D.map (·.i),D.map (·.sp))else O):=G;rw [N this]at X;exact cf (X an l.ext)
  .rw [bU (by lia)];have X:x7 q Q H bs as h.length (if ws.drop U=[]then Y (D.map (·.i),D.map (·.sp))else O):=G
   rw [ai (jk (by lia))]at X;refine b1 ⟨_,S,a,d,v,_,_,S,x,n.cl,n.nodes,mZ,X an bm D l.ext l.fresh.2.1 l.nodes (λf2 t=>?_) S rfl⟩;rw [<-dT];exact l.nd f2 t
 |cons s w=>
  have f4:(!((s::w).reverse.map λB=>V.int ((B:Nat):Int)).isEmpty)=I:=by rw [zZ,aT];simp
  rw [f4];refine cf ?_;have j:ep f=(fi ⟨ws.drop U,D.map (·.i),s::w,D.map (·.sp)⟩).bind ep:=by rw [<-cs,mW,N (by simp)]
  cases y:fi ⟨ws.drop U,D.map (·.i),s::w,D.map (·.sp)⟩with
  |none=>
   rw [y]at j;have j:ep f=O:=j
   rw [j]at G;exists λ_ _=>False,(λ_ _ e=>e.elim),_,S,a,v,_,S,x,gu (.inr (.inr (.inr (.inr (.inr (.inr S)))))),a,i,bm,u,ws,U,H,D,s,w,S,l,a2,bk,?_;rw [y];exact G
  |some ap=>
   rw [y]at j;have j:ep f=ep ap:=j
   have a1:=mV y;refine⟨λf8 ga=>∃ct,ct<(ws.drop U).length/\∃U D w,f8=[Y (.ref a0),Y (.ref a)]/\eB d q H ga a i bm u ws U D w/\nq ⟨ws.drop U,D.map (·.i),w,D.map (·.sp)⟩/\ep ⟨ws.drop U,D.map (·.i),w,D.map (·.sp)⟩=ep f/\ct=(ws.drop U).length,(λ_ _ e=>e),_,S,a,v,_,S,x,gu (.inr (.inr (.inr (.inr (.inr (.inr S)))))),a,i,bm,u,ws,U,H,D,s,w,S,l,a2,bk,?_⟩;rw [y];intro h2 c0 bl ge c1 gl go;have c2:ap=⟨ws.drop c0,bl.map (·.i),ap.around,bl.map (·.sp)⟩:=by rw [<-c1,<-gl,<-go]
   exists _,by rw [<-c1];exact a1,c0,bl,ap.around,S,ge,by rw [<-c2];exact Oo y bk,by rw [<-c2,j],S
def da.upd{K:af}{H:U}{G:Wy}{o:HO}(A:cX (H d)\/H d=O)(M:da K H q G):da K (L2.upd H d o) q G:=by let⟨N,S,T,a,b⟩:=M;exists N,S,bF A T,bF A a,bF A b
abbrev DL:a7:=top 50
inductive DM (m:aw) (p:au) (K:af) (M N:Z) (S:List V) (H:U) (T:VK) (b:XK):Prop
 |mk(P g l t tab i c d ps:_)(_:S=[.ref P,.int (l:Nat),.ref t])(_:lQ K M N H P g)(_:g.nodes[l]?=Y i)(_:i.parts=[c,d])(_:TabAt m p K H t tab)(_:ba tab (0,c)=Y ps)(_:ps.length<=1000)(_:(∀u∈dJ 1 ps,∃D a z,g.nodes[u]?=Y D/\D.parts=a::z))(_:∀z A,Ext H A->H z=O->jj K A z (jN g l d (dJ 1 ps))->T (.ref z) A)
def Oz{v:Z}(dx:a9 K "call_ways" "call_ways" DL q o0)(w:rf K d v)(bk:Gs L)(dK:L "FUNCTION_KIND"=Y (.int 1 wS))(dL:g_ 1 "labels_at" ["table","label","kind"] (xJ m p K)):f_ 2 q o0 ["program","label","table"] (DM m p K d v):=by
 let⟨ii,ap⟩:=bk.node;let⟨im,dT⟩:=bk.name;refine dx.go ["program","label","table","node","ways","fun","body"] λio is it ix H jp kk kp dX as E _ sz=>?_;let⟨a0,x,e,bl,d0,i,c,g,h,rfl,d1,em,eq,es,ev,ks,ex,fa⟩:=as;exists _,ar (bj 3 E (cc dk (aF 0) (T 1) (λ_ _=>S))) (ar (bj 4 E (de aC)) (ar (d3 dZ S (dC (gI dL dX cx (A (T 2) (A (cc dk (aF 3) cL (λ_ _=>S)) (A (b7 dK) aC))))) (bX 5 E) (ar (bj 6 E (cc dk (fP (cc dk (aF 0) (T 5) (λ_ _=>S)) S) cL (λ_ _=>S))) (ar (cM (fe fu f9 gF fQ (T 4) (A (b6 (A (b6 (A (b7 ap) (A (cc dk (aF 3) cL (λ_ _=>S)) aC))) (A (b6 (A (b7 dT) (aJ 5))) aC))) aC))) (ay (cM (fe fu f9 gF fQ (T 4) (A (b6 (A (b6 (A (b7 ap) (aJ 6))) (A (b6 (A (b7 ap) (aJ 1))) aC))) aC))))))) (ay (aQ (T 4))))),?_;let⟨bm,kt,⟨bn,bs,bt,bv⟩,ca,cd⟩:=d1.nodes;let⟨a1,fd,fl⟩:=ng cd em;let⟨ce,⟨ch,ci,cl,cn⟩,a2⟩:=fl.parts;rw [eq]at a2;exists _,S,a0,d,bn,bs,_,S,bt,w.c,w.nodes,bv,_,S,bm,_,_,_,S,S,av.of ca,e1 (by rw [bh,fd];rfl),?_;exists cP _,λN C=>?_;have Q:Ext H (upd H N (.lst [])):=Ext.one C
 exists _,S,_,S,a1,v,ch,ci,_,S,Q _ _ cl,w.cn,w.parts,cn,ce,_,_,_,S,S,av.of (Q _ _ a2),S,?_;exists bl,d0,c,1,h,S,es.ext Q,ev,by lia,λR kw co cr cs=>?_;have ct:R≠N:=by intro k;rw [k,M]at cr;cases cr
 exists R,S,⟨_,av.of cs⟩,?_;let fm:VLx:=λG W f=>X2 λa3 a4=>A4 (W=[Y (.ref a0),Y (.int (e:Nat)),Y (.ref bl),Y (.ref a1),Y (.ref N),a3,a4]) (∃D,f N=Y (.lst (D.map V.ref))/\cE (da K f) D (jN x e g ((dJ 1 h).take G))/\D.length<=2*G) (Ext H f) (f R=Y (.lst ((dJ 1 h).map λn=>V.int (n:Nat))))
 refine fw (xs:=(dJ 1 h).map λn=>V.int (n:Nat)) fm ?_ ?_ ?_ ?_
 .exact⟨O,O,S,⟨[],co _ _ M,.nil,cP _⟩,Q.trans co,cs⟩
 .rintro G W f _ ⟨_,_,_,_,_,as⟩;exact av.of as
 .rintro G n W f y ⟨a3,a4,rfl,⟨D,X,ab,fn⟩,l,c0⟩;rw [bh]at y;cases B:(dJ 1 h)[G]? with
  |none=>rw [B]at y;cases y
  |some u=>
   rw [B]at y;obtain rfl:=aS y;let⟨fr,b,kP,c1,c2⟩:=ex u (cG B);have kV:G<1000:=by
    have:=(cF.mp B).1;have k0:(dJ 1 h).length<=h.length:=iU _ _
    lia
   have fs:mO x u=b:=by unfold mO;rw [c1];show fr.parts.headD 0=b;rw [c2];rfl
   have wS:jN x e g ((dJ 1 h).take (G+1))=jN x e g ((dJ 1 h).take G)++[((0,g),(1,u))]++[((0,b),(0,e))]:=by
    rw [dq,B];unfold jN;rw [k4];show _++([((0,g),(1,u)),((0,mO x u),(0,e))]++[])=_
    rw [fs,ck];rfl
   let⟨fT,f0,f1⟩:=ng cd c1;let⟨f2,⟨f4,f8,ga,ge⟩,c3⟩:=f1.parts;rw [c2]at c3;exists _,S,a0,d,bn,bs,_,S,l _ _ bt,w.c,w.nodes,bv,_,S,bm,_,_,_,S,S,av.of (l _ _ ca),e1 (by rw [bh,f0];rfl),fT,v,f4,f8,_,S,l _ _ ga,w.cn,w.parts,ge,f2,_,_,_,S,S,av.of (l _ _ c3),e1 (j:=0) S,?_;exists _,S,.inl ⟨S,_,av.of X⟩,_,S,a1,v,ch,ci,_,S,l _ _ cl,w.cn,w.parts,cn,ce,_,_,_,S,S,av.of (l _ _ a2),S,cD,λan gl=>⟨_,S,cD,λbe c4=>⟨cD,λa a5=>?_⟩⟩;have c5:=Ext.one (o:=.tup [.int 0,.int (g:Nat)]) gl
   have c6:=c5.new (o:=.tup [.int 1,.int (u:Nat)]) c4;have ad:=c6.new (o:=.tup [.ref an,.ref be]) a5
   have go:da K (upd (upd (upd f an (.tup [.int 0,.int (g:Nat)])) be (.tup [.int 1,.int (u:Nat)])) a (.tup [.ref an,.ref be])) a ((0,g),(1,u)):=⟨an,be,ax.of M,((Ext.one c4).new a5).aP (ax.of M),(Ext.one a5).aP (ax.of M)⟩
   have gt:=Paired.cb ab λb n k=>da.ext ad k;have c7:=ad _ _ X
   have g1:=l.trans ad;have g2:=ad _ _ c0
   clear c5 c6;generalize upd (upd (upd f an (.tup [.int 0,.int (g:Nat)])) be (.tup [.int 1,.int (u:Nat)])) a (.tup [.ref an,.ref be])=r at*;exists N,_,_,S,S,c7,by rw [z];lia,?_;have c8:cX (r N)\/r N=O:=.inl (by rw [c7];exact trivial)
   have g3:=fY (Paired.cb gt λb n k=>da.upd (o:=.lst ((D++[a]).map V.ref)) c8 k) (da.upd (o:=.lst ((D++[a]).map V.ref)) c8 go);have hd:(D.map V.ref++[V.ref a])=(D++[a]).map V.ref:=by rw [aT];rfl
   rw [hd];have he:Ext H (upd r N (.lst ((D++[a]).map V.ref))):=g1.upd C
   have c9:upd r N (.lst ((D++[a]).map V.ref)) N=Y (.lst ((D++[a]).map V.ref)):=M;have hf:upd r N (.lst ((D++[a]).map V.ref)) R=_:=(ah ct).trans g2
   generalize upd r N (.lst ((D++[a]).map V.ref))=db at*;exists _,S,.inl ⟨S,_,av.of c9⟩,_,S,cD,λs hi=>⟨_,S,cD,λt dd=>⟨cD,λal bd=>?_⟩⟩;have hm:=Ext.one (o:=.tup [.int 0,.int (b:Nat)]) hi
   have hz:=hm.new (o:=.tup [.int 0,.int (e:Nat)]) dd;have am:=hz.new (o:=.tup [.ref s,.ref t]) bd
   have h0:da K (upd (upd (upd db s (.tup [.int 0,.int (b:Nat)])) t (.tup [.int 0,.int (e:Nat)])) al (.tup [.ref s,.ref t])) al ((0,b),(0,e)):=⟨s,t,ax.of M,((Ext.one dd).new bd).aP (ax.of M),(Ext.one bd).aP (ax.of M)⟩
   have h1:=Paired.cb g3 λb n k=>da.ext am k;have dl:=am _ _ c9
   have h2:=he.trans am;have id:=am _ _ hf
   generalize upd (upd (upd db s (.tup [.int 0,.int (b:Nat)])) t (.tup [.int 0,.int (e:Nat)])) al (.tup [.ref s,.ref t])=dp at*;exists N,_,_,S,S,dl,by rw [z,br];show D.length+1<aU;lia,_,_,S,⟨D++[a]++[al],?_,?_,?_⟩,h2.upd C,(ah ct).trans id
   .rw [M,aT (l₁:=D++[a])];rfl
   .rw [wS];have ds:cX (dp N)\/dp N=O:=.inl (by rw [dl];exact trivial)
    exact fY (Paired.cb h1 λb n k=>da.upd ds k) (da.upd ds h0)
   .rw [br,br];show D.length+1+1<=_;lia
 .rintro W f ⟨a3,a4,rfl,⟨D,X,ab,fn⟩,l,c0⟩;rw [z,dB]at ab;exists _,S,fa N f l C ⟨D,X,ab⟩
variable{TD:U->Prop}
def x9{K:af}{kk:Nat}(t:r Q=Y (.lst (ww.map λc=>V.int (c:Nat))))(v:r d=O)(an:ax K r q (b4 re))(ap:B<s3.length) (bd:s3[wE]?=Y (Y (.ref q))) (as:B≠wE) (be:ww.length<=10000) (a0:∀N,Ext r N->jj K N d (ww.map λu=>((kk,u),re))->TD N):∃w:Nat->Nat->U->Prop,(∃n,w 0 n (upd r d (.lst [])))/\∀i n H,w i n H->((hy K Q).stop i H/\TD H)\/((hy K Q).go i H/\∃x:U->Prop,(∀N,x N->∃P,P<n/\w (i+1) P N)/\∀c N,(hy K Q).hc i H c N->mr B c (wipe s3 [B]) N λA D=>wipe A [B]=wipe s3 [B]/\hk A D λG R=>if G=I then qu (jB (qu (jB (tC (.int (kk:Nat))) (jB (jy B) jA))) (jB (jy wE) jA)) A R λy X=>∃C,X d=Y (.lst C)/\C.length<aU/\x (upd X d (.lst (C++[y])))else x R):=by
 have sz:(20000:Nat)<aU:=by decide
 have bi:Q≠d:=by intro E;rw [E,v]at t;cases t
 let a1:VCx:=λf D=>(∃g,D d=Y (.lst (g.map V.ref))/\cE (da K D) g ((ww.take f).map λu=>((kk,u),re))/\g.length<=f)/\Ext r D;refine hC (xs:=ww.map λc=>V.int (c:Nat)) a1 ?_ ?_ ?_ ?_
 .exact⟨⟨[],M,.nil,aR _⟩,Ext.one v⟩
 .rintro f D _ ⟨_,a2⟩;exact av.of (a2 _ _ t)
 .rintro f c D k ⟨⟨g,F,p,ab⟩,a⟩;rw [bh]at k;cases b:ww[f]? with
  |none=>rw [b]at k;cases k
  |some u=>
   rw [b]at k;obtain rfl:=aS k;have bk:=(cF.mp b).1
   have a3:(ww.take (f+1)).map (λu=>(((kk,u),re):Wy))=(ww.take f).map (λu=>((kk,u),re))++[((kk,u),re)]:=by rw [dq,b,aT];rfl
   exists ?_,?_
   .show(((s3.set B O).set B _).set B O)=s3.set B O;rw [n6,n6]
   unfold hk;dsimp only [];rw [ai S];exists .int (u:Nat),?_,cD,λT a4=>⟨.ref q,?_,cD,λl ad=>?_⟩
   .show((s3.set B O).set B _)[B]?=_;rw [n6,uq ap]
   .show((s3.set B O).set B _)[wE]?=_;rwa [n6,ur as]
   have s:=(Ext.one (o:=.tup [.int (kk:Nat),.int (u:Nat)]) a4).new (o:=.tup [.ref T,.ref q]) ad;have a5:da K (upd (upd D T (.tup [.int (kk:Nat),.int (u:Nat)])) l (.tup [.ref T,.ref q])) l ((kk,u),re):=⟨T,q,ax.of M,(Ext.one ad).aP (ax.of M),(a.trans s).aP an⟩
   have al:=s _ _ F;have am:cX ((upd (upd D T (.tup [.int (kk:Nat),.int (u:Nat)])) l (.tup [.ref T,.ref q])) d)\/(upd (upd D T (.tup [.int (kk:Nat),.int (u:Nat)])) l (.tup [.ref T,.ref q])) d=O:=.inl (al▸trivial)
   exists _,al,by rw [z];lia,⟨g++[l],?_,?_,br▸qi ab 1⟩,(a.trans s).upd v
   .rw [M,aT];rfl
   .rw [a3];exact fY (Paired.cb p λG c E=>da.upd am (da.ext s E)) (da.upd am a5)
 .rintro D ⟨⟨g,F,p,ab⟩,a⟩;rw [z,dB]at p;exact a0 D a ⟨g,F,p⟩
def OA{K:af}{q:Pr}{kk:Nat}(al:r pi=Y (.lst (ww.map λc=>V.int (c:Nat))))(E:r Q=O)(am:ax K r d (b4 q))(an:B<s3.length) (bd:s3[wE]?=Y (Y (.ref d))) (ap:B≠wE) (be:ww.length<=10000) (as:∀G,Ext r G->jj K G Q (ww.map λu=>(q,(kk,u)))->TD G):∃t:Nat->Nat->U->Prop,(∃m,t 0 m (upd r Q (.lst [])))/\∀i m H,t i m H->((hy K pi).stop i H/\TD H)\/((hy K pi).go i H/\∃v:U->Prop,(∀G,v G->∃F,F<m/\t (i+1) F G)/\∀c G,(hy K pi).hc i H c G->mr B c (wipe s3 [B]) G λw D=>wipe w [B]=wipe s3 [B]/\hk w D λL P=>if L=I then qu (jB (jy wE) (jB (qu (jB (tC (.int (kk:Nat))) (jB (jy B) jA))) jA)) w P λy N=>∃x,N Q=Y (.lst x)/\x.length<aU/\v (upd N Q (.lst (x++[y])))else v P):=by
 have sz:(20000:Nat)<aU:=by decide
 let a0:VCx:=λe D=>(∃f,D Q=Y (.lst (f.map V.ref))/\cE (da K D) f ((ww.take e).map λu=>(q,(kk,u)))/\f.length<=e)/\Ext r D;refine hC (xs:=ww.map λc=>V.int (c:Nat)) a0 ?_ ?_ ?_ ?_
 .exact⟨⟨[],M,.nil,aR _⟩,Ext.one E⟩
 .rintro e D _ ⟨_,a1⟩;exact av.of (a1 _ _ al)
 .rintro e c D h ⟨⟨f,A,n,R⟩,p⟩;rw [bh]at h;cases a:ww[e]? with
  |none=>rw [a]at h;cases h
  |some u=>
   rw [a]at h;obtain rfl:=aS h;have bi:=(cF.mp a).1
   have a2:(ww.take (e+1)).map (λu=>((q,(kk,u)):Wy))=(ww.take e).map (λu=>(q,(kk,u)))++[(q,(kk,u))]:=by rw [dq,a,aT];rfl
   exists ?_,?_
   .show(((s3.set B O).set B _).set B O)=s3.set B O;rw [n6,n6]
   unfold hk;dsimp only [];rw [ai S];exists .ref d,?_,.int (u:Nat),?_,cD,λT a3=>⟨cD,λj X=>?_⟩
   .show((s3.set B O).set B _)[wE]?=_;rwa [n6,ur ap]
   .show((s3.set B O).set B _)[B]?=_;rw [n6,uq an]
   have s:=(Ext.one (o:=.tup [.int (kk:Nat),.int (u:Nat)]) a3).new (o:=.tup [.ref d,.ref T]) X;have a4:da K (upd (upd D T (.tup [.int (kk:Nat),.int (u:Nat)])) j (.tup [.ref d,.ref T])) j (q,(kk,u)):=⟨d,T,ax.of M,(p.trans s).aP am,(Ext.one X).aP (ax.of M)⟩
   have ab:=s _ _ A;have ad:cX ((upd (upd D T (.tup [.int (kk:Nat),.int (u:Nat)])) j (.tup [.ref d,.ref T])) Q)\/(upd (upd D T (.tup [.int (kk:Nat),.int (u:Nat)])) j (.tup [.ref d,.ref T])) Q=O:=.inl (ab▸trivial)
   exists _,ab,by rw [z];cutsat,⟨f++[j],?_,?_,br▸qi R 1⟩,(p.trans s).upd E
   .rw [M,aT];rfl
   .rw [a2];exact fY (Paired.cb n λL c a5=>da.upd ad (da.ext s a5)) (da.upd ad a4)
 .rintro D ⟨⟨f,A,n,R⟩,p⟩;rw [z,dB]at n;exact as D p ⟨f,A,n⟩
structure Gk(G:aa->Option J):Prop where
 fn:∃z,G "FUNCTION_KIND"=Y (.int 1 z)
 pair:∃z,G "PAIR_KIND"=Y (.int 2 z)
 ref:∃z,G "REFERENCE_KIND"=Y (.int 3 z)
abbrev ya:a7:=top 49
inductive DN (m:aw) (p:au) (K:af) (M N:Z) (S:List V) (H:U) (T:VK) (b:XK):Prop
 |mk(P g l t tab i:_)(_:S=[.ref P,.int (l:Nat),.ref t])(_:lQ K M N H P g)(_:g.nodes[l]?=Y i)(_:i.parts.length=arity i.aK)(_:TabAt m p K H t tab)(_:(∀c∈i.parts,∃ps,ba tab (0,c)=Y ps/\ps.length<=1000/\∀u∈dJ 1 ps,∃D a z,g.nodes[u]?=Y D/\D.parts=a::z))(_:∀z A,Ext H A->H z=O->jj K A z (iC g tab l i.aK i.parts)->T (.ref z) A)
def OB(c6:a9 K "ways_by_facts" "ways_by_facts" ya pi o0)(z:rf K d Q)(ab:Gs L)(ca:Gk L)(bm:g_ 1 "labels_at" ["table","label","kind"] (xJ m p K))(c7:g_ 2 "call_ways" ["program","label","table"] (DM m p K d Q)):f_ 3 pi o0 ["program","label","table"] (DN m p K d Q):=by
 let⟨ex,co⟩:=ab.node;let⟨fa,c8⟩:=ab.first;let⟨fd,c9⟩:=ab.second;let⟨fl,cr⟩:=ab.inside;let⟨fm,db⟩:=ab.call;let⟨fn,fr⟩:=ca.fn;let⟨fs,cs⟩:=ca.pair;let⟨fT,ct⟩:=ca.ref;refine c6.go ["program","label","table","node","here","put","pair","made"] λdd dl f0 e H f1 f2 f4 c0 dp g _ _=>?_;let⟨c1,cd,s,ad,h,i,rfl,c2,c3,al,am,an,f⟩:=dp;have bn:dj 1 (dl.deeper (eI "ways_by_facts" (ei ya) e.heap.objs.size pi dd)):=c0.mono (by decide)
 exists _,ar (bj 3 g (cc dk (aF 0) (T 1) (λ_ _=>S))) (ar (bj 4 g (b6 (A (b7 co) (aJ 1)))) (ar (bK (bS cT (aF 3) (ek (v:=.str (cO .call)) S db ⟨_,S⟩) (bV _)) (ay (aQ (gI c7 c0 cx (A (T 0) (A (T 1) (aJ 2)))))) bQ) (ar (bK (bS cT (aF 3) dP (bV _)) (ay (aQ (fS (own:=[("pair",6)]) S g (dC (gI bm bn cx (A (T 2) (A (cc dk (aF 3) cL (λ_ _=>S)) (A (b7 cs) aC))))) (e2 S) (λe H d z j=>bX 6 g) (λe H d z j=>hB) (λe H d z j=>b6 (A (b6 (A (ek (v:=.int (2:Nat)) S c8 ⟨_,S⟩) (aJ 6))) (aJ 4)))))) bQ) (ar (bK (bS cT (aF 3) dP (bV _)) (ay (aQ (fS (own:=[("pair",6)]) S g (dC (gI bm bn cx (A (T 2) (A (cc dk (aF 3) cL (λ_ _=>S)) (A (b7 cs) aC))))) (e2 S) (λe H d z j=>bX 6 g) (λe H d z j=>hB) (λe H d z j=>b6 (A (b6 (A (ek (v:=.int (3:Nat)) S c9 ⟨_,S⟩) (aJ 6))) (aJ 4)))))) bQ) (ar (bK (bS cT (aF 3) dP (bV _)) (ay (aQ (fS (own:=[("made",7)]) S g (dC (gI bm bn cx (A (T 2) (A (cc dk (aF 3) cL (λ_ _=>S)) (A (b7 ct) aC))))) (e2 S) (λe H d z j=>bX 7 g) (λe H d z j=>hB) (λe H d z j=>b6 (A (b6 (A (ek (v:=.int (4:Nat)) S cr ⟨_,S⟩) (aJ 7))) (aJ 4)))))) bQ) (ar (bK (bS cT (aF 3) dP (bV _)) (ar (bj 5 g (b6 (A (b7 co) (A (cc dk (aF 3) cL (λ_ _=>S)) aC)))) (ay (aQ (fS (own:=[("made",7)]) S g (dC (gI bm bn cx (A (T 2) (A (cc dk (aF 3) cL (λ_ _=>S)) (A (b7 ct) aC))))) (e2 S) (λe H d z j=>bX 7 g) (λe H d z j=>hB) (λe H d z j=>b6 (A (T 5) (A (b6 (A (ek (v:=.int (4:Nat)) S cr ⟨_,S⟩) (aJ 7))) aC))))))) bQ) (ay (aQ (de aC))))))))),?_;let⟨ds,f8,⟨dx,dK,dL,dT⟩,dX,d0⟩:=c2.nodes;let⟨r,d1,c4⟩:=ng d0 c3;let⟨ap,⟨as,a0,a1,a2⟩,t⟩:=c4.parts;let⟨a3,a4,a5,bd⟩:=c4.aK;exists _,S,c1,d,dx,dK,_,S,dL,z.c,z.nodes,dT,_,S,ds,_,_,_,S,S,av.of dX,e1 (by rw [bh,d1];rfl),?_;exists _,S,cD,λce em=>?_;have D:Ext H (upd H ce (.tup [.int 0,.int (s:Nat)])):=Ext.one em
 have ch:ax K (upd H ce (.tup [.int 0,.int (s:Nat)])) ce (b4 (0,s)):=ax.of M;have be:∀B:Fm,¬decide (V.str (cO i.aK)=V.str (cO B))=I->¬i.aK=B:=λB k eq=>k (by rw [eq];exact cq S)
 have bi:∀B:Fm,decide (V.str (cO i.aK)=V.str (cO B))=I->i.aK=B:=λB k=>by rw [rb]at k;exact d6 k
 exists _,S,r,Q,a3,a4,_,S,D _ _ a5,z.cn,z.aK,bd,S,_,S,ec (λk=>?_) (λk=>?_)
 .have k:=bi .call k;let⟨c,U,N⟩:=rg (al.trans (bD arity k));let⟨x,b,bk,bl⟩:=an c (by rw [N];exact bE);rw [k,N]at f;exists _,S,_,S,_,S,c1,cd,s,ad,h,i,c,U,x,S,c2.ext D,c3,N,am.ext D,b,bk,bl,λbs c5 C bt y=>?_;refine f bs c5 (D.trans C) (D.none bt) ?_;show jj K c5 bs (jN cd s U (dJ 1 ((ba h (0,c)).getD [])))
  rw [b];exact y
 .skip
  exists _,S,r,Q,a3,a4,_,S,D _ _ a5,z.cn,z.aK,bd,S,_,S,ec (λw=>?_) (λw=>?_)
  .have w:=bi .fst w;let⟨c,N⟩:=list1 (al.trans (bD arity w));let⟨x,b,bk,bl⟩:=an c (by rw [N];exact bb.mpr S);rw [w,N]at f;rw [N]at t;exists _,S,_,S,r,Q,as,a0,_,S,D _ _ a1,z.cn,z.parts,a2,ap,_,_,_,S,S,av.of (D _ _ t),S,?_;exists ad,h,c,2,x,S,am.ext D,b,by cutsat,λE ci a cl l=>⟨E,S,⟨_,av.of l⟩,λG n=>?_⟩;refine x9 (kk:=2) l n (a.aP ch) (by show 6<8;decide) S (by decide) (cu (iU _ _) (by cutsat)) λbv F y=>?_;refine f G bv ((D.trans a).trans F) ((D.trans a).none n) ?_;show jj K bv G ((dJ 2 ((ba h (0,c)).getD [])).map λu=>((2,u),(0,s)))
   rw [b];exact y
  exists _,S,r,Q,a3,a4,_,S,D _ _ a5,z.cn,z.aK,bd,S,_,S,ec (λR=>?_) (λR=>?_)
  .have R:=bi .snd R;let⟨c,N⟩:=list1 (al.trans (bD arity R));let⟨x,b,bk,bl⟩:=an c (by rw [N];exact bb.mpr S);rw [R,N]at f;rw [N]at t;exists _,S,_,S,r,Q,as,a0,_,S,D _ _ a1,z.cn,z.parts,a2,ap,_,_,_,S,S,av.of (D _ _ t),S,?_;exists ad,h,c,2,x,S,am.ext D,b,by cutsat,λE ci a cl l=>⟨E,S,⟨_,av.of l⟩,λG n=>?_⟩;refine x9 (kk:=3) l n (a.aP ch) (by show 6<8;decide) S (by decide) (cu (iU _ _) (by cutsat)) λbv F y=>?_;refine f G bv ((D.trans a).trans F) ((D.trans a).none n) ?_;show jj K bv G ((dJ 2 ((ba h (0,c)).getD [])).map λu=>((3,u),(0,s)))
   rw [b];exact y
  exists _,S,r,Q,a3,a4,_,S,D _ _ a5,z.cn,z.aK,bd,S,_,S,ec (λW=>?_) (λW=>?_)
  .have W:=bi .get W;let⟨c,N⟩:=list1 (al.trans (bD arity W));let⟨x,b,bk,bl⟩:=an c (by rw [N];exact bb.mpr S);rw [W,N]at f;rw [N]at t;exists _,S,_,S,r,Q,as,a0,_,S,D _ _ a1,z.cn,z.parts,a2,ap,_,_,_,S,S,av.of (D _ _ t),S,?_;exists ad,h,c,3,x,S,am.ext D,b,by cutsat,λE ci a cl l=>⟨E,S,⟨_,av.of l⟩,λG n=>?_⟩;refine x9 (kk:=4) l n (a.aP ch) (by show 7<8;decide) S (by decide) (cu (iU _ _) (by cutsat)) λbv F y=>?_;refine f G bv ((D.trans a).trans F) ((D.trans a).none n) ?_;show jj K bv G ((dJ 3 ((ba h (0,c)).getD [])).map λu=>((4,u),(0,s)))
   rw [b];exact y
  exists _,S,r,Q,a3,a4,_,S,D _ _ a5,z.cn,z.aK,bd,S,_,S,ec (λX=>?_) (λX=>?_)
  .have X:=bi .set X;let⟨c,U,N⟩:=rg (al.trans (bD arity X));let⟨x,b,bk,bl⟩:=an c (by rw [N];exact bE);rw [X,N]at f;rw [N]at t;exists _,S,r,Q,as,a0,_,S,D _ _ a1,z.cn,z.parts,a2,ap,_,_,_,S,S,av.of (D _ _ t),S,cD,λga es=>?_;have C:=D.new (o:=.tup [.int 0,.int (U:Nat)]) es
   exists _,S,_,S,r,Q,as,a0,_,S,C _ _ a1,z.cn,z.parts,a2,ap,_,_,_,S,S,av.of (C _ _ t),S,?_;exists ad,h,c,3,x,S,am.ext C,b,by cutsat,λE ci a cl l=>⟨E,S,⟨_,av.of l⟩,λG n=>?_⟩;refine OA (kk:=4) (q:=(0,U)) l n (a.aP (ax.of M)) (by show 7<8;decide) S (by decide) (cu (iU _ _) (by cutsat)) λbv F y=>?_;refine f G bv ((C.trans a).trans F) ((C.trans a).none n) ?_;show jj K bv G ((dJ 3 ((ba h (0,c)).getD [])).map λu=>((0,U),(4,u)))
   rw [b];exact y
  have ev:iC cd h s i.aK i.parts=[]:=by
   have ge:=be .call k;have gl:=be .fst w
   have go:=be .snd R;have gt:=be .get W
   have g1:=be .set X;unfold iC;split<;>first|rfl|(exfalso;simp_all)
  rw [ev]at f;exists cP _,λbs bt=>f bs _ (D.new bt) (D.none bt) ⟨[],M,.nil⟩
theorem yb(A:Nat)(z:List Pr):(dJ A z).length<=z.length:=iU _ _
theorem DO(z:Pg)(A D:Nat):∀G:List Nat,(jN z A D G).length=2*G.length
 |[]=>rfl
 |u::a=>by
  show([((0,D),(1,u)),((0,mO z u),(0,A))]++jN z A D a).length=_;rw [br,DO z A D a,dn (a:=u)];show 2+_=_
  lia
def OC(z:Pg)(A:Nat)(D:Fm)(G:List Nat):(hG z A D G).length<=2:=by unfold hG;split<;>first|decide|(split<;>simp)|simp
set_option tactic.hygienic true
def OD{M:Pg}(a:xb M P3){i:Info}(b:M.nodes[B]?=Y i):(iC M P3 B i.aK i.parts).length<=2000:=by
 have S:=a.tab B i b;unfold iC;split
 .rename_i c d _ D;let⟨A,G,U,_⟩:=S c (D▸bE);rw [G,DO];have:=yb 1 A
  show 2*(dJ 1 A).length<=_
  lia
 all_goals first
  |(rename_i c _ D
    let⟨A,G,U,_⟩:=S c (D▸bE);rw [G,z];refine cu (yb _ A) (by lia))
  |(rename_i c d _ D
    let⟨A,G,U,_⟩:=S c (D▸bE);rw [G,z];refine cu (yb _ A) (by lia))
  |simp
set_option tactic.hygienic false
def DP{z:sB->At->Prop}{G M:List sB}{N S:List At}(T:cE z G N)(U:cE z M S):cE z (G++M) (N++S):=by
 induction T with
 |nil=>exact U
 |cons a c b=>exact .cons a b
abbrev DQ:a7:=top 47
inductive ri (m:aw) (p:au) (K:af) (D M:Z) (N:List V) (H:U) (S:VK) (T:XK):Prop
 |mk(P g t tab:_)(_:N=[.ref P,.ref t])(_:lQ K D M H P g)(_:TabAt m p K H t tab)(_:xb g tab)(_:∀z A,Ext H A->H z=O->jj K A z (fA g tab g.nodes.length)->S (.ref z) A)
def OE(a4:a9 K "ways_of" "ways_of" DQ Q o0)(k:rf K d q)(a5:L "len"=O)(bd:L "range"=O)(be:g_ 1 "standing_ways" ["program","label"] (Dr K d q))(bi:g_ 3 "ways_by_facts" ["program","label","table"] (DN m p K d q)):f_ 4 Q o0 ["program","table"] (ri m p K d q):=by
 refine a4.go ["program","table","ways","label"] λc3 c4 c5 c6 H c7 c8 c9 R bk W _ _=>?_;let⟨n,b,X,g,rfl,E,bl,e,bm⟩:=bk;have sz:(70000:Nat)<aU:=by decide
 exists _,ar (bj 2 W (de aC)) (ar (d3 dZ S (z9 S bd (A (cR el (by rfl) a5 dE (A (aF 0) aC)) aC)) (bX 3 W) (ar (cM (fe fu zf HB vZ (T 2) (A (gI be (R.mono (by decide)) cx (A (T 0) (aJ 3))) aC))) (ay (cM (fe fu zf HB vZ (T 2) (A (gI bi R cx (A (T 0) (A (T 3) (aJ 1)))) aC)))))) (ay (aQ (T 2)))),?_;let⟨bn,db,⟨bs,bt,bv,ca⟩,cd,ce⟩:=E.nodes;have ch:=bO ce
 exists cP _,λN o=>?_;have r:Ext H (upd H N (.lst [])):=Ext.one o
 exists _,S,n,d,bs,bt,_,S,r _ _ bv,k.c,k.nodes,ca,bn,_,S,.inl (av.of (r _ _ cd)),(b.nodes.length:Int),?_,?_,?_,?_
 .rw [z,ch]
 .have:=e.bL;lia
 .have:=e.bL;lia
 rw [uD];let ci:VLx:=λD s h=>∃t,A3 (s=[Y (.ref n),Y (.ref X),Y (.ref N),t]) (∃a,h N=Y (.lst (a.map V.ref))/\cE (da K h) a (fA b g D)/\a.length<=2002*D) (Ext H h)
 refine IM ci ?_ ?_ ?_
 .exact⟨O,S,⟨[],M,.nil,cP _⟩,r⟩
 .rintro D s h cl ⟨t,rfl,⟨a,l,u,cn⟩,G⟩;have dd:=e.bL
  obtain⟨i,f⟩:∃i,b.nodes[D]?=Y i:=⟨_,gd cl⟩
  have co:fA b g (D+1)=fA b g D++hG b D i.aK i.parts++iC b g D i.aK i.parts:=by
   unfold fA;rw [qe,k4];show _++(q0 b g D++[])=_
   unfold q0;rw [f,b0,ck]
  have cr:(0:Int)+(D:Int)=(D:Int):=by lia
  rw [cr];exists _,S,.inl ⟨S,_,av.of l⟩,_,S,_,S,n,b,D,i,S,E.ext G,f,e.full D i f,e.bound D i f,λab j v ad ⟨c,cs,al⟩=>?_;have dl:c.length<=2:=by rw [bO al];exact OC _ _ _ _
  have am:=v _ _ l;have dp:ab≠N:=by intro w;rw [w,l]at ad;cases ad
  exists N,ab,_,_,S,S,am,cs,by rw [z,z];lia,?_;have ct:(a.map V.ref++c.map V.ref)=(a++c).map V.ref:=by rw [aT]
  rw [ct];have an:cX (j N)\/j N=O:=.inl (by rw [am];exact trivial)
  have c0:cE (da K (upd j N (.lst ((a++c).map V.ref)))) (a++c) (fA b g D++hG b D i.aK i.parts):=DP (Paired.cb u λx y w=>da.upd an (da.ext v w)) (Paired.cb al λx y w=>da.upd an w);have ap:upd j N (.lst ((a++c).map V.ref)) N=Y (.lst ((a++c).map V.ref)):=M
  have B:Ext H (upd j N (.lst ((a++c).map V.ref))):=(G.trans v).upd o;generalize upd j N (.lst ((a++c).map V.ref))=ds at*;exists _,S,.inl ⟨S,_,av.of ap⟩,_,S,_,S,_,S,n,b,D,X,g,i,S,E.ext B,f,e.full D i f,bl.ext B,e.tab D i f,λc1 as C dx ⟨a0,c2,a1⟩=>?_;have dK:a0.length<=2000:=by rw [bO a1];exact OD e f
  have a2:=C _ _ ap;exists N,c1,_,_,S,S,a2,c2,by rw [z,z,br];lia,?_;have a3:cX (as N)\/as N=O:=.inl (by rw [a2];exact trivial)
  exists _,S,⟨a++c++a0,?_,?_,?_⟩,(B.trans C).upd o
  .rw [M,aT (l₁:=a++c)]
  .rw [co];exact DP (Paired.cb c0 λx y w=>da.upd a3 (da.ext C w)) (Paired.cb a1 λx y w=>da.upd a3 w)
  .rw [br,br];lia
 .rintro s h ⟨t,rfl,⟨a,l,u,cn⟩,G⟩;exists _,S,bm N h G o ⟨a,l,u⟩
variable{H:U}
def tM(N:∀z rc,z≠d->fK m p K H z rc->fK m p K r z rc)(S:fk m p K H pp P3):V.ref d∉pp.map (·.2.2)->fk m p K r pp P3:=by
 induction S with
 |nil=>exactλ_=>.nil
 | @cons x y pp P3 a e b=>
  intro G;rw [aZ,bg,pZ]at G;let⟨T,z,M,U⟩:=a;refine .cons ⟨T,z,M,N z _ (λc=>G.1 ?_) U⟩ (b G.2);rw [M,c]
def OF(a:∀D rc,D≠d->fK m p K H D rc->fK m p K r D rc)(f:fK m p K r d rc)(g:fk m p K H pp P3):(pp.map (·.2.2)).Nodup->(P3.map (·.1)).Nodup->cm pp (pk re)=Y (.ref d)->fk m p K r pp (dM P3 re rc):=by
 induction g with
 |nil=>intro _ _ z;cases z
 | @cons x y pp P3 h i j=>
  intro M U z;let⟨S,D,b,k⟩:=h;rw [aZ,ej]at M U;unfold cm at z;rw [gb]at z;show fk m p K r (x::pp) ((if y.1=re then(y.1,rc)else y)::dM P3 re rc)
  by_cases c:y.1=re
  .rw [cq (by rw [S,c])]at z;have e:=aS z
   rw [ai c,xm rc (c▸U.1)];exact .cons ⟨S,d,e,f⟩ (tM a i (e▸M.1))
  .rw [bU (by rw [S];exactλT=>c (lP T))]at z;rw [N c];have n:V.ref d∈pp.map (·.2.2):=by
    let⟨T,l,A⟩:=cv.mp z;rw [<-A];exact dY (fq l)
   refine .cons ⟨S,D,b,a D _ (λT=>M.1 ?_) k⟩ (j M.2 U.2 z);rwa [b,T]
def yc{K:af}{xs:List V}{H:U}(A:Nat->L2.St->U->Prop)(n:A 0 s3 H)(o:∀i s3 H,i<=xs.length->A i s3 H->av K H d xs)(p:∀i a s3 H M,xs[i]?=Y a->A i s3 H->H M=O->FM (.ref M) s3 (upd H M (.tup [.int (i:Nat),a])) λb c=>IN (Ev.lp (A (i+1))) b c) (q:∀s3 H,A xs.length s3 H->Ev.nx s3 H):∃z:Nat->Nat->L2.St->U->Prop,(∃D,z 0 D s3 H)/\∀i D s3 H,z i D s3 H->((lx K d).stop i H/\Ev.nx s3 H)\/((lx K d).go i H/\∃k:L2.St->U->Prop,(∀e G,k e G->∃l,l<D/\z (i+1) l e G)/\∀v G,(lx K d).hc i H v G->FM v s3 G λb c=>IN (Ev.lp k) b c):=by
 exists λi D s3 H=>D=xs.length-i/\i<=xs.length/\A i s3 H,⟨xs.length,by simp,cP _,n⟩,?_;rintro i D s3 H ⟨rfl,r,f⟩;have g:=o i s3 H r f
 by_cases m:i<xs.length
 .refine .inr ⟨⟨xs,_,g,gd m⟩,A (i+1),λe G s=>⟨xs.length-(i+1),by lia,S,m,s⟩,λv G y=>?_⟩;let⟨M,a,rfl,t,rfl,u⟩:=y;exact p i a s3 H M (u xs g) f t
 .have w:i=xs.length:=by lia
  subst w;exact .inl ⟨⟨xs,g,aR _⟩,q s3 H f⟩
def OG{K:af}{xs:List V}{o:TT}(z:Nat->U->Prop)(u:z 0 (upd r d (.lst [])))(w:∀i H,i<=xs.length->z i H->av K H q xs)(x:∀i A H b,xs[i]?=Y A->z i H->H b=O->FM (.ref b) (wipe s3 ww) (upd H b (.tup [.int (i:Nat),A])) λD g=>wipe D ww=wipe s3 ww/\o D g λh c=>if h=I then ss D c λy T=>∃G,T d=Y (.lst G)/\G.length<aU/\z (i+1) (upd T d (.lst (G++[y])))else z (i+1) c) (B:∀H,z xs.length H->TD H):∃j:Nat->Nat->U->Prop,(∃M,j 0 M (upd r d (.lst [])))/\∀i M H,j i M H->((lx K q).stop i H/\TD H)\/((lx K q).go i H/\∃k:U->Prop,(∀N,k N->∃s,s<M/\j (i+1) s N)/\∀A N,(lx K q).hc i H A N->FM A (wipe s3 ww) N λD g=>wipe D ww=wipe s3 ww/\o D g λh c=>if h=I then ss D c λy T=>∃G,T d=Y (.lst G)/\G.length<aU/\k (upd T d (.lst (G++[y])))else k c):=by
 exists λi M H=>M=xs.length-i/\i<=xs.length/\z i H,⟨xs.length,by simp,cP _,u⟩,?_;rintro i M H ⟨rfl,C,l⟩;have m:=w i H C l
 by_cases t:i<xs.length
 .refine .inr ⟨⟨xs,_,m,gd t⟩,z (i+1),λN E=>⟨xs.length-(i+1),by cutsat,S,t,E⟩,λv N y=>?_⟩;let⟨b,A,rfl,F,rfl,L⟩:=y;exact x i A H b (L xs m) l F
 .have P:i=xs.length:=by cutsat
  subst P;exact .inl ⟨⟨xs,m,aR _⟩,B H l⟩
def DR(K:af)(z:h.K=K:=by rfl):eD h (fD .In) (vT K ao):=by subst z;exact vU
variable{tz:List a8}
def OH(K:af){z:mq}{n:Nat}(D:h.calm=I)(G:qo h tz z)(M:h.K=K:=by rfl)(N:(pP tz h.env).length=n:=by rfl) (T:(pP tz h.env).findIdx? (·.1)=O:=by rfl):PG h (.Tuple tz B pu) (z7 K n z):=by subst M;exact lj D G N T
def DS(K:af)(z:h.A.units+64<cK)(A:h.K=K:=by rfl):eD h (fD .Eq) (v3 K):=by subst A;exact v5 z
theorem tN(z:Fm):∀M:List Fm,jE (.str (cO z)) (M.map λA=>V.str (cO A))=decide (z∈M)
 |[]=>rfl
 |A::a=>by
  show(jD (.str (cO A)) (.str (cO z))||jE (.str (cO z)) (a.map λA=>V.str (cO A)))=_;rw [tN z a];show((cO A==cO z)||_)=_
  by_cases c:A=z
  .subst c;simp
  .have N:(cO A==cO z)=ao:=iK.mpr λD=>c (Dn A z D);rw [N,zk,hb];exists λG=>bC _ G,λG=>(bg.mp G).resolve_left λD=>c D.symm
abbrev DT:a7:=top 39
def jR(A:Z)(H:U)(D:Z)(M:List Info):Prop:=∃z,H D=Y (.lst (z.map V.ref))/\cE (kK A H) z M
def jR.ext{H:U}(N:Ext H r)(S:jR d H q wT):jR d r q wT:=by let⟨T,a,b⟩:=S;exists T,N _ _ a,Paired.cb b λ_ _ c=>c.ext N
def OI{c:Fm->Bool}{i:Info}(M:wT[B]?=Y i):((eX (B+1)).filter λD=>((wT[D]?).map λi=>c i.aK).getD ao)=((eX B).filter λD=>((wT[D]?).map λi=>c i.aK).getD ao)++(if c i.aK=I then [B]else []):=by rw [qe,nT];congr 1;rw [ig,M];rfl
inductive rj (K:af) (D:Z) (M:List V) (H:U) (N:VK) (b:XK):Prop
 |mk(ln ns a:_)(fs:List Fm)(_:M=[.ref ln,.ref a])(_:jR D H ln ns)(_:ns.length<=30)(_:ax K H a (fs.map λS=>V.str (cO S)))(_:∀z A,Ext H A->H z=O->A z=Y (.lst ((cz ns λT=>decide (T∈fs)).map λx=>V.int (x:Nat)))->N (.ref z) A)
theorem DU:∀z:List Fm,(z.map λA=>V.str (cO A)).all jC=I
 |[]=>rfl
 |_::a=>DU a
def OJ(W:a9 K "labels_of" "labels_of" DT d o0)(X:fc K q)(ab:dF K q "form")(ad:L "enumerate"=O):f_ 1 d o0 ["nodes","forms"] (rj K q):=by
 refine W.go ["nodes","forms","label","node"] λbi bk bl h H bm bn bs bt al j _ sz=>?_;let⟨am,t,an,a,rfl,⟨u,v,x⟩,bv,ap,as⟩:=al;exists _,ay (aQ (fS (own:=[("label",2),("node",3)]) S j (sD S ad (aJ 0)) (e2 S) (λh H y B C=>OH (n:=2) K S (gT (bX 2 j) (gT (bX 3 j) lh))) (λh H y B C=>kv (bS (DR K) (xI K (T 3) S) (T 1) S)) (λh H y B C=>T 2))),?_;dsimp;exists _,S,am,_,S,av.of v,λk l=>?_;let E:VCx:=λi A=>A k=Y (.lst (((eX i).filter λs=>((t[s]?).map λi=>decide (i.aK∈a)).getD ao).map λF=>V.int (F:Nat)))/\Ext H A
 refine OG (xs:=u.map V.ref) E ?_ ?_ ?_ ?_
 .exact⟨M,Ext.one l⟩
 .rintro i A _ ⟨_,b⟩;exact av.of (b _ _ v)
 .rintro i F A e f ⟨D,b⟩ G;rw [bh]at f;cases w:u[i]? with
  |none=>rw [w]at f;cases f
  |some c=>
   rw [w]at f;obtain rfl:=aS f;let⟨a0,Q,a1⟩:=eA x w;have R:k≠e:=by intro a2;rw [a2]at D;rw [D]at G;cases G
   have g:=b.new (o:=.tup [.int (i:Nat),.ref c]) G;have ca:=(cF.mp Q).1
   let⟨a3,a4,a5,bd⟩:=(a1.ext g).aK;exists e,_,S,ax.of M,S,_,_,S,_,_,S,S,?_;exists S,_,S,c,q,a3,a4,_,S,a5,X,ab,bd,_,S,an,_,S,.inr (g.aP ap),S,DU a,_,S,?_;dsimp only [E];rw [OI (c:=λd=>decide (d∈a)) Q];have be:=tN a0.aK a
   rw [N d5,be];refine ec (λr=>?_) (λr=>?_)
   .rw [ai r];exists _,S,_,by rwa [ah R],?_,?_,g.upd l
    .rw [z];have:=iX (λs=>((t[s]?).map λi=>decide (i.aK∈a)).getD ao) (eX i)
     rw [qj]at this
     lia
    .rw [M,aT];rfl
   .rw [N r,b0];exists ah R▸D,g
 .rintro A ⟨D,b⟩;rw [z,bO x]at D;exact as k A b l D
abbrev DV:a7:=top 40
abbrev DW:a7:=top 41
abbrev DX:a7:=top 42
abbrev DY:a7:=top 43
structure tO(ns:List Info):Prop where
 up:∀(z:Nat) (i:Info),ns[z]?=Y i->∀o,i.parent=Y o->o<z/\∃A,ns[o]?=Y A/\A.parts≠[]
def fL(A:List Info)(z:Nat):Option Nat:=match A[z]? with
 |some i=>up A i.word (z+1) z i.parent
 |none=>O
theorem DZ(T:tO wT)(M:aj):∀(A D z:Nat) (N:Option Nat),z<A->z<D->(∀o,N=Y o->o<z)->up wT M A z N=up wT M D z N
 |0,_,_,_,a,_,_=>absurd a (k8 _)
 |_+1,0,_,_,_,a,_=>absurd a (k8 _)
 |A+1,D+1,z,O,_,_,_=>rfl
 |A+1,D+1,z,Y o,e,f,b=>by
  have g:=b o S;simp only [up];cases c:wT[o]? with
  |none=>rfl
  |some i=>
   dsimp only;split
   .rfl
   .exact DZ T M A D o i.parent (by cutsat) (by cutsat) λU d=>(T.up o i c U d).1
inductive D0 (z A:Z) (D:List V) (H:U) (M:VK) (N:XK):Prop
 |mk(ln ns l i:_)(_:D=[.ref ln,.int (l:Nat)])(_:jR z H ln ns)(_:tO ns)(_:ns[l]?=some i)(_:match fL ns l with|none=>N (.ref A) none H|some b=>M (.int (b:Nat)) H)
def OK{v:Z}(bl:a9 K "binder_of" "binder_of" DW q o0)(b:pe K d)(bm:L "NoProgram"=Y (.ref v))(bn:gP K v fU "Exception.__new__"=I):k_ 1 q o0 ["nodes","label"] (D0 d v):=by
 refine bl.ew ["nodes","label","inner","outer"] λdd dl dp ds H dx dK dL bs x l _ _=>?_;let⟨e,D,a,i,rfl,⟨al,g,am⟩,G,y,n⟩:=x;exists _,ar (bj 2 l (T 1)) (ar (bj 3 l (fP (cc dk (T 0) (T 1) (λ_ _=>S)) S)) (ar (oe z0 (i0 (H3 (T 3)) S) (ar (bK (PW.pt (vv (bS cT (fP (cc dk (T 0) (T 3) (λ_ _=>S)) S) (fP (cc dk (T 0) (T 1) (λ_ _=>S)) S) (bV _)) (vt (bS cT (cc dk (fP (cc dk (T 0) (T 3) (λ_ _=>S)) S) (vD vG cL) (λ_ _=>S)) (T 2) (bV _))))) (ay (aQ (T 3))) bQ) (ar (bj 2 l (T 3)) (ay (bj 3 l (fP (cc dk (T 0) (T 3) (λ_ _=>S)) S)))))) (ay (jH j8 (by decide) bn S bm bs.hd)))),?_;let⟨B,an,ap⟩:=ng am y;let⟨bt,bv,ca,cd⟩:=ap.parent;let⟨ce,ch,ci,cl⟩:=ap.word;exists _,S,_,S,_,S,e,_,_,_,S,S,av.of g,e1 (by rw [bh,an];rfl),B,d,bt,bv,_,S,ca,b.cl,b.parent,cd,?_;let cn:VLx:=λw as ab=>ab=H/\∃A,as=[Y (.ref e),Y (.int (a:Nat)),Y (.int (w:Nat)),Y (nf A)]/\(∀o,A=Y o->o<w/\∃z,D[o]?=Y z/\z.parts≠[])/\up D i.word (w+1) w A=fL D a
 exists cn,⟨a,S,i.parent,S,λo co=>G.up a i y o co,?_⟩,?_
 .unfold fL;rw [y]
 rintro w as ab ⟨rfl,A,rfl,cr,C⟩;exists _,S,_,S,?_;cases A with
 |none=>
  refine b1 ?_;have E:fL D a=O:=by rw [<-C];rfl
  rw [E]at n;exact n
 |some o=>
  refine cf ?_;let⟨a0,z,ad,cs⟩:=cr o S;let⟨j,ct,f⟩:=ng am ad;let⟨c0,c1,c2,c3⟩:=f.word;let⟨c4,⟨c5,c6,c7,c8⟩,c9⟩:=f.parts;let⟨a1,a2,a3,a4⟩:=f.parent;obtain⟨a5,r,bd⟩:∃a5 r,z.parts=a5++[r]:=⟨_,_,(List.dropLast_concat_getLast cs).symm⟩
  have be:up D i.word (w+1) w (Y o)=if z.word=i.word/\z.parts.getLast?=Y w then Y o else up D i.word w o z.parent:=by simp only [up,ad]
  have s:(al.map V.ref)[o]?=Y (.ref j):=by rw [bh,ct];rfl
  have db:(al.map V.ref)[a]?=Y (.ref B):=by rw [bh,an];rfl
  have next:(∀Q R,(R=ab/\∃A,Q=[Y (.ref e),Y (.int (a:Nat)),Y (.int (o:Nat)),Y (nf A)]/\(∀M,A=Y M->M<o/\∃z,D[M]?=Y z/\z.parts≠[])/\up D i.word (o+1) o A=fL D a)->∃k,k<w/\R=ab/\∃A,Q=[Y (.ref e),Y (.int (a:Nat)),Y (.int (k:Nat)),Y (nf A)]/\(∀M,A=Y M->M<k/\∃z,D[M]?=Y z/\z.parts≠[])/\up D i.word (k+1) k A=fL D a):=λQ R x=>⟨o,a0,x⟩
  exists _,next,?_;exists _,S,_,S,e,_,_,_,S,S,av.of g,e1 s,j,d,c0,c1,_,S,c2,b.cl,b.word,c3,_,S,_,S,e,_,_,_,S,S,av.of g,e1 db,B,d,ce,ch,_,S,ci,b.cl,b.word,cl,S,_,S,?_;rw [xS];have bi:¬(z.word=i.word/\z.parts.getLast?=Y w)->∃A,[Y (V.ref e),Y (V.int (a:Nat)),Y (V.int (o:Nat)),Y (nf z.parent)]=[Y (V.ref e),Y (V.int (a:Nat)),Y (V.int (o:Nat)),Y (nf A)]/\(∀M,A=Y M->M<o/\∃z,D[M]?=Y z/\z.parts≠[])/\up D i.word (o+1) o A=fL D a:=λc=>by exists z.parent,S,λM X=>G.up o z ad M X,?_;rw [<-C,be,N c];exact DZ G _ _ _ _ _ (by lia) a0 λM X=>(G.up o z ad M X).1
  by_cases t:z.word=i.word
  .rw [cq t];refine cf ⟨_,S,_,S,e,_,_,_,S,S,av.of g,e1 s,j,d,c5,c6,_,S,c7,b.cl,b.parts,c8,_,S,c4,_,_,_,S,S,av.of c9,by rw [bd,aT];exact vS _ _,_,S,S,_,S,?_⟩;have bk:z.parts.getLast?=Y r:=by rw [bd];simp
   by_cases u:r=w
   .rw [cq (by rw [u])];have E:fL D a=Y o:=by rw [<-C,be,ai ⟨t,by rw [bk,u]⟩]
    rw [E]at n;exact cf ⟨_,S,n⟩
   .rw [bU λh=>u (by injection h with h;lia)];refine b1 ⟨_,S,_,S,_,S,e,_,_,_,S,S,av.of g,e1 s,j,d,a1,a2,_,S,a3,b.cl,b.parent,a4,S,bi λh=>u ?_⟩;have:=h.2
    rw [bk]at this;exact aS this
  .rw [bU t];exact b1 (b1 ⟨_,S,_,S,_,S,e,_,_,_,S,S,av.of g,e1 s,j,d,a1,a2,_,S,a3,b.cl,b.parent,a4,S,bi λh=>t h.1⟩)
def OL[DecidableEq sB]{A:List (sB×V)}{D:sB}{v:V}(G:cU A D=O):putK A D v=A++[(D,v)]:=by unfold putK;rw [ou,G];rfl
abbrev fM(z:List Info):List Nat:=cz z λA=>decide (A∈[Fm.used])
def bindL(A:List Info)(D:List Nat):List (Nat×Nat):=D.map λz=>(z,(fL A z).getD 0)
inductive D1 (D M:Z) (N:List V) (H:U) (S:VK) (T:XK):Prop
 |mk(ln ns:_)(_:N=[.ref ln])(_:jR D H ln ns)(_:ns.length<=30)(_:tO ns)(_:((∃A∈fM ns,fL ns A=O)->∀z,Ext H z->T (.ref M) O z))(_:((∀A∈fM ns,(fL ns A).isSome=I)->∀z d,Ext H z->H d=O->z d=Y (.dK ((bindL ns (fM ns)).map λx=>(.inl (x.1:Int),.int (x.2:Nat))))->S (.ref d) z))
theorem OM{c:Fm->Bool}(D:B∈cz wT c):B<wT.length:=lY.mp (dz.mp D).1
theorem ON(z:List Info)(c:Fm->Bool):(cz z c).Nodup:=Hj Hk Hd
def nr(z:List Info)(c:Fm->Bool):(cz z c).length<=z.length:=by have:=iX (λA=>((z[A]?).map λi=>c i.aK).getD ao) (eX z.length);rwa [qj]at this
def OO(a5:a9 K "binders_of" "binders_of" DV d o0)(be:L "USED_NAME"=Y (.str "a name" wS))(bi:g_ 1 "labels_of" ["nodes","forms"] (rj K q)) (bk:q_ 1 "binder_of" ["nodes","label"] (D0 q Q)):k_ 2 d o0 ["nodes"] (D1 q Q):=by
 refine a5.ew ["nodes","binders","label"] λcl cn co cr H cs ct c0 W f X bl sz=>?_;let⟨t,D,rfl,ab,c,bm,bn,bs⟩:=f;exists _,ar (bj 1 X wk) (ar (d3 z0 S (dC (bI bi W (A (T 0) (A (b6 (A (hl be) aC)) aC)))) (bX 2 X) (ay (sC bl (T 1) (T 2) (gI bk W dw (A (T 0) (aJ 2))) S))) (ay (aQ (T 1)))),?_;intro l x;have bt:Ext H (upd H l (.dK [])):=Ext.one x
 exists _,S,eN,λad B=>?_;have al:=bt.new (o:=.tup [.str "a name"]) B
 have am:l≠ad:=by intro G;rw [<-G,M]at B;cases B
 exists t,D,ad,[.used],S,ab.ext al,c,ax.of M,λC c1 an ap as=>?_;have bv:=an _ _ (by rw [ah am,M])
 exists C,S,⟨_,av.of as⟩,?_;have ca:C≠l:=by intro G;rw [G,ah am,M]at ap;cases ap
 let cd:VLx:=λa n b=>∃E,A5 (n=[Y (.ref t),Y (.ref l),E]) (b l=Y (.dK ((bindL D ((fM D).take a)).map λN=>(.inl (N.1:Int),.int (N.2:Nat))))) (Ext H b) (b C=Y (.lst ((fM D).map λN=>V.int (N:Nat)))) (∀s∈(fM D).take a,(fL D s).isSome=I);refine fw (xs:=(fM D).map λN=>V.int (N:Nat)) cd ?_ ?_ ?_ ?_
 .exact⟨O,S,bv,al.trans an,as,λs f=>nomatch f⟩
 .rintro a n b _ ⟨_,_,_,_,f,_⟩;exact av.of f
 .rintro a N n b g ⟨E,rfl,R,h,a0,r⟩;rw [bh]at g;cases j:(fM D)[a]? with
  |none=>rw [j]at g;cases g
  |some u=>
   rw [j]at g;obtain rfl:=aS g;have a1:=cG j
   obtain⟨i,ce⟩:∃i,D[u]?=Y i:=⟨_,gd (OM a1)⟩
   exists _,S,_,S,t,D,u,i,S,ab.ext h,bm,ce,?_;cases F:fL D u with
   |none=>exact bn ⟨u,a1,F⟩ b h
   |some c2=>
    have w:(fM D).take (a+1)=(fM D).take a++[u]:=by rw [dq,j];rfl
    have c3:=(cF.mp j).1;have c4:(fM D).length<=D.length:=nr D _
    exists _,S,_,S,l,_,S,mx.k (k:=.inl (u:Int)) R (by rw [z];unfold bindL;rw [z,dU];lia),_,S,?_,h.upd x,ah ca▸a0,?_
    .rw [M];have ch:cU ((bindL D ((fM D).take a)).map λN=>((.inl (N.1:Int):Key),V.int (N.2:Nat))) (.inl (u:Int))=O:=by
      unfold cU;rw [Tt,nN];intro G ci;let⟨y,a2,rfl⟩:=bH.mp ci;unfold bindL at a2;let⟨v,a3,rfl⟩:=bH.mp a2;rw [nY];intro e;injection e with e;have e:v=u:=by have e:=e;lia
      rw [e]at a3;have a4:(fM D).Nodup:=ON D λd=>decide (d∈[Fm.used])
      rw [<-vk (a+1) (fM D),w]at a4;exact(gC.mp (gC.mp a4).1).2.2 u a3 u (bb.mpr S) S
     rw [OL ch,w];unfold bindL;rw [aT,aT];show _=Y (HO.dK (_++[(nB (u:Int),V.int (((fL D u).getD 0:Nat):Int))]))
     rw [F];rfl
    .rw [w];intro s c;rcases bR.mp c with c|c
     .exact r s c
     .rw [bb.mp c,F];rfl
 .rintro n b ⟨E,rfl,R,h,a0,r⟩;rw [z,dB]at R r;exists _,S,bs r b l h x R
def lT:List (Key×V):=[(.inr "fun",.int 1),(.inr "pair",.int 2),(.inr "new",.int 3)]
def tP(z:Fm):cU lT (.inr (cO z))=(iE z).map λA=>V.int (A:Nat):=by cases z<;>decide+kernel
def pw(A:List Info)(D:Nat):List Pr:=(0,0)::(eX D).filterMap λz=>((A[z]?).bind λi=>iE i.aK).map λM=>(M,z)
def OP{i:Info}(D:wT[B]?=Y i):pw wT (B+1)=pw wT B++((iE i.aK).map λM=>(M,B)).toList:=by unfold pw;rw [qe,vh,dg];congr 2;simp only [kR,zU,D,gg];cases iE i.aK<;>rfl
def OQ(A:List Info)(z:Nat):(pw A z).length<=z+1:=by
 unfold pw;rw [dn];have:=iU (λD=>((A[D]?).bind λi=>iE i.aK).map λM=>((M,D):Pr)) (eX z)
 rw [qj]at this
 lia
inductive D2 (K:af) (D:Z) (M:List V) (H:U) (N:VK) (S:XK):Prop
 |mk(ln ns:_)(_:M=[.ref ln])(_:jR D H ln ns)(_:ns.length<=30)(_:∀z A,Ext H A->H z=O->LstAt K A z (xu ns)->N (.ref z) A)
def OR{i:Z}(bi:a9 K "sorts_of" "sorts_of" DX Q o0)(j:pe K i)(bk:L "enumerate"=O)(bl:L "NUMBERS"=Y (.ref q))(bm:∀H,ax K H q (b4 (0,0)))(W:L "KIND_OF_MAKER"=Y (.ref d))(X:KD K m p d lT):f_ 1 Q o0 ["nodes"] (D2 K i):=by
 refine bi.go ["nodes","sorts","label","node"] λce ch ci cl H cn co cr cs r s _ sz=>?_;let⟨ab,ad,rfl,⟨al,am,an⟩,ct,bn⟩:=r;exists _,ar (bj 1 s (de (A (ek (v:=.ref q) S bl S) aC))) (ar (d3 dZ S (sD S bk (aJ 0)) (lj S (gT (bX 2 s) (gT (bX 3 s) lh))) (ay (bK (i0 (wC (aF 3) (ek (v:=.ref d) S W S)) S) (ay (cM (fe fu f9 gF fQ (T 1) (A (b6 (A (wB (ek (v:=.ref d) S W S) (aF 3) (λ_ _=>S)) (aJ 2))) aC)))) bQ))) (ay (aQ (T 1)))),?_;exists eN,λN t=>?_;have ap:Ext H (upd H N (.lst [.ref q])):=Ext.one t
 exists _,S,ab,_,S,av.of (ap _ _ am),?_;let as:VLx:=λD k a=>X2 λu x=>A3 (k=[Y (.ref ab),Y (.ref N),u,x]) (∃b,a N=Y (.lst (b.map V.ref))/\fJ K a b (pw ad D)) (Ext H a)
 refine yc (xs:=al.map V.ref) as ?_ ?_ ?_ ?_
 .exact⟨O,O,S,⟨[q],M,.cons (bm _) .nil⟩,ap⟩
 .rintro D k a _ ⟨_,_,_,_,r⟩;exact av.of (r _ _ am)
 .rintro D c0 k a l f ⟨u,x,rfl,⟨b,g,G⟩,y⟩ n;rw [bh]at f;cases B:al[D]? with
  |none=>rw [B]at f;cases f
  |some c=>
   rw [B]at f;obtain rfl:=aS f;let⟨C,a0,bs⟩:=eA an B;have c1:=(cF.mp a0).1
   have E:=y.new (o:=.tup [.int (D:Nat),.ref c]) n;let⟨a1,a2,a3,a4⟩:=(bs.ext E).aK;have bt:N≠l:=by intro h;rw [h]at g;rw [g]at n;cases n
   have R:upd a l (.tup [.int (D:Nat),.ref c]) N=Y (.lst (b.map V.ref)):=ah bt▸g;have a5:=fJ.ext (Ext.one (o:=.tup [.int (D:Nat),.ref c]) n) G
   exists l,_,S,ax.of M,S,_,_,S,_,_,S,S,?_;generalize upd a l (.tup [.int (D:Nat),.ref c])=bv at*;exists _,S,c,i,a1,a2,_,S,a3,j.cl,j.aK,a4,d,_,S,⟨lT,.inr (cO C.aK),X,S,S⟩,_,S,?_;dsimp only [as];rw [tP,kU,OP a0];cases ca:iE C.aK with
   |none=>
    refine b1 ⟨_,_,S,⟨b,R,?_⟩,E⟩;rwa [Option.map_none,Option.toList_none,b0]
   |some cd=>
    have c2:b.length<=D+1:=bO a5▸OQ ad D;refine cf ⟨_,S,.inl ⟨S,_,av.of R⟩,_,S,c,i,a1,a2,_,S,a3,j.cl,j.aK,a4,d,_,S,⟨lT,.inr (cO C.aK),X,S,by rw [tP,ca];rfl⟩,_,S,cD,λe w=>?_⟩;have bd:N≠e:=by intro h;rw [<-h,R]at w;cases w
    exists N,_,_,S,S,by rwa [ah bd],by rw [z];lia,_,_,S,⟨b++[e],?_,?_⟩,(E.new w).upd t
    .rw [M,aT];rfl
    .have be:cX (upd bv e (.tup [.int (cd:Nat),.int (D:Nat)]) N):=by rw [ah bd,R];exact trivial
     exact fY (Paired.cb a5 λc3 c4 h=>bF (.inl be) (bF (.inr w) h)) (bF (.inl be) (ax.of M))
 .rintro k a ⟨u,x,rfl,⟨b,g,G⟩,y⟩;rw [z,bO an]at G;exists _,S,bn N a y t ⟨b,av.of g,G⟩
def yd(G:aW 0 l=l)(M:py∈aG l):∃N,(infos O l)[ag py]?=Y (cZ N py):=by
 have D:=sU G;rcases xc M with rfl|⟨y,a,b⟩
 .exact⟨O,D.top⟩
 .exact⟨_,D.o1 y a py b⟩
def OS:∀(M:Nat) (z:ae),gf z<=M->∀D,bJ z=cj D (size z)->∀G∈aG z,bJ G=cj (ag G) (size G):=by
 intro M;induction M with
 |zero=>intro z e;cases z<;>simp at e
 |succ M b=>
  intro z e D h G N;let⟨i,T⟩:=kB h;rw [gn]at N;rcases bg.mp N with rfl|N
  .rwa [i]
  .obtain⟨U,c,j⟩:=di.mp N;let⟨A,f,g⟩:=Hq c;rw [g,k4,b3,aT,vd,aZ,eC]at T;have k:(A.flatMap bJ).length=(A.map size).sum:=by
    clear g T c;induction A with
    |nil=>rfl
    |cons a m b=>rw [b3,br,gX,b];rfl
   have l:cj (D+1) ((A.map size).sum+(size U+(f.map size).sum))=cj (D+1) (A.map size).sum++(cj (D+1+(A.map size).sum) (size U)++cj (D+1+(A.map size).sum+size U) (f.map size).sum):=by rw [kc,kc]
   rw [l]at T;let⟨n,d⟩:=mc T (by rw [k,qc]);let⟨d,o⟩:=mc d (by rw [gX,qc]);exact b U (by have:=h3 c;lia) _ d G j
def D3(A:aW 0 l=l):bJ l=cj 0 (size l):=by have:=lF l 0;rw [A]at this;exact this
theorem mS(A:aW 0 l=l):e5 l:=⟨by rw [gX,zK];exact D3 A⟩
def OT{y:ae}(D:aW 0 l=l)(G:y∈aG l)(M:py∈kids y):ag y<ag py:=by
 let⟨_,N⟩:=kB (OS _ l (aR _) 0 (D3 D) y G);have:ag py∈(kids y).flatMap bJ:=di.mpr ⟨py,M,by rw [dI];exact bE⟩
 rw [N,ve]at this
 lia
def D4(M:aW 0 l=l){i:Info}(N:(infos O l)[B]?=Y i):∃A∈aG l,ag A=B/\∃G,i=cZ G A:=by
 have b:B<size l:=by have:=(cF.mp N).1;rwa [eT]at this
 obtain⟨A,S⟩:∃A,(aG l)[B]?=Y A:=⟨_,gd b⟩
 have T:=cG S;have U:=(mS M).at S
 let⟨G,a⟩:=yd M T;rw [U,N]at a;exists A,T,U,G,aS a
def OU(z:aW 0 l=l):tO (infos O l):=by
 exists λf i D o M=>?_;let⟨c,d,G,g,rfl⟩:=D4 z D;have N:=sU z
 rcases xc d with rfl|⟨y,b,a⟩
 .have:=N.top;rw [G,D]at this;have:=bD Info.parent (aS this)
  rw [M]at this;cases this
 .have:=N.o1 y b c a;rw [G,D]at this;have T:=bD Info.parent (aS this)
  rw [M]at T;obtain rfl:=aS T;let⟨h,e⟩:=yd z b;exists G▸OT z b a,_,e,?_;show(kids y).map ag≠[]
  intro U;rw [List.map_eq_nil_iff]at U;rw [U]at a;cases a
def ye(e:aW 0 l=l)(U:bo l=I)(G:hV B Do∈aG l)(f:Do≠du):fL (infos O l) B=g7 l B:=by
 let⟨T,g,h⟩:=My e U G;unfold fL;rw [g];have hw:(cZ T (.var B Do)).word=Do:=N f
 show up (infos O l) (cZ T (.var B Do)).word (B+1) B (cZ T (.var B Do)).parent=_;rw [hw];refine h (B+1) (pU B) λi=>?_;have j:bo (.var B Do)=I:=by
  have:∀(M:Nat) (l:ae),gf l<=M->bo l=I->∀Do∈aG l,bo Do=I:=by
   intro M;induction M with
   |zero=>intro l a;cases l<;>simp at a
   |succ M k=>
    intro l a b Do G;rw [gn]at G;rcases bg.mp G with rfl|G
    .exact b
    .obtain⟨c,d,z⟩:=di.mp G;exact k c (by have:=h3 d;cutsat) (((mH l).mp b).2 c d) Do z
  exact this _ l (aR _) U _ G
 subst i;exact absurd (show gD []=I from j) (by decide)
def D5(b:aW 0 l=l):B∈fM (infos O l)↔∃z,hV B z∈aG l/\z≠du:=by
 unfold fM cz;rw [dz,lY];constructor
 .rintro⟨e,G⟩;obtain⟨i,c⟩:∃i,(infos O l)[B]?=Y i:=⟨_,gd e⟩
  rw [c]at G;let⟨z,T,U,d,rfl⟩:=D4 b c;have G:=G
  have a:aB z=.used:=bb.mp (d6 G);cases z with
  |var h y=>
   have U:=U;subst U;exact⟨y,T,λf=>by rw [aB,ai f]at a;cases a⟩
  |_=>cases a
 .rintro⟨z,T,g⟩;let⟨d,M⟩:=yd b T;have M:(infos O l)[B]?=Y (cZ d (.var B z)):=M
  exists (cF.mp M).1,?_;rw [M];show decide (aB (.var B z)∈[Fm.used])=I
  rw [aB,N g];rfl
def OV(D:hH (bY [] (sw.map norm))=O):hT sw=O:=by
 cases a:hT sw with
 |none=>rfl
 |some b=>
  let⟨G,M⟩:=qP.mp a;have z:=q1 G
  have:=Cw.mpr ⟨b,z.told,M,z.bL,z.deep,z.mS,S,S⟩;rw [D]at this;cases this
def OW(M:bo l=I)(A:aW 0 l=l)(b:∃D∈fM (infos O l),fL (infos O l) D=O):hT (bq l)=O:=by
 cases c:hT (bq l)with
 |none=>rfl
 |some h=>
  let⟨d,e⟩:=qP.mp c;have G:=q1 d
  have N:=wQ G.told M e;rw [G.mS,A]at N;subst N;let⟨D,f,T⟩:=b;let⟨g,U,a⟩:=(D5 A).mp f;rw [ye A M U a]at T;have:=(G.bound D g U).resolve_left a
  rw [T]at this;cases this
def OX(U:bo l=I)(M:aW 0 l=l)(f:size l<=30)(g:dH l<=8)(h:∀z∈fM (infos O l),(fL (infos O l) z).isSome=I):hT (bq l)=Y l/\bG l/\bindL (infos O l) (fM (infos O l))=mQ l:=by
 have b:=Ce.mpr ⟨U,M,f,g,λz D T=>by
  by_cases G:D=du
  .exact .inl G
  .refine .inr ?_;rw [<-ye M U T G];exact h z ((D5 M).mpr ⟨D,T,G⟩)⟩
 have a:=q1 b;exists qP.mpr ⟨b,S⟩,a,?_;unfold bindL fM mQ;rw [mX a];have i:∀z:List ae,(∀D∈z,D∈aG l)->((z.filter λD=>decide (aB D∈[Fm.used])).map ag).map (λz=>(z,(fL (infos O l) z).getD 0))=z.filterMap λD=>match D with
   |.var z y=>if y=du then O else(g7 l z).map λc=>(z,c)
   |_=>O:=by
  intro z;induction z with
  |nil=>intro _;rfl
  |cons D A j=>
   intro d;rw [ig,kR,<-j λy k=>d y (bC _ k)];cases D with
   |var z y=>
    by_cases G:y=du
    .have:decide (aB (.var z y)∈[Fm.used])=ao:=by rw [aB,ai G];rfl
     rw [this];dsimp only;rw [ai G];rfl
    .have:decide (aB (.var z y)∈[Fm.used])=I:=by rw [aB,N G];rfl
     rw [this];dsimp only;rw [N G];have T:=d _ bE
     let⟨c,e⟩:=rA.mp ((a.bound z y T).resolve_left G);rw [ai S,e,aZ,aZ];show(z,(fL (infos O l) z).getD 0)::_=_
     rw [ye M U T G,e];rfl
   |_=>rfl
 exact i _ λ_ M=>M
def eO(K:af)(H:U)(A:Z)(D:List Pr):Prop:=∃z,H A=Y (.lst (z.map V.ref))/\fJ K H z D
theorem eO.lst{K:af}{H:U}(D:eO K H d rc):LstAt K H d rc:=let⟨G,M,N⟩:=D;⟨G,av.of M,N⟩
theorem eO.ext{K:af}{H:U}(G:Ext H r)(M:eO K H d rc):eO K r d rc:=let⟨N,S,T⟩:=M;⟨N,G _ _ S,fJ.ext G T⟩
def eO.push{H:U}{k l:Nat}(b:H q=Y (.lst (v2.map V.ref)))(e:fJ K H v2 rc)(N:H d=O):upd H d (.tup [.int (k:Nat),.int (l:Nat)]) q=Y (.lst (v2.map V.ref))/\eO K (upd (upd H d (.tup [.int (k:Nat),.int (l:Nat)])) q (.lst (v2.map V.ref++[V.ref d]))) q (rc++[(k,l)]):=by
 have f:q≠d:=by intro T;rw [<-T,b]at N;cases N
 have c:upd H d (.tup [.int (k:Nat),.int (l:Nat)]) q=Y (.lst (v2.map V.ref)):=ah f▸b;have z:cX (upd H d (.tup [.int (k:Nat),.int (l:Nat)]) q)\/upd H d (.tup [.int (k:Nat),.int (l:Nat)]) q=O:=.inl (c▸trivial)
 exists c,v2++[d],by rw [M,aT];rfl,?_;exact fY (Paired.cb e λg h T=>bF z (bF (.inr N) T)) (bF z (ax.of M))
def OY:(λz:Fm=>decide (z∈[Fm.fn,.letE]))=jf:=by funext z;cases z<;>decide
def tQ(A:Fm):(λz:Fm=>decide (z∈[A]))=λz=>decide (z=A):=by funext z;rw [hb];exact bb
inductive D6 (K:af) (D:Z) (M:List V) (H:U) (N:VK) (S:XK):Prop
 |mk(ln ns:_)(_:M=[.ref ln])(_:jR D H ln ns)(_:ns.length<=30)(_:∀z A,Ext H A->H z=O->LstAt K A z (tr ns)->N (.ref z) A)
def OZ(c5:a9 K "places_of" "places_of" DY d o0)(al:Gs L)(c6:L "len"=O)(c7:L "range"=O)(c8:L "BINDERS"=Y (.ref q))(c9:∀H,ax K H q [.str "fun",.str "let"])(a4:g_ 1 "labels_of" ["nodes","forms"] (rj K Q)):f_ 2 d o0 ["nodes"] (D6 K Q):=by
 let⟨f0,db⟩:=al.node;let⟨f1,dd⟩:=al.name;let⟨f2,dl⟩:=al.first;let⟨f4,dp⟩:=al.second;let⟨f8,ds⟩:=al.inside;refine c5.go ["nodes","places","label"] λga ge gl a5 H go gt g1 bd E am _ sz=>?_;let⟨b,N,rfl,a1,be,dx⟩:=E;exists _,ar (sv (i:=1) (own:=[("label",2)]) S am S rfl (sx S rfl rfl rfl) (z9 S c7 (A (cR el (by rfl) c6 dE (aJ 0)) aC)) (e2 S) (λa5 H bs bt bv=>bX 2 am) (λa5 H bs bt bv=>hB) (λa5 H bs bt bv=>b6 (A (b7 db) (aJ 2)))) (ar (d3 dZ S (dC (bI a4 bd (A (T 0) (A (ek (v:=.ref q) S c8 S) aC)))) (bX 2 am) (ay (cM (fe fu f9 gF fQ (T 1) (A (b6 (A (b7 dd) (aJ 2))) aC))))) (ar (d3 dZ S (dC (bI a4 bd (A (T 0) (A (b6 (A dP aC)) aC)))) (bX 2 am) (ar (cM (fe fu f9 gF fQ (T 1) (A (b6 (A (b7 dl) (aJ 2))) aC))) (ay (cM (fe fu f9 gF fQ (T 1) (A (b6 (A (b7 dp) (aJ 2))) aC)))))) (ar (d3 dZ S (dC (bI a4 bd (A (T 0) (A (b6 (A dP aC)) aC)))) (bX 2 am) (ay (cM (fe fu f9 gF fQ (T 1) (A (b6 (A (b7 ds) (aJ 2))) aC))))) (ay (aQ (T 1)))))),?_;let⟨g2,dK,dL⟩:=id a1;have dT:=bO dL
 exists _,S,b,_,S,.inl (av.of dK),(N.length:Int),?_,by lia,by lia,λw G=>?_
 .rw [z,dT]
 rw [uD];let R:VCx:=λi a2=>eO K a2 w ((eX i).map λD=>(0,D))/\Ext H a2
 refine J4 R ?_ ?_ ?_
 .exact⟨⟨[],M,.nil⟩,Ext.one G⟩
 .rintro i a2 g3 ⟨⟨y,t,n⟩,W⟩;exists S,?_;unfold hk;dsimp only [];rw [ai S];exists _,S,cD,λx e=>?_;have dX:(0:Int)+(i:Int)=(i:Int):=by lia
  rw [dX];let⟨X,ab⟩:=eO.push (K:=K) (k:=0) (l:=i) t n e;exists _,X,?_,?_,(W.new e).upd G
  .rw [z,bO n,z,qj];lia
  .rw [qe,aT];exact ab
 rintro a2 ⟨ca,cd⟩;exists _,S,b,N,q,[.fn,.letE],S,a1.ext cd,be,c9 _,λg hd ce B bm=>?_;have d0:=ca.ext ce
 have d1:=cd.trans ce;have ad:g≠w:=by intro bn;let⟨y,an,_⟩:=ca;rw [bn,an]at B;cases B
 rw [OY]at bm;have he:=nr N jf
 exists g,S,⟨_,av.of bm⟩,?_;let R:VLx:=λh j c=>∃r,A4 (j=[Y (.ref b),Y (.ref w),r]) (eO K c w ((eX N.length).map (λD=>(0,D))++((cz N jf).take h).map λD=>(1,D))) (Ext H c) (c g=Y (.lst ((cz N jf).map λa0=>V.int (a0:Nat))))
 refine fw (xs:=(cz N jf).map λa0=>V.int (a0:Nat)) R ?_ ?_ ?_ ?_
 .exact⟨_,S,by rw [qh,hP,b0];exact d0,d1,bm⟩
 .rintro h j c _ ⟨_,_,_,_,E⟩;exact av.of E
 .rintro h a0 j c f ⟨r,rfl,⟨y,t,n⟩,W,C⟩;rw [bh]at f;cases s:(cz N jf)[h]? with
  |none=>rw [s]at f;cases f
  |some u=>
   rw [s]at f;obtain rfl:=aS f;exists _,S,.inl ⟨S,_,av.of t⟩,_,S,cD,λx e=>?_;let⟨X,ab⟩:=eO.push (K:=K) (k:=1) (l:=u) t n e;exists w,_,_,S,S,X,?_,_,S,?_,(W.new e).upd G,?_
   .rw [z,bO n,br,z,z,qj,dU];lia
   .rw [dq,s,aT,<-ck];exact ab
   .have ap:g≠x:=by intro bn;rw [<-bn,C]at e;cases e
    rw [ah ad,ah ap];exact C
 rintro j hf ⟨r,rfl,ch,em,_⟩;rw [z,dB]at ch;exists _,S,eN,λbi as=>?_;have ci:=em.new (o:=.tup [.str "pair"]) as
 have cl:=ch.ext (Ext.one (o:=.tup [.str "pair"]) as);exists b,N,bi,[.pair],S,a1.ext ci,be,ax.of M,λg hi cn B bm=>?_;have eq:=cl.ext cn
 have es:=ci.trans cn;have ad:g≠w:=by intro bn;let⟨y,an,_⟩:=cl;rw [bn,an]at B;cases B
 rw [tQ]at bm;have hm:=nr N λd=>decide (d=.pair)
 exists g,S,⟨_,av.of bm⟩,?_;have co:∀a3:List Nat,(a3.flatMap λD=>([(2,D),(3,D)]:List Pr)).length=2*a3.length:=by
  intro a3;induction a3 with
  |nil=>rfl
  |cons a hz ev=>rw [b3,br,ev,dn (a:=a)];show 2+_=_;lia
 let R:VLx:=λh j c=>∃r,A4 (j=[Y (.ref b),Y (.ref w),r]) (eO K c w ((eX N.length).map (λD=>(0,D))++(cz N jf).map (λD=>(1,D))++((cz N λd=>decide (d=.pair)).take h).flatMap λD=>[(2,D),(3,D)])) (Ext H c) (c g=Y (.lst ((cz N λd=>decide (d=.pair)).map λa0=>V.int (a0:Nat))));refine fw (xs:=(cz N λd=>decide (d=.pair)).map λa0=>V.int (a0:Nat)) R ?_ ?_ ?_ ?_
 .exact⟨_,S,by rw [qh,et,b0];exact eq,es,bm⟩
 .rintro h j c _ ⟨_,_,_,_,E⟩;exact av.of E
 .rintro h a0 j c f ⟨r,rfl,⟨y,t,n⟩,W,C⟩;rw [bh]at f;cases s:(cz N λd=>decide (d=.pair))[h]? with
  |none=>rw [s]at f;cases f
  |some u=>
   rw [s]at f;obtain rfl:=aS f;exists _,S,.inl ⟨S,_,av.of t⟩,_,S,cD,λx e=>?_;let⟨X,ab⟩:=eO.push (K:=K) (k:=2) (l:=u) t n e;have ex:y.length<=120:=by rw [bO n,br,br,z,z,qj,co,dU];lia
   exists w,_,_,S,S,X,by rw [z];lia,?_;have ap:g≠x:=by intro bn;rw [<-bn,C]at e;cases e
   have bk:Ext H (upd (upd c x (.tup [.int ((2:Nat):Int),.int (u:Nat)])) w (.lst (y.map V.ref++[V.ref x]))):=(W.new e).upd G;have cr:upd (upd c x (.tup [.int ((2:Nat):Int),.int (u:Nat)])) w (.lst (y.map V.ref++[V.ref x])) g=_:=((ah ad).trans (ah ap)).trans C
   let⟨fa,cs,ct⟩:=ab;have h0:fa.length<=121:=by rw [bO ct,br,<-bO n];exact qi ex 1
   exists _,S,.inl ⟨S,_,av.of cs⟩,_,S,cD,λh1 bl=>?_;let⟨fd,fl⟩:=eO.push (K:=K) (k:=3) (l:=u) cs ct bl;exists w,_,_,S,S,fd,by rw [z];lia,_,S,?_,(bk.new bl).upd G,?_
   .rw [dq,s,k4,<-ck];have:(Option.toList (Y u)).flatMap (λD=>([(2,D),(3,D)]:List Pr))=[(2,u)]++[(3,u)]:=rfl
    rw [this,<-ck];exact fl
   .have fm:=cB cr bl;rw [ah ad,ah fm];exact cr
 rintro j h2 ⟨r,rfl,c0,bk,_⟩;rw [z,dB]at c0;exists _,S,eN,λbi as=>?_;have c1:=bk.new (o:=.tup [.str "new"]) as
 have c2:=c0.ext (Ext.one (o:=.tup [.str "new"]) as);exists b,N,bi,[.new],S,a1.ext c1,be,ax.of M,λg ii c3 B bm=>?_;have fn:=c2.ext c3
 have fr:=c1.trans c3;have ad:g≠w:=by intro bn;let⟨y,an,_⟩:=c2;rw [bn,an]at B;cases B
 rw [tQ]at bm;have im:=nr N λd=>decide (d=.new)
 exists g,S,⟨_,av.of bm⟩,?_;let R:VLx:=λh j c=>∃r,A4 (j=[Y (.ref b),Y (.ref w),r]) (eO K c w ((eX N.length).map (λD=>(0,D))++(cz N jf).map (λD=>(1,D))++(cz N λd=>decide (d=.pair)).flatMap (λD=>[(2,D),(3,D)])++((cz N λd=>decide (d=.new)).take h).map λD=>(4,D))) (Ext H c) (c g=Y (.lst ((cz N λd=>decide (d=.new)).map λa0=>V.int (a0:Nat))))
 refine fw (xs:=(cz N λd=>decide (d=.new)).map λa0=>V.int (a0:Nat)) R ?_ ?_ ?_ ?_
 .exact⟨_,S,by rw [qh,hP,b0];exact fn,fr,bm⟩
 .rintro h j c _ ⟨_,_,_,_,E⟩;exact av.of E
 .rintro h a0 j c f ⟨r,rfl,⟨y,t,n⟩,W,C⟩;rw [bh]at f;cases s:(cz N λd=>decide (d=.new))[h]? with
  |none=>rw [s]at f;cases f
  |some u=>
   rw [s]at f;obtain rfl:=aS f;exists _,S,.inl ⟨S,_,av.of t⟩,_,S,cD,λx e=>?_;let⟨X,ab⟩:=eO.push (K:=K) (k:=4) (l:=u) t n e;exists w,_,_,S,S,X,?_,_,S,?_,(W.new e).upd G,?_
   .rw [z,bO n,br,br,br,z,z,z,qj,co,dU];lia
   .rw [dq,s,aT,<-ck];exact ab
   .have ap:g≠x:=by intro bn;rw [<-bn,C]at e;cases e
    rw [ah ad,ah ap];exact C
 rintro j fs ⟨r,rfl,c4,fT,_⟩;rw [z,dB]at c4;exists _,S,dx w fs fT G c4.lst
abbrev Ex:=ae
abbrev D7:a7:=inClass (top 38) 0
abbrev D8:a7:=inClass (top 38) 1
abbrev D9:a7:=inClass (top 38) 2
abbrev Ea:a7:=inClass (top 38) 3
abbrev Eb:a7:=inClass (top 38) 4
def cJ(z:aj):List V:=z.map λA=>V.int (A.toNat:Int)
def Ec(z A D G M:Z):List (aa×V):=[("text",.ref z),("nodes",.ref A),("binders",.ref D),("sorts",.ref G),("places",.ref M)]
structure eE(K:af)(z A:Z):Prop where
 p:rf K z A
 n:pe K A
 text:dF K z "text"
structure cg(K:af)(S T:Z)(H:U)(p:Z)(z:Ex):Prop where
 ok:bG z
 ex:X6 λa G M lb N lp=>A6 (H p=Y (.ins S a (Ec G M lb N lp))) (H G=Y (.lst (cJ (bq z)))) (∃rs:List NR,H M=Y (.lst (rs.map λA=>V.ref A.a))/\(∀A∈rs,gL T (bq z).length H A)/\rs.map (·.i)=infos O z/\rs.map (·.sp)=df z 0) (H lb=Y (.dK ((mQ z).map λx=>(.inl (x.1:Int),.int (x.2:Nat))))) (LstAt K H N ((bp z).map a6)) (LstAt K H lp ((aq z).map D))
def gL.ext{H:U}{G:NR}(M:Ext H r)(N:gL d B H G):gL d B r G:=by let⟨⟨S,T⟩,a⟩:=N;exists ⟨S,M _ _ T⟩,M _ _ a
def gL.node{H:U}{z:NR}(N:gL d B H z):kK d H z.a z.i:=by let⟨⟨A,D⟩,T⟩:=N;exists ⟨A,_,D,S⟩,⟨A,_,D,S⟩,⟨A,_,D,S⟩,z.lp,⟨A,_,D,S⟩,T
theorem yf{H:U}:∀{z:List NR},(∀A∈z,gL d B H A)->cE (kK d H) (z.map (·.a)) (z.map (·.i))
 |[],_=>.nil
 |A::z,a=>.cons (a A bE).node (yf λM N=>a M (bC _ N))
variable{pc:Ex}
def cg.ext{K:af}{H:U}(z:Ext H r)(S:cg K d q H Q pc):cg K d q r Q pc:=by let⟨T,a,b,c,A,e,f,g,h,⟨i,j,k,l,m⟩,n,o,p⟩:=S;exists T,a,b,c,A,e,f,z _ _ g,z _ _ h,⟨i,z _ _ j,λD G=>(k D G).ext z,l,m⟩,z _ _ n,o.ext z,p.ext z
def cg.prog{K:af}{H:U}(T:cg K q d H Q pc):lQ K q d H Q (cV pc):=by
 let⟨k,z,l,a,b,c,D,A,m,⟨e,n,f,g,o⟩,h,i,j⟩:=T;exists ⟨a,e.map (·.a),⟨z,_,A,S⟩,by rwa [d7],?_⟩,⟨b,⟨z,_,A,S⟩,h⟩,⟨c,⟨z,_,A,S⟩,i⟩,⟨D,⟨z,_,A,S⟩,j⟩;show cE (kK d H) _ (infos O pc)
 rw [<-g];exact yf f
def cg.nodes{K:af}{H:U}(N:cg K d q H Q pc):∃z,h7 d H Q "nodes" (.ref z)/\jR q H z (infos O pc):=by let⟨z,S,T,a,b⟩:=N.prog.nodes;exists z,T,S,a,b
def jm{H:U}{o:HO}(S:H d=Y (.ins Q pi FS))(T:H q=Y (.lst t3)):upd H d o q=Y (.lst t3):=by rwa [ah (gw S T).symm]
def LstAt.keep{K:af}{H:U}{o:HO}(A:H d=Y (.ins Q pi FS))(b:LstAt K H q rc):LstAt K (upd H d o) q rc:=by
 let⟨c,z,G⟩:=b;exists c,?_,Paired.cb G λe f D=>bF (.inl (A▸trivial)) D;rcases z with(z|⟨u,z⟩)|z
 .exact .inl (.inl (jm A z))
 .exact .inl (.inr ⟨u,ah (cW z A (by intro D;cases D))▸z⟩)
 .exact .inr z
def gL.keep{H:U}{G:NR}{c:Z}{o:HO}(A:gL d B H G)(T:H q=Y (.ins Q c FS))(e:FS.length≠6):gL d B (upd H q o) G:=by
 let⟨⟨f,a⟩,g⟩:=A;have h:=cW a T (by intro z;injection z with _ _ z;exact e (by rw [<-z];rfl))
 exists ⟨f,ah h▸a⟩,jm T g
inductive tR (K:af) (A M N:Z) (S:List V) (H:U) (T:VK) (a:XK):Prop
 |mk(p b lt:_)(t:aj)(_:S=[.ref p,.ref lt])(_:H p=Y (.ins A b []))(_:H lt=Y (.lst (cJ t)))(_:t.length<=9000)(_:(hT t=O->∀z,bN p H z->a (.ref N) O z))(_:∀D,hT t=Y D->∀z,bN p H z->cg K A M z p D->T .bw z)
theorem bN.ext{H:U}(M:bN d H r)(N:Ext r sK):bN d H sK:=λc o S T=>N c o (M c o S T)
theorem bN.gZ{H:U}{o:HO}(M:bN d H r):bN d H (upd r d o):=λc u N D=>ah D▸M c u N D
def O0(co:a9 K "__init__" "Program.__init__" D7 pi o0)(e:eE K d q)(cr:L "list"=O)(cs:q_ 8 "read_expression" ["text"] (x8 q Q)) (ct:q_ 2 "binders_of" ["nodes"] (D1 q Q)) (c0:g_ 1 "sorts_of" ["nodes"] (D2 K q)) (c1:g_ 2 "places_of" ["nodes"] (D6 K q)):k_ 9 pi o0 ["self","text"] (tR K d q Q):=by
 refine co.ew ["self","text"] λfd fl fm fn H fr fs fT g c2 f0 _ sz=>?_;let⟨N,D,C,j,rfl,E,F,c3,a0,c4⟩:=c2;have c5:=g.mo 1
 have a1:=g.mo 2;exists _,ar (dQ (T 0) (sj JG (by rfl) cr (by decide+kernel) (aJ 1)) S) (ar (dQ (T 0) (gI cs g dw (aJ 1)) S) (ar (dQ (T 0) (gI ct a1 dw (A (aF 0) aC)) S) (ar (dQ (T 0) (bI c0 c5 (A (aF 0) aC)) S) (ay (dQ (T 0) (bI c1 a1 (A (aF 0) aC)) S))))),?_;have c6:C≠N:=(gw E F).symm
 exists _,S,C,_,S,.inl (av.of F),λa a2=>?_;have c7:N≠a:=cB E a2
 have a3:Ext H (upd H a (.lst (cJ j))):=Ext.one a2;exists _,S,N,d,D,_,S,a3 _ _ E,e.p.c,e.text,by decide,?_;have z:bN N H (upd (upd H a (.lst (cJ j))) N (.ins d D (aO "text" (.ref a) []))):=a3.but.gZ
 have c8:upd (upd H a (.lst (cJ j))) N (.ins d D (aO "text" (.ref a) [])) a=Y (.lst (cJ j)):=by rw [ah c7.symm,M]
 have c9:upd (upd H a (.lst (cJ j))) N (.ins d D (aO "text" (.ref a) [])) N=Y (.ins d D (aO "text" (.ref a) [])):=M;generalize upd (upd H a (.lst (cJ j))) N (.ins d D (aO "text" (.ref a) []))=f1 at*;exists _,S,C,j,S,z _ _ F c6,c3,?_;cases a4:hH (bY [] (j.map norm))with
 |none=>exactλf R=>a0 (OV a4) f (z.ext R)
 |some db=>
 let⟨f2,f4⟩:=db;let⟨h,a5,dd,bd,dl,W,rfl,rfl⟩:=Cw.mp a4;subst dd;intro x b l X f8 be dp bi ds;have ap:=X _ _ c9
 have dx:=X _ _ c8;have dK:=z.ext X
 have ga:b≠N:=(gw ap be).symm;exists _,S,N,d,D,_,S,ap,e.p.c,e.p.nodes,(by show 1<1000;decide),?_;have bk:bN N H (upd x N (.ins d D (aO "nodes" (.ref b) (aO "text" (.ref a) [])))):=dK.gZ
 have bl:upd x N (.ins d D (aO "nodes" (.ref b) (aO "text" (.ref a) []))) N=Y (.ins d D (aO "nodes" (.ref b) (aO "text" (.ref a) []))):=M;have dL:=jm (o:=.ins d D (aO "nodes" (.ref b) (aO "text" (.ref a) []))) ap dx
 have bm:=jm (o:=.ins d D (aO "nodes" (.ref b) (aO "text" (.ref a) []))) ap be;have bn:∀w∈l,gL q (bq h).length (upd x N (.ins d D (aO "nodes" (.ref b) (aO "text" (.ref a) [])))) w:=λw g=>(dp w g).keep ap (by show 1≠6;decide)
 generalize upd x N (.ins d D (aO "nodes" (.ref b) (aO "text" (.ref a) [])))=ge at*;have ab:∀{y:U},y b=Y (.lst (l.map λw=>V.ref w.a))->(∀w∈l,gL q (bq h).length y w)->jR q y b (infos O h):=λ{y} dT dX=>⟨l.map (·.a),by rw [d7];exact dT,by rw [<-bi];exact yf dX⟩
 have ad:(infos O h).length<=30:=by rw [eT];exact bd
 exists _,S,N,d,D,_,_,S,bl,e.p.c,e.p.nodes,S,b,infos O h,S,ab bm bn,ad,OU W,λal f R=>a0 (OW a5 W al) f (bk.ext R),λal r c s gl am=>?_;let⟨d0,an,d1⟩:=OX a5 W bd dl al;rw [d1]at am;have t:=s _ _ bl
 exists _,S,N,d,D,_,S,t,e.p.c,e.p.binders,(by show 2<1000;decide),?_;have em:bN N H (upd r N (.ins d D (aO "binders" (.ref c) (aO "nodes" (.ref b) (aO "text" (.ref a) []))))):=(bk.ext s).gZ
 have bs:upd r N (.ins d D (aO "binders" (.ref c) (aO "nodes" (.ref b) (aO "text" (.ref a) [])))) N=Y (.ins d D (aO "binders" (.ref c) (aO "nodes" (.ref b) (aO "text" (.ref a) [])))):=M;have eq:=jm (o:=.ins d D (aO "binders" (.ref c) (aO "nodes" (.ref b) (aO "text" (.ref a) [])))) t (s _ _ dL)
 have bt:=jm (o:=.ins d D (aO "binders" (.ref c) (aO "nodes" (.ref b) (aO "text" (.ref a) [])))) t (s _ _ bm);have bv:∀w∈l,gL q (bq h).length (upd r N (.ins d D (aO "binders" (.ref c) (aO "nodes" (.ref b) (aO "text" (.ref a) []))))) w:=λw g=>((bn w g).ext s).keep t (by show 2≠6;decide)
 have ca:upd r N (.ins d D (aO "binders" (.ref c) (aO "nodes" (.ref b) (aO "text" (.ref a) [])))) c=_:=(ah (cW am t (by intro u;cases u))).trans am;generalize upd r N (.ins d D (aO "binders" (.ref c) (aO "nodes" (.ref b) (aO "text" (.ref a) []))))=go at*;exists _,S,N,d,D,_,_,S,bs,e.p.c,e.p.nodes,S,b,infos O h,S,ab bt bv,ad,λi v G gt cd=>?_;rw [Ni an]at cd;have B:=G _ _ bs
 exists _,S,N,d,D,_,S,B,e.p.c,e.p.sorts,(by show 3<1000;decide),?_;have es:bN N H (upd v N (.ins d D (aO "sorts" (.ref i) (aO "binders" (.ref c) (aO "nodes" (.ref b) (aO "text" (.ref a) [])))))):=(em.ext G).gZ
 have ce:upd v N (.ins d D (aO "sorts" (.ref i) (aO "binders" (.ref c) (aO "nodes" (.ref b) (aO "text" (.ref a) []))))) N=Y (.ins d D (aO "sorts" (.ref i) (aO "binders" (.ref c) (aO "nodes" (.ref b) (aO "text" (.ref a) []))))):=M;have ev:=jm (o:=.ins d D (aO "sorts" (.ref i) (aO "binders" (.ref c) (aO "nodes" (.ref b) (aO "text" (.ref a) []))))) B (G _ _ eq)
 have ch:=jm (o:=.ins d D (aO "sorts" (.ref i) (aO "binders" (.ref c) (aO "nodes" (.ref b) (aO "text" (.ref a) []))))) B (G _ _ bt);have ci:∀w∈l,gL q (bq h).length (upd v N (.ins d D (aO "sorts" (.ref i) (aO "binders" (.ref c) (aO "nodes" (.ref b) (aO "text" (.ref a) [])))))) w:=λw g=>((bv w g).ext G).keep B (by show 3≠6;decide)
 have cl:upd v N (.ins d D (aO "sorts" (.ref i) (aO "binders" (.ref c) (aO "nodes" (.ref b) (aO "text" (.ref a) []))))) c=_:=(ah (cW (G _ _ ca) B (by intro u;cases u))).trans (G _ _ ca);have ex:=cd.keep (o:=.ins d D (aO "sorts" (.ref i) (aO "binders" (.ref c) (aO "nodes" (.ref b) (aO "text" (.ref a) []))))) B
 generalize upd v N (.ins d D (aO "sorts" (.ref i) (aO "binders" (.ref c) (aO "nodes" (.ref b) (aO "text" (.ref a) [])))))=g1 at*;exists _,S,N,d,D,_,_,S,ce,e.p.c,e.p.nodes,S,b,infos O h,S,ab ch ci,ad,λfa g2 k g3 cn=>?_;rw [CP an]at cn;have n:=k _ _ ce
 exists _,S,N,d,D,_,S,n,e.p.c,e.p.places,(by show 4<1000;decide),?_;refine c4 h d0 _ (es.ext k).gZ ⟨an,D,a,b,c,i,fa,M,jm n (k _ _ ev),⟨l,jm n (k _ _ ch),λw g=>((ci w g).ext k).keep n (by show 4≠6;decide),bi,ds⟩,(ah (cW (k _ _ cl) n (by intro u;cases u))).trans (k _ _ cl),(ex.ext k).keep n,cn.keep n⟩
def cg.node{c:Z}{H:U}(e:cg K d c H q pc){S:Ex}(g:S∈aG pc):∃(T:Z) (D:List (aa×V)) (M:Z) (z:List Z) (N:Z) (a:Option Nat),H q=Y (.ins d T D)/\D.lookup ("nodes":aa)=Y (.ref M)/\H M=Y (.lst (z.map V.ref))/\z.length=size pc/\z[ag S]?=Y N/\kK c H N (cZ a S):=by let⟨M,z,⟨T,D,h,i⟩,j,f⟩:=e.prog.nodes;let⟨a,k⟩:=e.ok.info g;let⟨N,l,m⟩:=ng f k;exists T,D,M,z,N,a,h,i,j,?_,l,m;rw [bO f];exact eT pc O
inductive Ed (K:af) (A D:Z) (M:List V) (H:U) (N:VK) (S:XK):Prop
 |mk(p e:_)(z:Int)(_:M=[.ref p,.int z])(_:cg K A D H p e)(_:N (.bl (decide (0<=z/\z<(size e:Int)))) H)
def O1(g:a9 K "has_node" "Program.has_node" D8 q o0)(f:eE K d Q)(h:L "len"=O):f_ 1 q o0 ["self","label"] (Ed K d Q):=by
 refine g.go ["self","label"] λr s t u H v x y B D _ _ _=>?_;let⟨i,N,M,rfl,j,U⟩:=D;exists _,ay (aQ (I1 vH sf cL (T 1) (cR el (by rfl) h dE (A (aF 0) aC)))),?_;dsimp;let⟨k,l,a,C,E,F,n,o,b,e,_⟩:=j.node (gW N);exists _,S,_,_,S,S,_,S,?_;by_cases c:0<=M
 .rw [cq c];refine cf ⟨_,S,i,d,k,l,_,S,n,f.p.c,f.p.nodes,o,a,_,S,.inl (av.of b),_,_,S,S,?_⟩;rw [z,e];have:decide (0<=M/\M<(size N:Int))=decide (M<(size N:Int)):=by rw [hb];exists λD=>D.2,λD=>⟨c,D⟩
  rw [this]at U;exact U
 .rw [bU c];have:decide (0<=M/\M<(size N:Int))=ao:=bU λD=>c D.1
  rw [this]at U;exact b1 U
inductive Ee (K:af) (z A:Z) (D:List V) (H:U) (M:VK) (N:XK):Prop
 |mk(p e x:_)(_:D=[.ref p,.int (ag x:Nat)])(_:cg K z A H p e)(_:x∈aG e)(_:M (.bl (decide (aB x=.call))) H)
def O2(a:a9 K "is_call" "Program.is_call" D9 Q o0)(z:eE K d q)(c:L "CALL"=Y (.str "a call" wS)):f_ 1 Q o0 ["self","label"] (Ee K d q):=by
 refine a.go ["self","label"] λv x y B H C E F A M _ _ _=>?_;let⟨e,D,f,rfl,g,h,U⟩:=M;exists _,ay (aQ (oh cT (fP (cc dk (aF 0) (T 1) (λ_ _=>S)) S) (hl c) (bV _))),?_;dsimp;let⟨i,j,k,R,l,V,N,n,o,W,G,b⟩:=g.node h;let⟨r,s,t,u⟩:=b.aK;exists _,S,e,d,i,j,_,S,N,z.p.c,z.p.nodes,n,_,S,k,_,_,_,S,S,av.of o,e1 (by rw [bh,G];rfl),l,q,r,s,_,S,t,z.n.cl,z.n.aK,u,S,?_;have:=rb (aB f) .call
 rw [<-this]at U;exact U
inductive yg (K:af) (D M:Z) (N:List V) (H:U) (S:VK) (a:XK):Prop
 |mk(p e:_)(_:N=[.ref p])(_:cg K D M H p e)(_:∀z A,Ext H A->H z=O->A z=Y (.lst ((cz (infos O e) λT=>decide (T=.call)).map λx=>V.int (x:Nat)))->S (.ref z) A)
def O3(e:a9 K "calls_within" "Program.calls_within" Ea Q o0)(a:eE K d q)(g:L "CALL"=Y (.str "a call" wS))(h:g_ 1 "labels_of" ["nodes","forms"] (rj K q)):f_ 2 Q o0 ["self"] (yg K d q):=by
 refine e.go ["self"] λB C E F H z D R i j _ _ _=>?_;let⟨k,l,rfl,b,T⟩:=j;exists _,ay (aQ (bI h i (A (aF 0) (A (b6 (A (hl g) aC)) aC)))),?_;dsimp;let⟨n,⟨o,U,w,r⟩,s⟩:=b.nodes;exists _,S,k,d,o,U,_,S,w,a.p.c,a.p.nodes,r,eN,λc t=>?_;have N:Ext H (upd H c (.tup [.str "a call"])):=Ext.one t
 exists n,infos O l,c,[.call],S,s.ext N,by rw [eT];exact b.ok.bL,ax.of M,λu v x y G=>?_;rw [tQ]at G;exact T u v (N.trans x) (N.none y) G
inductive tS (K:af) (D M:Z) (N:List V) (H:U) (S:VK) (T:XK):Prop
 |mk(p e x a r:_)(_:N=[.ref p,.int (ag x:Nat)])(_:cg K D M H p e)(_:x∈aG e)(_:kids x=a::r)(_:∀z A,Ext H A->H z=O->ax K A z (b4 (0,ag a))->S (.ref z) A)
def O4(e:a9 K "first_part_of" "Program.first_part_of" Eb Q o0)(z:eE K d q)(g:L "NODE_PLACE"=Y (.int 0 wS)):f_ 1 Q o0 ["self","label"] (tS K d q):=by
 refine e.go ["self","label"] λX ab ad al H am an ap as h _ _ _=>?_;let⟨i,a0,U,k,l,rfl,b,n,o,G⟩:=h;exists _,ay (aQ (b6 (A (b7 g) (A (cc dk (fP (cc dk (aF 0) (T 1) (λ_ _=>S)) S) cL (λ_ _=>S)) aC)))),?_;dsimp;let⟨f,r,s,a1,t,a2,u,v,x,a3,y,B⟩:=b.node n;let⟨c,⟨C,E,F,D⟩,N⟩:=B.parts;have R:H c=Y (.lst ((ag k::l.map ag).map λU=>V.int (U:Nat))):=by
  rw [N];show Y (HO.lst (((kids U).map ag).map _))=_
  rw [o];rfl
 exists _,S,i,d,f,r,_,S,u,z.p.c,z.p.nodes,v,_,S,s,_,_,_,S,S,av.of x,e1 (by rw [bh,y];rfl),t,q,C,E,_,S,F,z.n.cl,z.n.parts,D,c,_,_,_,S,S,av.of R,e1 (j:=0) S,cD,λW a=>G W _ (Ext.one a) a (ax.of M)
abbrev Ef:a7:=top 45
abbrev Eg:a7:=top 46
structure b8(G:aw)(w:au)(K:af)(D H:U)(A:Z)(tab:Tb):Prop where
 ext:Ext D H
 ex:∃z,A6 (H A=Y (dX G w A z)) (b9 K H z) (fk G w K H z tab) ((z.map (·.2.2)).Nodup) (V.ref A∉z.map (·.2.2)) (∀d,V.ref d∈z.map (·.2.2)->D d=O)
 new:D A=O
theorem b8.at(z:b8 m p K r H d or):TabAt m p K H d or:=let⟨A,D,M,N,S,T,_⟩:=z.ex;⟨A,D,M,N,S,T⟩
def b8.on(z:Ext H sK)(A:b8 m p K r H d or):b8 m p K r sK d or:=by let⟨M,N,S,T,U,a,c⟩:=A.ex;exists A.ext.trans z,⟨M,z _ _ N,z.keys S,Paired.cb T λg b D=>⟨D.1,let⟨P,e,f⟩:=D.2;⟨P,e,f.ext z⟩⟩,U,a,c⟩,A.new
def b8.from(z:Ext r H)(A:b8 m p K H sK d or):b8 m p K r sK d or:=by let⟨D,M,N,S,T,U,a⟩:=A.ex;exists z.trans A.ext,⟨D,M,N,S,T,U,λb c=>z.none (a b c)⟩,z.none A.new
def yh(A:fk m p K H pp or):pp.map (·.1)=(or.map (·.1)).map pk:=by
 induction A with
 |nil=>exact S
 | @cons x y pp or a c b=>
  rw [aZ,aZ,aZ,b,a.1]
def kM(D:fk m p K H pp or)(M:re∉or.map (·.1)):cm pp (pk re)=O:=by
 have:=kJ (yh D) re;rw [bU M]at this;cases a:cm pp (pk re)with
 |none=>rfl
 |some v=>rw [a]at this;cases this
def b8.add{w:au}{p:Pr}{ps:List Pr}(l:Ext r H)(A:H d=Y (dX m w d pp))(n:b9 K H pp)(U:fk m w K H pp or)(o:(pp.map (·.2.2)).Nodup)(e:V.ref d∉pp.map (·.2.2))(P:∀q,V.ref q∈pp.map (·.2.2)->r q=O)(f:r d=O)(N:fK m w K H q ps) (s:V.ref q∉pp.map (·.2.2)) (g:q≠d) (W:r q=O) (x:ax K H Q (b4 p)) (a:p∉or.map (·.1)):b8 m w K r (upd H d (dX m w d (cy pp (pk p) Q (.ref q)))) d (or++[(p,ps)]):=by
 have h:cX (H d)\/H d=O:=.inl (A▸trivial);have i:∀T b,T≠d->fK m w K H T b->fK m w K (upd H d (dX m w d (cy pp (pk p) Q (.ref q)))) T b:=λT b y B=>by let⟨C,E,F,L⟩:=B;exists C,ah y▸E,F.same λQ t=>bF h,L
 exists l.upd f,⟨cy pp (pk p) Q (.ref q),M,(ly n _ x).same λc t=>bF h,?_,?_,?_,?_⟩,f
 .have j:fk m w K (upd H d (dX m w d (cy pp (pk p) Q (.ref q)))) (pp++[(pk p,Q,.ref q)]) (or++[(p,ps)]):=fY (tM i U e) ⟨S,q,S,i q ps g N⟩;rw [iw _ _ (kM U a)]at j⊢;exact j
 .rw [iw _ _ (kM U a),aT];refine gC.mpr ⟨o,by simp,λu k v R z=>?_⟩;have z:=z.trans (bb.mp R)
  rw [z]at k;exact s k
 .rw [iw _ _ (kM U a),aT];intro D;rcases bR.mp D with D|D
  .exact e D
  .have:=bb.mp D;injection this with this;exact g this.symm
 .rw [iw _ _ (kM U a),aT];intro T D;rcases bR.mp D with D|D
  .exact P T D
  .have:=bb.mp D;injection this with this;rwa [this]
def b8.put{f D:bW}{ps:List Pr}(g:Ext r H)(h:H q=Y (dX m p q pp))(i:b9 K H pp)(j:fk m p K H pp or)(T:(pp.map (·.2.2)).Nodup)(U:V.ref q∉pp.map (·.2.2))(a:∀d,V.ref d∈pp.map (·.2.2)->r d=O)(k:r q=O)(l:(or.map (·.1)).Nodup)(c:cm pp (pk re)=Y (.ref d)) (A:H d=Y (dX m p d f)) (n:b9 K H D) (o:D.map (·.1)=ps.map pk):b8 m p K r (upd H d (dX m p d D)) q (dM or re ps):=by
 have N:cX (H d)\/H d=O:=.inl (A▸trivial);have z:V.ref d∈pp.map (·.2.2):=by let⟨y,t,P⟩:=cv.mp c;rw [<-P];exact dY (fq t)
 have w:q≠d:=by intro s;exact U (s▸z)
 exists g.upd (a d z),⟨pp,ah w▸h,i.same λb e=>bF N,OF (λF L u v=>?_) ⟨D,M,n.same λb e=>bF N,o⟩ j T l c,T,U,a⟩,k;let⟨x,B,C,E⟩:=v;exists x,ah u▸B,C.same λb e=>bF N,E
def cg.places(b:cg K d Q H q pc):∃N z A M,H q=Y (.ins d N z)/\z.lookup ("places":aa)=Y (.ref A)/\av K H A (M.map V.ref)/\fJ K H M ((aq pc).map D):=by let⟨A,⟨N,z,c,S⟩,M,e,f⟩:=b.prog.places;exists N,z,A,M,c,S,e,f
theorem lU(A:bG pc):((aq pc).map D).Nodup:=iD (λ_ _=>d4) A.cY.places
def nt(M:bG pc):((aq pc).map D).length<=90:=by
 have N:=places_len pc;have S:=M.bL
 rw [z]
 lia
def gx(z:List Pr):Tb:=z.map λA=>(A,[])
inductive yi (m:aw) (p:au) (K:af) (z A:Z) (M:List V) (H:U) (N:VK) (S:XK):Prop
 |mk(t e:_)(_:M=[.ref t])(_:cg K z A H t e)(_:∀d r,b8 m p K H r d (gx ((aq e).map D))->N (.ref d) r)
def yj{z:List sB}{i:Nat}{A:sB}(M:z.Nodup)(N:z[i]?=Y A):A∉z.take i:=by intro T;rw [<-vk (i+1) z,dq,N]at M;exact(gC.mp (gC.mp M).1).2.2 A T A (bb.mpr S) S
def O5(a1:a9 K "empty_table" "empty_table" Ef Q o0)(F:eE K q pi):f_ 1 Q o0 ["program"] (yi m p K q pi):=by
 refine a1.go ["program","table","place"] λcl cn co w H cr cs ct c0 N t a2 sz=>?_;let⟨R,C,rfl,E,a3⟩:=N;exists _,ar (bj 1 t ky) (ar (d3 dZ S (dC (aF 0)) (bX 2 t) (ay (i4 a2 (T 1) (T 2) ky S))) (ay (aQ (T 1)))),?_;let⟨a4,a5,bd,W,be,bi,X,ab⟩:=E.places;have bk:=lU E.ok
 have ad:=nt E.ok;intro d al;have r:Ext H (upd H d (dX m p d [])):=Ext.one al
 exists _,S,R,q,a4,a5,_,S,r _ _ be,F.p.c,F.p.places,bi,bd,S,⟨_,r.ef X⟩,?_;generalize (aq C).map D=j at*;let bl:VLx:=λi k c=>∃s,k=[Y (.ref R),Y (.ref d),s]/\b8 m p K H c d (gx (j.take i))
 refine fw (xs:=W.map V.ref) bl ?_ ?_ ?_ ?_
 .exact⟨O,S,r,⟨[],M,(λ_ N=>nomatch N),.nil,gc,(λN=>nomatch N),λ_ N=>nomatch N⟩,al⟩
 .rintro i k c _ ⟨_,_,A⟩;exact A.ext.ef X
 .rintro i c1 k c g ⟨s,rfl,A⟩;rw [bh]at g;cases u:W[i]? with
  |none=>rw [u]at g;cases g
  |some am=>
   rw [u]at g;obtain rfl:=aS g;let⟨a,an,ap⟩:=eA ab u;let⟨n,v,as,x,bm,bn,bs⟩:=A.ex;intro l B;have b:=Ext.one (o:=dX m p l []) B
   have bt:=cB v B;have c2:n.length<=90:=by
    have:=bO x;unfold gx at this;rw [z,dU]at this
    lia
   have bv:V.ref l∉n.map (·.2.2):=λca=>by
    let⟨y,e,cd⟩:=bH.mp ca;have:∀{n:bW} {or:Tb},fk m p K c n or->∀y∈n,∃h ad,y.2.2=.ref h/\fK m p K c h ad:=by
     intro n or A;induction A with
     |nil=>intro y e;cases e
     |cons a _ ce=>
      intro y e;rcases bg.mp e with rfl|e
      .obtain⟨_,h,f,ch⟩:=a;exists h,_,f,ch
      .exact ce y e
    let⟨h,c3,f,c4,a0,_⟩:=this x y e;rw [cd]at f;injection f with f;rw [<-f,B]at a0;cases a0
   exists _,S,_,S,d,n,pk a,am,S,b _ _ v,b.keys as,S,b.aP (A.ext.aP ap),by lia,_,S,?_;have ci:gx (j.take (i+1))=gx (j.take i)++[(a,[])]:=by unfold gx;rw [dq,an,aT];rfl
   rw [ci];refine b8.add (A.ext.trans b) (b _ _ v) (b.keys as) (Paired.cb x λc5 am a=>⟨a.1,let⟨l,C,w⟩:=a.2;⟨l,C,w.ext b⟩⟩) bm bn bs A.new ⟨[],M,(λ_ N=>nomatch N),S⟩ bv bt.symm (A.ext.none B) (b.aP (A.ext.aP ap)) ?_;unfold gx;rw [d7];show a∉(j.take i).map id
   rw [nU];exact yj bk an
 .rintro k c ⟨s,rfl,A⟩;rw [z,bO ab,dB]at A;exists _,S,a3 d c A
def yk(A:Fm)(z:Nat):Option Pr:=match A with
 |.fn=>Y (1,z)|.pair=>Y (2,z)|.new=>Y (3,z)|.num=>Y (0,0)|.given=>Y (0,0)|.add=>Y (0,0)|_=>O
def hM(A:List Info)(z:Nat):Option Pr:=(A[z]?).bind λi=>yk i.aK z
def gy(A:List Info)(D:List Pr)(G:Nat):Tb:=D.map λz=>(z,if z.1=0/\z.2<G then(hM A z.2).toList else [])
def O6(A:List Info)(z:List Pr):gy A z 0=gx z:=by unfold gy gx;refine gE λD _=>?_;rw [N (by lia)]
def O7(a:hM wT B=Y re):dM (gy wT rc B) (0,B) [re]=gy wT rc (B+1):=by
 unfold dM gy;rw [d7];refine gE λz _=>?_;show(if z=(0,B)then(z,[re])else(z,if z.1=0/\z.2<B then(hM wT z.2).toList else []))=(z,if z.1=0/\z.2<B+1 then(hM wT z.2).toList else [])
 by_cases c:z=(0,B)
 .rw [ai c,c,ai ⟨S,pU B⟩,a];rfl
 .rw [N c];have:(z.1=0/\z.2<B+1)↔(z.1=0/\z.2<B):=⟨λD=>⟨D.1,by have:=D.2;have:z.2≠B:=λy=>c (kf D.1 y);lia⟩,λD=>⟨D.1,by lia⟩⟩
  by_cases M:z.1=0/\z.2<B
  .rw [ai M,ai (this.mpr M)]
  .rw [N M,N λD=>M (this.mp D)]
def O8(U:hM wT B=O):gy wT rc (B+1)=gy wT rc B:=by
 unfold gy;refine gE λA _=>?_;by_cases c:A=(0,B)
 .rw [c,ai ⟨S,pU B⟩,U,N (by simp)];rfl
 .have:(A.1=0/\A.2<B+1)↔(A.1=0/\A.2<B):=⟨λD=>⟨D.1,by have:=D.2;have:A.2≠B:=λy=>c (kf D.1 y);cutsat⟩,λD=>⟨D.1,by cutsat⟩⟩
  by_cases G:A.1=0/\A.2<B
  .rw [ai G,ai (this.mpr G)]
  .rw [N G,N λD=>G (this.mp D)]
def yl(A:List Info)(z:List Pr)(D:Nat):(gy A z D).map (·.1)=z:=by unfold gy;rw [d7];exact nU z
theorem Eh(N:rc.Nodup)(M:re∈rc):ba (gy wT rc B) re=Y (if re.1=0/\re.2<B then(hM wT re.2).toList else []):=
 hI (by rwa [yl]) (bH.mpr ⟨re,M,S⟩)
def jn(z:Ex):Option cw:=match z with
 |.num _ _=>Y .num
 |.var _ y=>if y=du then Y .num else O
 |.fn a _ _=>Y (.fn a)
 |.pair a _ _=>Y (.pair a)
 |.new a _=>Y (.ref a)
 |.add _ _ _=>Y .num
 |_=>O
def O9(z:Ex):yk (aB z) (ag z)=(jn z).map a6:=by
 cases z with
 |var a y=>
  by_cases c:y=du
  .simp only [aB,jn,c,eQ];rfl
  .simp only [aB,jn,c,ie];rfl
 |_=>rfl
def Ei(S:bG pc):fG pc nw ul↔∃z∈aG pc,nw=.node (ag z)/\jn z=Y ul:=by
 unfold fG rJ;rw [di];have T:∀z∈aG pc,((⟨nw,ul⟩:hv)∈uT pc z↔nw=.node (ag z)/\jn z=Y ul):=by
  intro z A;cases z with
  |var a y=>
   by_cases c:y=du
   .subst c;simp [uT,S.free a A,jn,ag,eq_comm]
   .obtain⟨b,U⟩:=rA.mp ((S.bound a y A).resolve_left c);simp [uT,U,jn,c]
  |_=>simp [uT,jn,ag,eq_comm]
 exists λ⟨z,A,N⟩=>⟨z,A,(T z A).mp N⟩,λ⟨z,A,N⟩=>⟨z,A,(T z A).mpr N⟩
def ym(M:bG pc):bM pc (gy (infos O pc) ((aq pc).map D) (size pc)) (fG pc):=by
 exists yl _ _ _,λa i=>?_;exists _,Eh (lU M) (dY i),?_;let⟨T,b,e,_⟩:=pa M i;let⟨n,k⟩:=M.info b;have l:hM (infos O pc) (D a).2=(jn T).map a6:=by unfold hM;rw [<-e,k];exact O9 T
 by_cases c:(D a).1=0
 .rw [ai ⟨c,by rw [<-e];exact M.lt b⟩,l];have j:a=.node (ag T):=d4 (e▸kf c S)
  have f:∀A,jn T=Y A↔fG pc a A:=λA=>by
   rw [Ei M];constructor
   .intro z;exists T,b,j,z
   .rintro⟨y,d,U,z⟩;rw [j]at U;injection U with U;rwa [M.cY.uniq b d U]
  cases g:jn T with
  |none=>
   exists gc,(λ_ z=>nomatch z),λA=>?_;rw [<-f A,g];simp
  |some h=>
   exists by simp,λy d=>⟨h,(lC ((f h).mp g)).2,by simpa using d⟩,λA=>?_;rw [<-f A,g];constructor
   .intro z;have z:a6 A=a6 h:=by simpa using z
    rw [lJ z]
   .intro z;rw [aS z];simp
 .rw [N λm=>c m.1];exists gc,(λ_ z=>nomatch z),λA=>⟨(λz=>nomatch z),λz=>?_⟩;let⟨y,d,U,_⟩:=(Ei M).mp z;rw [U]at c;exact absurd rfl c
abbrev ownOf(z:Ex):Tb:=gy (infos O z) ((aq z).map D) (size z)
inductive tT (m:aw) (p:au) (K:af) (D M:Z) (N:List V) (H:U) (S:VK) (T:XK):Prop
 |mk(P e:_)(_:N=[.ref P])(_:cg K D M H P e)(_:∀z A,b8 m p K H A z (ownOf e)->S (.ref z) A)
def Pa(dl:a9 K "own_table" "own_table" Eg s2 o0)(j:eE K pi d)(dp:L "enumerate"=O)(ds:L "NUMBERS"=Y (.ref Q))(co:∀H,ax K H Q (b4 (0,0)))(cr:L "KIND_OF_MAKER"=Y (.ref q))(cs:KD K m p q lT) (ct:L "NODE_PLACE"=Y (.int 0 wS)) (dT:L "NUMBER"=Y (.str "a number" UF)) (d0:L "GIVEN"=Y (.str "in" Wl))(d1:g_ 1 "empty_table" ["program"] (yi m p K pi d)):f_ 2 s2 o0 ["program"] (tT m p K pi d):=by
 refine dl.go ["program","table","label","node"] λgt g1 g2 c0 H g3 hd he em a3 a4 ap sz=>?_;let⟨a5,b,rfl,bd,c1⟩:=a3;exists _,ar (bj 1 a4 (bI d1 em (aJ 0))) (ar (d3 dZ S (sD S dp (A (aF 0) aC)) (lj S (gT (bX 2 a4) (gT (bX 3 a4) lh))) (ay (bK (i0 (wC (aF 3) (ek (v:=.ref q) S cr S)) S) (ay (i4 ap (ff ap (T 1) (b6 (A (b7 ct) (aJ 2))) (λ_ _=>S)) (b6 (A (wB (ek (v:=.ref q) S cr S) (aF 3) (λ_ _=>S)) (aJ 2))) hx S)) (ay (bK (bS vU (aF 3) (b6 (A (hl dT) (A (hl d0) (A dP aC)))) S) (ay (i4 ap (ff ap (T 1) (b6 (A (b7 ct) (aJ 2))) (λ_ _=>S)) (ek (v:=.ref Q) S ds S) hx S)) bQ))))) (ay (aQ (T 1)))),?_;exists _,S,a5,b,S,bd,λi hf c2=>?_;let⟨eq,⟨es,ev,ex,fa⟩,be,c3,c4⟩:=bd.nodes;have c5:=bd.ok
 exists _,S,a5,pi,es,ev,_,S,c2.ext _ _ ex,j.p.c,j.p.nodes,fa,eq,_,S,av.of (c2.ext _ _ c3),?_;have fd:=lU c5
 have fl:∀a,a<size b->((0,a):Pr)∈(aq b).map D:=λa bi=>by let⟨fm,k,w⟩:=c5.node bi;exact bH.mpr ⟨_,gk k,by rw [w];rfl⟩
 have fn:be.length=size b:=by rw [bO c4,eT]
 unfold ownOf at c1;generalize (aq b).map D=G at*;let fr:VLx:=λa as x=>X2 λbk bl=>as=[Y (.ref a5),Y (.ref i),bk,bl]/\b8 m p K H x i (gy (infos O b) G a)
 refine yc (xs:=be.map V.ref) fr ?_ ?_ ?_ ?_
 .exact⟨O,O,S,by rwa [O6]⟩
 .rintro a as x _ ⟨_,_,_,y⟩;exact av.of (y.ext _ _ c3)
 .rintro a fm as x c6 k ⟨bk,bl,rfl,y⟩ fs;rw [bh]at k;cases a0:be[a]? with
  |none=>rw [a0]at k;cases k
  |some c=>
   rw [a0]at k;obtain rfl:=aS k;let⟨e,fT,f0⟩:=eA c4 a0;have bi:a<size b:=by have:=(cF.mp a0).1;lia
   have R:=y.on (Ext.one (o:=.tup [.int (a:Nat),.ref c]) fs);exists c6,_,S,ax.of M,S,_,_,S,_,_,S,S,?_;generalize upd x c6 (.tup [.int (a:Nat),.ref c])=hi at*;let⟨bm,bn,w,bs⟩:=(f0.ext R.ext).aK;have W:hM (infos O b) a=yk e.aK a:=by unfold hM;rw [fT];rfl
   have f1:((gy (infos O b) G a).map (·.1)).Nodup:=by rwa [yl]
   have c7:ba (gy (infos O b) G a) (0,a)=Y []:=by rw [Eh fd (fl a bi),N (by simp)]
   have c8:∀{l a1:U} {B s:Z} {a2:Pr} {f g:bW},Ext H l->l i=Y (dX m p i f)->b9 K l f->fk m p K l f (gy (infos O b) G a)->(f.map (·.2.2)).Nodup->V.ref i∉f.map (·.2.2)->(∀s,V.ref s∈f.map (·.2.2)->H s=O)->cm f (pk (0,a))=Y (.ref s)->l s=Y (dX m p s g)->g.map (·.1)=([]:List Pr).map pk->hM (infos O b) a=Y a2->Ext l a1->ax K a1 B (b4 a2)->
     g.length<aU/\b8 m p K H (upd a1 s (dX m p s (cy g (pk a2) B (.bl I)))) i (gy (infos O b) G (a+1)):=by
    intro l a1 B s a2 f g f2 t n F X ab ad an r al W am f4;have f8:g=[]:=by
     cases g with
     |nil=>rfl
     |cons u v=>cases al
    subst f8;exists by show 0<aU;lia,?_;rw [<-O7 W];refine b8.put (f2.trans am) (am _ _ t) (am.keys n) (Paired.cb F λhm B e=>⟨e.1,let⟨s,b,c0⟩:=e.2;⟨s,b,c0.ext am⟩⟩) X ab ad R.new f1 an (am _ _ r) ?_ S;exact ly (aX:=[]) (λ_ a3=>nomatch a3) _ f4
   exists _,S,c,d,bm,bn,_,S,w,j.n.cl,j.n.aK,bs,q,_,S,⟨lT,.inr (cO e.aK),cs,S,S⟩,_,S,?_;rw [tP,kU];cases C:iE e.aK with
   |some c9=>
    refine cf ?_;have bt:hM (infos O b) a=Y (c9,a):=by rw [W];cases bv:e.aK<;>rw [bv]at C<;>first|(cases C;rfl)|cases C
    exists _,S,_,S,cD,λca E=>?_;let⟨f,t,n,F,X,ab,ad⟩:=(R.on (Ext.one (o:=.tup [.int 0,.int (a:Nat)]) E)).ex;let⟨s,an,g,r,cd,al⟩:=gv F c7;exists i,.ref s,S,⟨f,pk (0,a),ca,t,n,S,ax.of M,an.symm⟩,?_;exists _,S,c,d,bm,bn,_,S,(Ext.one (o:=.tup [.int 0,.int (a:Nat)]) E) _ _ w,j.n.cl,j.n.aK,bs,q,_,S,⟨lT,.inr (cO e.aK),cs,S,by rw [tP,C];rfl⟩,_,S,cD,λdb ce=>?_;let⟨ch,ci⟩:=c8 (B:=db) (R.ext.trans (Ext.one E)) t n F X ab ad an r al bt (Ext.one ce) (ax.of M);exists s,g,pk (c9,a),db,S,(Ext.one ce) _ _ r,(Ext.one ce).keys cd,S,ax.of M,ch,_,_,S,ci
   |none=>
    refine b1 ?_;exists _,S,c,d,bm,bn,_,S,w,j.n.cl,j.n.aK,bs,(by decide),λga ge=>?_;exists ga,_,S,.inr (ax.of M),S,S,_,S,?_;have dd:=R.on (Ext.one (o:=.tup [.str "a number",.str "in",.str "add"]) ge)
    have gl:jE (.str (cO e.aK)) [.str "a number",.str "in",.str "add"]=decide (e.aK∈[Fm.num,.given,.add]):=tN e.aK [.num,.given,.add];rw [N d5,gl];by_cases h:e.aK∈[Fm.num,.given,.add]
    .rw [cq h];have bt:hM (infos O b) a=Y (0,0):=by
      rw [W];simp only [bg,gR,g8]at h;rcases h with h|h|h<;>rw [h]<;>rfl
     refine cf ⟨_,S,_,S,cD,λca E=>?_⟩;let⟨f,t,n,F,X,ab,ad⟩:=(dd.on (Ext.one (o:=.tup [.int 0,.int (a:Nat)]) E)).ex;let⟨s,an,g,r,cd,al⟩:=gv F c7;exists i,.ref s,S,⟨f,pk (0,a),ca,t,n,S,ax.of M,an.symm⟩,?_;let⟨ch,ci⟩:=c8 (B:=Q) (dd.ext.trans (Ext.one E)) t n F X ab ad an r al bt (Ext.refl _) (co _);exists s,g,pk (0,0),Q,S,r,cd,S,co _,ch,_,_,S,ci
    .rw [bU h];have go:hM (infos O b) a=O:=by
      rw [W];cases bv:e.aK<;>rw [bv]at C h<;>first|rfl|(exact absurd (by decide) h)|cases C
     refine b1 ⟨_,_,S,?_⟩;rwa [O8 go]
 .rintro as x ⟨bk,bl,rfl,y⟩;rw [z,fn]at y;exists _,S,c1 i x y
def yn(z:Pr):Int:=reduceHash (VL [F6 (z.1:Int),F6 (z.2:Int)])
def yo:List Pr:=(eX 5).flatMap λz=>(eX 31).map λA=>(z,A)
def Pb:(yo.map yn).Nodup:=by decide+kernel
theorem yp(A:re.1<5)(D:re.2<31):re∈yo:=di.mpr ⟨re.1,lY.mpr A,bH.mpr ⟨re.2,lY.mpr D,S⟩⟩
theorem nodup_map_on{D:sB->At}:∀{G:List sB},(G.map D).Nodup->∀z∈G,∀A∈G,D z=D A->z=A
 |[],_,_,a,_,_,_=>nomatch a
 |x::g,a,z,f,A,d,b=>by
  rw [aZ,ej]at a;rcases bg.mp f with S|e
  .rcases bg.mp d with M|c
   .rw [S,M]
   .exact absurd (bH.mpr ⟨A,c,by rw [<-S];exact b.symm⟩) a.1
  .rcases bg.mp d with M|c
   .exact absurd (bH.mpr ⟨z,e,by rw [<-M];exact b⟩) a.1
   .exact nodup_map_on a.2 z e A c b
def yq(c:pp.map (·.1)=rc.map pk)(U:rc.Nodup)(a:∀D∈rc,D.1<5/\D.2<31):jJ m p pp:=by
 unfold jJ;have d:(pp.map λb=>(tk m p).hash b.1)=rc.map yn:=by
  have:(pp.map λb=>(tk m p).hash b.1)=(pp.map (·.1)).map (tk m p).hash:=by rw [d7];rfl
  rw [this,c,d7];rfl
 rw [d];clear c d;induction rc with
 |nil=>exact gc
 |cons D j g=>
  rw [ej]at U;rw [aZ,ej];exists λh=>?_,g U.2 λT G=>a T (bC _ G);let⟨T,G,i⟩:=bH.mp h;have e:=a D bE
  have f:=a T (bC _ G);have:=nodup_map_on Pb T (yp f.1 f.2) D (yp e.1 e.2) i
  rw [this]at G;exact U.1 G
abbrev Ej:a7:=top 70
def Ek(N:pp.map (·.1)=rc.map pk)(z:Pr)(T:Z)(v:V):(cy pp (pk z) T v).map (·.1)=(dW rc z).map pk:=by
 have A:=kJ N z;by_cases c:z∈rc
 .rw [Bz c];rw [cq c]at A;unfold cy;rw [ai A,d7,<-N];refine gE λD _=>?_;show(if D.1=pk z then(D.1,D.2.1,v)else D).1=D.1
  split<;>rfl
 .rw [BB c];rw [bU c]at A;have U:cm pp (pk z)=O:=by
   cases a:cm pp (pk z)with
   |none=>rfl
   |some v=>rw [a]at A;cases A
  rw [iw _ _ U,aT,aT,N];rfl
theorem rk:∀{D z:bW} {G A:List Pr},z.map (·.1)=A.map pk->D.map (·.1)=G.map pk->(hX z D).map (·.1)=(cS A G).map pk
 |[],z,[],A,b,_=>b
 |[],z,c::G,A,b,a=>by cases a
 |x::D,z,[],A,b,a=>by cases a
 |x::D,z,c::G,A,b,a=>by
  rw [aZ,aZ]at a;injection a with d e;show(hX (cy z x.1 x.2.1 x.2.2) D).map (·.1)=(cS (dW A c) G).map pk
  refine rk ?_ e;rw [d];exact Ek b c _ _
def yr(A:bG pc)(G:ul∈bp pc):(a6 ul).1<5/\(a6 ul).2<31:=by
 have M:=A.bL;rcases i5.mp G with rfl|⟨a,y,c,rfl,b⟩|⟨a,x,y,rfl,b⟩|⟨a,d,rfl,b⟩
 .exact⟨by decide,by decide⟩
 .have:=A.lt b;exact⟨by show 1<5;decide,by show a<31;have:a<size pc:=this;cutsat⟩
 .have:=A.lt b;exact⟨by show 2<5;decide,by show a<31;have:a<size pc:=this;cutsat⟩
 .have:=A.lt b;exact⟨by show 3<5;decide,by show a<31;have:a<size pc:=this;cutsat⟩
def El(T:(pp.map (·.2.2)).Nodup)(U:cm pp (pk re)=Y (.ref d))(a:cm pp (pk Fk)=Y (.ref d)):re=Fk:=by
 let⟨M,N,b⟩:=cv.mp U;let⟨y,S,c⟩:=cv.mp a;have:=nodup_map_on T M (fq N) y (fq S) (b.trans c.symm)
 have z:M.1=pk re:=by simpa using mb N
 have e:y.1=pk Fk:=by simpa using mb S
 exact lP (by rw [<-z,<-e,this])
def rl(A:bG pc)(M:bM pc or wr)(T:ba or re=Y rc)(c:pp.map (·.1)=rc.map pk):jJ m p pp:=by refine yq c (M.len A T).2 λd e=>?_;let⟨g,f,rfl⟩:=M.sub T d e;exact yr A f
inductive tU (m:aw) (p:au) (K:af) (D M:Z) (N:List V) (H:U) (S:VK) (T:XK):Prop
 |mk(P e:_)(_:N=[.ref P])(_:cg K D M H P e)(_:∀z A tab,b8 m p K H A z tab->bM e tab (gr e (gm e))->S (.ref z) A)
def Pc{G:aw}(f1:a9 K "least_table" "least_table" Ej Q o0)(kP:eE K d q)(dp:L "len"=O)(f2:bz G p K L P aE 2 "own_table" ["program"] (tT G p K d q)) (f4:bz G p K L P aE 4 "ways_of" ["program","table"] (ri G p K d q)):aV G p K L P aE 5 Q o0 ["program"] (tU G p K d q):=by
 refine f1.go ["program","table","grown","ways","begin","end","before"] λkV k0 k1 g H k2 k3 k5 ds a t an sz=>?_;let⟨N,c,rfl,cr,f8⟩:=a;have cs:=ds.mo 2
 exists _,ar (bj 1 t (bI f2 cs (aJ 0))) (ar (bj 2 t hx) (ar (oe dZ (kn (T 2)) (ar (bj 2 t hx) (ar (bj 3 t (bI f4 ds (A (T 0) (aJ 1)))) (ay (d3 dZ S (dC (T 3)) (lj S (gT (bX 4 t) (gT (bX 5 t) lh))) (ar (bj 6 t (cR oB (by rfl) dp dE (A (ff an (T 1) (T 5) (λ_ _=>S)) aC))) (ar (cM (sL an (ff an (T 1) (T 5) (λ_ _=>S)) (ff an (T 1) (T 4) (λ_ _=>S)) ⟨S,S,S,S⟩)) (ay (bK (bS vI (cR oB (by rfl) dp dE (A (ff an (T 1) (T 5) (λ_ _=>S)) aC)) (T 6) (bV _)) (ay (bj 2 t hx)) bQ))))))))) (ay (aQ (T 1))))),?_;have k:=cr.ok
 exists _,S,N,c,S,cr,λl bm ab=>?_;have bn:=ym k
 let ga:VLx:=λdx B bm=>X6 λdK C E F b f=>A7 (B=[Y (.ref N),Y (.ref l),Y (.bl f),dK,C,E,F]) (b8 G p K H bm l b) (bM c b (bT b)) (∀N M,fG c N M->bT b N M) (∀N M,bT b N M->gJ c N M) (f=ao->∀g n,ed c (bT b) g n->∀M,bT b g M->bT b n M) (dx=(2790-ez b)*2+(if f=I then 1 else 0));exists ga,⟨_,O,O,O,O,_,I,S,ab,bn.tt,λN M a=>?_,λN M a=>?_,(λa=>by cases a),S⟩,?_
 .exact(bn.mY (lC a).1 M).mpr a
 .exact(qL c).iz N M ((bn.mY (bn.lL a) M).mp a)
 rintro dx B bm ⟨dK,C,E,F,b,f,rfl,ab,ap,dL,ct,ge,rfl⟩;exists _,S,_,S,?_;cases f with
 |false=>exact b1 ⟨_,S,f8 l bm b ab (Nj ap dL ct (ge S))⟩
 |true=>
 refine cf ⟨_,(λla lb a=>a),?_⟩;exists _,S,_,S,N,cV c,l,b,S,(cr.ext ab.ext).prog,ab.at,ap.ok k,λas lc gl ld ⟨ad,dT,d0⟩=>?_;have cs:=ab.on gl
 exists _,S,as,S,⟨_,av.of dT⟩,?_;have go:∀{i:Nat} {w:Wy},(fA (cV c) b (cV c).nodes.length)[i]?=Y w->∃s bl,w=(D s,D bl)/\s∈aq c/\bl∈aq c/\ed c (bT b) s bl:=λ{i w} a=>by let⟨s,bl,bs,c0,bt,a0,gt⟩:=tu k ap (cG (show _=Y (w.1,w.2)from a));exists s,bl,kf bs c0,bt,a0,gt
 let g1:VLx:=λbv B o=>X5 λC E F e f=>A10 (B=[Y (.ref N),Y (.ref l),Y (.bl f),Y (.ref as),C,E,F]) (b8 G p K H o l e) (bM c e (bT e)) (∀N M,bT b N M->bT e N M) (∀N M,bT e N M->gJ c N M) (ez b<=ez e) (f=I->ez b<ez e) (f=ao->e=b/\∀i<bv,∀g n,(fA (cV c) b (cV c).nodes.length)[i]?=Y (D g,D n)->∀M,bT b g M->bT b n M) (o as=Y (.lst (ad.map V.ref))) (cE (da K o) ad (fA (cV c) b (cV c).nodes.length));refine fw (xs:=ad.map V.ref) g1 ?_ ?_ ?_ ?_
 .exact⟨_,_,_,b,ao,S,cs,ap,λ_ _ a=>a,ct,aR _,(λa=>by cases a),λ_=>⟨S,λi h=>absurd h (k8 _)⟩,dT,d0⟩
 .rintro bv B o _ ⟨_,_,_,_,_,_,_,_,_,_,_,_,_,a,_⟩;exact av.of a
 .rintro bv w B o a1 ⟨C,E,F,e,f,rfl,al,j,ca,a2,c1,cd,am,ce,ch⟩;rw [bh]at a1;cases c2:ad[bv]? with
  |none=>rw [c2]at a1;cases a1
  |some d1=>
   rw [c2]at a1;obtain rfl:=aS a1;let⟨y,c3,g2,a3,g3,hd,ci⟩:=eA ch c2;let⟨s,bl,rfl,he,em,hw⟩:=go c3;let⟨cl,a4,a5,c4,eq,hf,hi⟩:=al.ex;let⟨dd,cn,le,lf,hm⟩:=j.row bl em;let⟨dl,c5,li,hz,es⟩:=j.row s he;let⟨r,bd,v,bk,co,ev⟩:=gv c4 cn;let⟨h0,bs,be,c0,bt,a0⟩:=gv c4 c5;have lm:v.length=dd.length:=by have:=bD cN ev;rwa [z,z]at this
   have ln:be.length=dl.length:=by have:=bD cN a0;rwa [z,z]at this
   have lo:=(j.len k cn).1;have lp:=(j.len k c5).1
   exists d1,_,S,g3,S,_,_,S,_,_,S,S,?_;exists _,S,_,S,l,_,S,⟨cl,pk (D bl),a3,a4,a5,S,ci,bd.symm⟩,r,v,S,bk,co,?_;exists _,S,_,S,l,_,S,⟨cl,pk (D bl),a3,a4,a5,S,ci,bd.symm⟩,r,S,⟨v,bk⟩,_,S,_,S,l,_,S,⟨cl,pk (D s),g2,a4,a5,S,hd,bs.symm⟩,v,h0,be,S,bk,co,c0,bt,by lia,λ_=>rl k j c5 a0,λex=>?_,λex=>?_
   .
    exists _,S,_,S,l,_,S,⟨cl,pk (D bl),a3,a4,a5,S,ci,bd.symm⟩,r,v,S,bk,co,_,S,_,_,S,S,_,S,?_;rw [bU (by lia)];refine b1 ⟨_,_,_,e,f,S,al,j,ca,a2,c1,cd,λbi=>?_,ce,ch⟩;let⟨x,R⟩:=am bi;exists x,λi h g n W M X=>?_;rcases kg.mp h with h|rfl
    .exact R i h g n W M X
    .rw [c3]at W;injection (aS W)with c6 c7;obtain rfl:=d4 c6;obtain rfl:=d4 c7;have:=El eq bd (by rw [ex];exact bs)
     rw [d4 this];exact X
   .have h1:=cW ce bk (by intro c8;cases c8);have fa:cX (o r)\/o r=O:=.inl (by rw [bk];exact trivial)
    have c9:=b8.put (ps:=cS dd dl) al.ext a4 a5 c4 eq hf hi al.new (j.nodup k) bd bk (qI co bt) (rk ev a0);let⟨fd,fl,ls,h2⟩:=j.CT k em cn (qs:=dl) hz;have fm:upd o r (dX G p r (hX v be)) as=Y (.lst (ad.map V.ref)):=(ah h1).trans ce
    have fn:cE (da K (upd o r (dX G p r (hX v be)))) ad (fA (cV c) b (cV c).nodes.length):=Paired.cb ch λd1 w c8=>da.upd fa c8;have id:ax K (upd o r (dX G p r (hX v be))) a3 (b4 (D bl)):=bF fa ci
    have ii:ba (dM e (D bl) (cS dd dl)) (D bl)=Y (cS dd dl):=by rw [o9 _ (kE cn),ai S]
    have fr:∀N M,bT b N M->bT (dM e (D bl) (cS dd dl)) N M:=λN M a=>(fl N M).mpr (.inl (ca N M a));have fs:∀N M,bT (dM e (D bl) (cS dd dl)) N M->gJ c N M:=λN M a=>by
     rcases(fl N M).mp a with im|⟨io,is⟩
     .exact a2 N M im
     .rw [io];exact(qL c).way s bl M (hw.mono ct) (a2 _ _ ((es M).mp is))
    generalize dM e (D bl) (cS dd dl)=fT at*;let⟨it,x,R,ix,lt,lv,lw⟩:=c9.ex;let⟨jp,kk,f0,kp,ks,kt⟩:=gv ix ii;have l0:f0.length=(cS dd dl).length:=by have:=bD cN kt;rwa [z,z]at this
    have mg:=mB (u:=dd) (m:=dl);exists _,S,_,S,l,_,S,⟨it,pk (D bl),a3,x,R,S,id,kk.symm⟩,jp,f0,S,kp,ks,_,S,_,_,S,S,_,S,?_;by_cases mk:dd.length<(cS dd dl).length
    .rw [cq (by lia)];refine cf ⟨_,_,_,fT,I,S,c9,fd,fr,fs,by lia,λ_=>by lia,(λa=>by cases a),fm,fn⟩
    .rw [bU (by lia)];let⟨db,kw⟩:=h2 (by lia);refine b1 ⟨_,_,_,fT,f,S,c9,fd,fr,fs,by rw [db];exact c1,λa=>by rw [db];exact cd a,λbi=>?_,fm,fn⟩;let⟨x,R⟩:=am bi;exists by rw [db];exact x,λi h g n W M X=>?_;rcases kg.mp h with h|rfl
     .exact R i h g n W M X
     .rw [c3]at W;injection (aS W)with c6 c7;obtain rfl:=d4 c6;obtain rfl:=d4 c7;subst x;exact(hm M).mp (kw _ ((es M).mpr X))
 .rintro B o ⟨C,E,F,e,f,rfl,al,j,ca,a2,c1,cd,am,ce,ch⟩;rw [z,bO d0]at am;have mo:=j.CI k
  have mp:=ap.CI k;exists _,?_,Y (.ref as),C,E,F,e,f,S,al,j,λN M a=>ca N M (dL N M a),a2,λbi=>?_,S
  .cases f with
   |true=>have:=cd S;simp only [eQ];lia
   |false=>have:=(am S).1;subst this;simp only [eQ,nJ,ie];lia
  .obtain⟨x,R⟩:=am bi;subst x;intro g n hw M X;let⟨i,h⟩:=hR.mp (tw k j hw);exact R i (cF.mp h).1 g n h M X
abbrev Em:a7:=top 73
abbrev En:a7:=top 74
abbrev Eo:a7:=top 75
variable{t:ak}{pr:List (Z×aL)}
def Ep(G:Inv h pr s3 H t)(M:Rd H d (dX h.prog h.w d pp))(N:b9 h.K H pp):pp.length<=aU/\(d==er)=ao/\∃z,e3 pp z/\t.heap.DictOfH (iL (eK h.prog h.w)) d z:=by
 let⟨S,T,U,z,D,o,c,X,e,f,g,a⟩:=sH (M.ok G.bf);exists S,T,z,D,o,c,X,e,f,g,a,λi j=>?_,D.keys▸U;let⟨l,m,n,p⟩:=D.mem i j;have:=lz G (N l m)
 rw [n,p]at this;exact this
variable{AT:List Key}{s5 IO:J->ak->Prop}{sc:bZ}{v:V}
def Pd(N:sc.units+1<cK)(D:Inv h pr s3 H t)(S:Rd H d (dX h.prog h.w d pp))(T:b9 h.K H pp)(U:ax h.K H q (AT.map kV))(c:cm pp AT=Y v)(X:∀z M,Inv h pr s3 H M->RelV v z->s5 z M):aI (aM h.prog h.w) sc (nG (.ref d) (.ref q)) s5 IO t:=by let⟨l,m,e,f,g⟩:=Ep D S T;let⟨z,hw,k⟩:=fv.some_of (v:=v) (o:=(fN e AT).map (·.2)) (c▸f.val AT);let⟨n,i,j⟩:=cv.mp hw;refine GI (nL N) (lz D U) g i ?_;rw [j];exact X z _ (D.tok _) k
inductive Pe (G:aw) (w:au) (K:af) (M:VK) (x:V) (y:V) (z:U):Prop
 |mk(a v:_)(_:x=.ref a)(_:(∃A k D,Rd z a (dX G w a A)/\b9 K z A/\y=.ref D/\ax K z D (k.map kV)/\Y v=cm A k))(_:M v z)
def Pf(A:aw)(D:au)(K:af)(G M:TE):TE:=λz H N=>G z H λS T=>M z T λy U=>Pe A D K N S y U
def Er(z:aw)(A:au)(K:af)(U:h.A.units+1<cK)(a:PE h o ss)(b:PE h i xL)(c:ox i)(d:h.prog=z:=by rfl)(hw:h.w=A:=by rfl)(e:h.K=K:=by rfl):PE h (.Subscript o i pu) (Pf z A K ss xL):=by subst d hw e;intro D f G H R g X;refine sA zl.lookup c (aN (a D f G H _ g X) λu j ⟨V,k,l,m,n⟩=>aN (b D j G k _ l n) λp ab ⟨y,q,M,r,s,v,t,⟨ad,al,w,N,T,x,B,C⟩,E⟩=>?_);subst t x;obtain rfl:u=cp s:=m;cases (show p=cp w from r);let⟨_,_,am,an,L⟩:=Ep M N T;exists L.typeIs,Pd U M N T B C.symm λap as P Q=>⟨v,q,P,Q,E⟩
def Es(D:aw)(G:au)(K:af)(M:h.prog=D:=by rfl)(hw:h.w=G:=by rfl)(N:h.K=K:=by rfl):hA h (.builtin "len") (λT H U=>∃z A,T=[.ref z]/\H z=Y (dX D G z A)/\b9 K H A/\U (.int A.length) H):=by subst M hw N;exact oB
theorem yt:∀z:List Nat,((z.map λA:Nat=>(A:Int)).sum)=((z.sum:Nat):Int)
 |[]=>rfl
 |a::b=>by rw [aZ,eC,eC,yt b];lia
inductive yu (m:aw) (p:au) (K:af) (A:List V) (H:U) (D:VK) (M:XK):Prop
 |mk(t tab:_)(_:A=[.ref t])(_:TabAt m p K H t tab)(_:(tab.map (·.1)).Nodup)(_:tab.length<=1000)(_:∀z,Ext H z->D (.int (ez tab:Nat)) z)
def Ph(a0:a9 K "how_many_facts" "how_many_facts" Em d o0)(a1:L "len"=O)(a2:L "sum"=O):f_ 1 d o0 ["table"] (yu m p K):=by
 refine a0.go ["table","place"] λce ch ci u H cl cn co cr w R a3 sz=>?_;let⟨a,v,rfl,⟨b,x,W,n,cs,a4⟩,X,ct,a5⟩:=w;exists _,ay (aQ (cR (AG S) (by rfl) a2 (by decide+kernel) (A (AU (fS (own:=[("place",1)]) S R (lB (T 0)) (e2 S) (λu H ab ad al=>bX 1 R) (λu H ab ad al=>hB) (λu H ab ad al=>cR (Es m p K) (by rfl) a1 dE (A (Er m p K a3 (T 0) (T 1) (λ_ _=>S)) aC)))) aC))),?_;dsimp;exists a,_,x,trivial,λB=>?_;exists _,S,a,B,b,S,M,λQ h=>?_;have q:a≠Q:=by intro f;rw [<-f,M]at h;cases h
 have am:H Q=O:=by rw [ah q.symm]at h;exact h
 have bd:=bO n;let be:VCx:=λi e=>A4 (e Q=Y (.lst ((v.take i).map λy=>V.int (y.2.length:Nat)))) (e a=Y (.bP B (dX m p a b))) (∀D j,ax K H D j->ax K e D j) (∀D o,D≠a->H D=Y o->e D=Y o)
 refine ra (aX:=b) be ?_ ?_ ?_ ?_
 .refine⟨M,by rw [ah q,M],λD j w=>bF (.inr h) (bF (.inl (x▸trivial)) w),λD o c g=>?_⟩;rwa [ah (cB g am),ah c]
 .rintro i e _ ⟨_,w,_⟩;exact w
 .rintro i N e an ⟨k,C,l,r⟩;let⟨y,E,c0,G,ap,as,bi,bk,bl⟩:=eA n an;have c1:=(cF.mp E).1
  have s:=cG an;have bm:G≠a:=by intro f;apply a4;rw [<-f,<-ap];exact dY s
  have bn:Y (V.ref G)=cm b N.1:=by
   let⟨c2,c3,c4⟩:=gv n (hI X (show(y.1,y.2)∈v from cG E));have bs:cm b N.1=Y N.2.2:=by
    unfold cm;cases t:b.find? λF=>decide (F.1=N.1)with
    |none=>
     rw [nN]at t;exact absurd (cq S) (t N s)
    |some f=>
     have bt:f.1=N.1:=by simpa using mb t
     have bv:(b.map (·.1)).Nodup:=by rw [yh n];exact iD (λ_ _=>lP) X
     rw [nodup_map_on bv f (fq t) N s bt];rfl
   rw [bs,ap]
  exists S,?_;unfold hk;dsimp only [];rw [ai S];exists _,S,_,S,a,.ref G,S,⟨b,N.1,N.2.1,.inr ⟨B,C⟩,λF ca=>l _ _ (W F ca),S,l _ _ (W N s),bn⟩,G,as,S,r G _ bm bi,bk.same l,_,k,by rw [z,dU];lia,?_,?_,?_,?_
  .rw [M,dq,E,aT];have:as.length=y.2.length:=by have:=bD cN bl;rwa [z,z]at this
   rw [this];rfl
  .rwa [ah q]
  .exactλD j w=>bF (.inl (k▸trivial)) (l D j w)
  .intro D o c g;rw [ah (cB g am)];exact r D o c g
 .rintro e ⟨k,C,l,r⟩;rw [bd,dB]at k;exists C,Q,(v.map λy=>y.2.length).map λcd:Nat=>(cd:Int),S,av.of (by rw [ah q.symm,k,d7,d7];rfl),?_;rw [yt];refine a5 _ λD o g=>?_;by_cases c:D=a
  .rwa [c,M,<-x,<-c]
  .rw [ah c];exact r D o c g
def hr(z:Ex)(A:List Pr):List Pr:=((bp z).map a6).filter λD=>decide (D∈A)
def Et(D:bG pc)(M:List Pr):(hr pc M).length<=31:=by
 unfold hr;refine cu (iX _ _) ?_;rw [z];have:=lK pc
 have:=D.bL
 lia
inductive yv (m:aw) (p:au) (K:af) (D M:Z) (N:List V) (H:U) (S:VK) (T:XK):Prop
 |mk(P e t tab b a ps:_)(_:N=[.ref P,.ref t,.ref b])(_:cg K D M H P e)(_:TabAt m p K H t tab)(_:ax K H b (b4 a))(_:ba tab a=Y ps)(_:∀z A,Ext H A->H z=O->A z=Y (.lst ((eU (hr e ps)).map λx=>V.int (x:Nat)))->S (.ref z) A)
set_option tactic.hygienic true
def Pj{u:Z}{v:bc}(X:a9 K "functions_at" "functions_at" En q v)(bt:eE K d u)(ad:L "FUNCTION_KIND"=Y (.int 1 wS))(al:g_ 1 "sorts_at" ["program","table","place"] (tJ m p K d)):f_ 2 q v ["program","table","place"] (yv m p K d u):=by
 refine X.go ["program","table","place","sort"] λbv ca cd l H ce ch ci am G x _ sz=>?_;let⟨an,D,ap,as,a0,a1,a,rfl,n,a2,a3,a4,a5⟩:=G;exists _,ay (aQ (fS (own:=[("sort",3)]) S x (dC (bI al am (A (T 0) (A (T 1) (aJ 2))))) (e2 S) (λl H d y B=>bX 3 x) (λl H d y B=>kv (bS cT (cc (pd K) (T 3) cL (λ_ _=>S)) (b7 ad) (bV _))) (λl H d y B=>cc (pd K) (T 3) cL (λ_ _=>S)))),?_;dsimp;let⟨bd,be,bi⟩:=n.prog.sorts;have bk:((bp D).map a6).length<=10000:=by rw [z];have:=lK D;have:=n.ok.bL;lia
 exists _,S,_,S,_,S,an,ap,a0,bd,_,as,a1,a,S,be,bi,bk,a2,a3,a4,λbl C E cl ⟨o,bm,j⟩ _=>?_;have F:=bm
 have cn:=Et n.ok a;exists bl,S,⟨_,F⟩,λw t=>?_;have j:fJ K C o (hr D a):=j
 let Q:VCx:=λi e=>e w=Y (.lst ((eU ((hr D a).take i)).map λR=>V.int (R:Nat)))/\Ext C e;refine hC (xs:=o.map V.ref) Q ?_ ?_ ?_ ?_
 .exact⟨M,Ext.one t⟩
 .rintro i e _ ⟨_,b⟩;exact b.ef F
 .rintro i R e f ⟨g,b⟩;rw [bh]at f;cases ab:o[i]? with
  |none=>rw [ab]at f;cases f
  |some c=>
   rw [ab]at f;obtain rfl:=aS f;let⟨h,W,k⟩:=eA j ab;have k:=b.aP k
   have co:=(cF.mp W).1;have bn:eU ((hr D a).take (i+1))=eU ((hr D a).take i)++(if h.1=1 then [h.2]else []):=by
    rw [dq,W];unfold eU;rw [vh];congr 1;show TN _ [h]=_
    rw [kR,zU];split<;>rename_i G<;>split at G<;>simp_all
   exists S,_,S,_,_,_,_,S,S,k,S,S,_,S,?_;dsimp only [Q];rw [bn];refine ec (λr=>?_) (λr=>?_)
   .have s:h.1=1:=by
     have:=d6 r;injection this with this
     lia
    rw [ai s];exists _,S,_,_,_,_,S,S,k,S,_,g,?_,?_,b.upd t
    .rw [z];have:(eU ((hr D a).take i)).length<=i:=cu (iU _ _) (by rw [dU];lia)
     lia
    .rw [M,aT];rfl
   .have s:¬h.1=1:=λbs=>r (cq (by rw [bs];rfl));rw [N s,b0];exists g,b
 .rintro e ⟨g,b⟩;rw [z,bO j,dB]at g;exact a5 w e (E.trans b) (E.none t) g
set_option tactic.hygienic false
inductive yw (m:aw) (p:au) (K:af) (D M:Z) (N:List V) (H:U) (S:VK) (T:XK):Prop
 |mk(P e t tab:_)(_:N=[.ref P,.ref t])(_:cg K D M H P e)(_:TabAt m p K H t tab)(_:(∀c,c<size e->∃ps,ba tab (0,c)=Y ps))(_:∀z A,Ext H A->H z=O->LstAt K A z (hJ (infos O e) λc=>eU (hr e ((ba tab (0,c)).getD [])))->S (.ref z) A)
def Pk{v:Z}(c5:a9 K "arrows_of" "arrows_of" Eo v o0)(ev:eE K d q)(c6:h_ 2 d "calls_within" ["self"] (yg K d q))(c7:h_ 1 d "first_part_of" ["self","label"] (tS K d q))(c8:g_ 2 "functions_at" ["program","table","place"] (yv m p K d q)):f_ 3 v o0 ["program","table"] (yw m p K d q):=by
 refine c5.go ["program","table","arrows","call","fun"] λex fa fd fl H B fm fn an C ap _ sz=>?_;let⟨cd,D,as,a0,rfl,w,c9,db,b⟩:=C;have Q:=w.ok
 exists _,ar (bj 2 ap (de aC)) (ar (d3 dZ S (dC (dR (E:=E0) (T 0) c6 an cx)) (bX 3 ap) (ay (d3 dZ S (dC (bI c8 an (A (T 0) (A (T 1) (A (eL (E:=E0) (T 0) c7 (an.mo 1) cx (aJ 3)) aC))))) (bX 4 ap) (ay (cM (fe fu f9 gF fQ (T 2) (A (b6 (A (T 3) (aJ 4))) aC))))))) (ay (aQ (T 2)))),?_;exists cP _,λj a1=>?_;have a2:Ext H (upd H j (.lst [])):=Ext.one a1
 let⟨ce,fr,fs,fT,f0,f1,ch,_⟩:=w.ex;exists _,S,cd,ce,_,S,a2 _ _ ch,S,cd,D,S,w.ext a2,λW f2 ci cl cn=>?_;have dd:W≠j:=by intro a3;rw [a3,M]at cl;cases cl
 exists W,S,⟨_,av.of cn⟩,?_;let h:=cz (infos O D) λv=>decide (v=.call)
 let e:Nat->List Nat:=λc=>eU (hr D ((ba a0 (0,c)).getD []));have f4:h.length<=30:=by have:=nr (infos O D) λv=>decide (v=.call);rw [eT]at this;exact cu this Q.bL
 have co:∀c,(e c).length<=31:=λc=>cu (iU _ _) (Et Q _);have dl:∀B:List Nat,(B.flatMap λN=>(e (dG (infos O D) N)).map λb=>((N,b):Pr)).length<=31*B.length:=by
  intro B;induction B with
  |nil=>simp
  |cons a f8 ga=>
   rw [b3,br,z,dn];have:=co (dG (infos O D) a)
   lia
 let a4:VLx:=λn G r=>X2 λa5 s=>A4 (G=[Y (.ref cd),Y (.ref as),Y (.ref j),a5,s]) (eO K r j ((h.take n).flatMap λN=>(e (dG (infos O D) N)).map λb=>((N,b):Pr))) (Ext H r) (r W=Y (.lst (h.map λf=>V.int (f:Nat))));refine fw (xs:=h.map λf=>V.int (f:Nat)) a4 ?_ ?_ ?_ ?_
 .exact⟨O,O,S,⟨[],ci _ _ M,.nil⟩,a2.trans ci,cn⟩
 .rintro n G r _ ⟨_,_,_,_,_,C⟩;exact av.of C
 .rintro n f G r g ⟨a5,s,rfl,cr,R,cs⟩;rw [bh]at g;cases X:h[n]? with
  |none=>rw [X]at g;cases g
  |some u=>
   rw [X]at g;obtain rfl:=aS g;let⟨bd,be,ct,ab⟩:=(tD Q _).mp (cG X);obtain⟨x,bi,bk⟩:∃x bi,kids bd=x::bi:=by
    cases bd with
    |app N a dp=>exists a,[dp],S
    |var N y=>simp only [aB]at ab;split at ab<;>cases ab
    |_=>cases ab
   have ds:dG (infos O D) u=ag x:=ct▸Q.part be bk;have dx:=i6 be (bk▸bE)
   let⟨c0,c1⟩:=db (ag x) (Q.lt dx);have dK:(h.take (n+1)).flatMap (λN=>(e (dG (infos O D) N)).map λb=>((N,b):Pr))=(h.take n).flatMap (λN=>(e (dG (infos O D) N)).map λb=>((N,b):Pr))++(e (ag x)).map λb=>((u,b):Pr):=by
    rw [dq,X,k4];congr 1;show(e (dG (infos O D) u)).map _++[]=_
    rw [ds,b0]
   have dL:e (ag x)=eU (hr D c0):=by show eU (hr D ((ba a0 (0,ag x)).getD []))=_;rw [c1];rfl
   exists _,S,_,S,_,S,cd,ce,_,S,R _ _ ch,S,_,S,cd,D,bd,x,bi,by rw [ct];rfl,w.ext R,be,bk,λdT ge ad gl dX=>?_;have bl:=R.trans ad
   exists cd,D,as,a0,dT,(0,ag x),c0,S,w.ext bl,c9.ext bl,dX,c1,λbm go bn c2 bs=>?_;have d0:bm≠j:=by intro a3;let⟨c3,d1,_⟩:=cr;rw [a3,ad _ _ d1]at c2;cases c2
   exists bm,S,⟨_,av.of bs⟩,?_;rw [<-dL]at bs;have em:=dl (h.take n)
   rw [dU]at em;let a4:VLx:=λi G t=>∃s,A5 (G=[Y (.ref cd),Y (.ref as),Y (.ref j),Y (.int (u:Nat)),s]) (eO K t j ((h.take n).flatMap (λN=>(e (dG (infos O D) N)).map λb=>((N,b):Pr))++((e (ag x)).take i).map λb=>((u,b):Pr))) (Ext H t) (t W=Y (.lst (h.map λf=>V.int (f:Nat)))) (t bm=Y (.lst ((e (ag x)).map λf=>V.int (f:Nat))))
   refine fw (xs:=(e (ag x)).map λf=>V.int (f:Nat)) a4 ?_ ?_ ?_ ?_
   .exact⟨_,S,by rw [qh,hP,b0];exact cr.ext (ad.trans bn),bl.trans bn,bn _ _ (ad _ _ cs),bs⟩
   .rintro i G t _ ⟨_,_,_,_,_,C⟩;exact av.of C
   .rintro i f G t g ⟨s,rfl,⟨c3,o,c4⟩,bt,al,bv⟩;rw [bh]at g;cases ca:(e (ag x))[i]? with
    |none=>rw [ca]at g;cases g
    |some eq=>
     rw [ca]at g;obtain rfl:=aS g;exists _,S,.inl ⟨S,_,av.of o⟩,_,S,_,S,cD,λgt am=>?_;let⟨es,g1⟩:=eO.push (K:=K) (k:=u) (l:=eq) o c4 am;have g2:c3.length<=2000:=by
      rw [bO c4,br,z,dU];have:=co (ag x)
      lia
     exists j,_,_,S,S,es,by rw [z];lia,_,S,?_,(bt.new am).upd a1,?_,?_
     .rwa [dq,ca,aT,<-ck]
     .exact(ah dd).trans ((ah (cB al am)).trans al)
     .exact(ah d0).trans ((ah (cB bv am)).trans bv)
   .rintro G t ⟨s,rfl,o,bt,al,bv⟩;rw [z,dB]at o;exists _,_,S,dK▸o,bt,al
 .rintro G r ⟨a5,s,rfl,o,R,cs⟩;rw [z,dB]at o;exists _,S,b j r R a1 o.lst
abbrev Eu:a7:=top 68
abbrev Ew:a7:=top 69
def tabOf(A:Ex)(G:aA->List Pr):Tb:=(aq A).map λz=>(D z,G z)
def yx(z:Ex)(A:aA->List Pr):(tabOf z A).map (·.1)=(aq z).map D:=by unfold tabOf;rw [d7];rfl
def yy(T:bG pc){D:aA->List Pr}(U:∀z∈aq pc,(D z).Nodup/\(∀a∈D z,∃G∈bp pc,a=a6 G)/\∀G,a6 G∈D z↔wr z G):bM pc (tabOf pc D) wr:=by exists yx pc D,λz N=>?_;let⟨b,c,d⟩:=U z N;exists D z,hI (by rw [yx];exact lU T) (bH.mpr ⟨z,N,S⟩),b,c,d
def yz{H:U}(S:H d=O)(T:fk m p K H pp or):V.ref d∉pp.map (·.2.2):=by
 induction T with
 |nil=>exactλa=>nomatch a
 | @cons x y pp or b e c=>
  intro z;let⟨_,f,A,g,N,_⟩:=b;rcases bg.mp z with z|z
  .have z:V.ref d=x.2.2:=z;rw [A]at z;injection z with z;rw [<-z,S]at N;cases N
  .exact c z
variable{Gc:U}
def b8.next{c:Z}{ps:List Pr}(a:b8 m p K Gc sK d or)(D:Ext sK r)(j:fK m p K r q ps)(z:sK q=O)(k:ax K r c (b4 re))(l:re∉or.map (·.1))(w:or.length<=1000):∃M,r d=Y (dX m p d M)/\b9 K r M/\M.length<aU/\b8 m p K Gc (upd r d (dX m p d (cy M (pk re) c (.ref q)))) d (or++[(re,ps)]):=by
 have sz:(20000:Nat)<aU:=by decide
 let⟨M,e,h,f,A,n,o⟩:=a.ex;have s:=bO f
 exists M,D _ _ e,D.keys h,by lia,?_;exact b8.add (a.ext.trans D) (D _ _ e) (D.keys h) (Paired.cb f λt c i=>⟨i.1,let⟨q,N,P⟩:=i.2;⟨q,N,P.ext D⟩⟩) A n o a.new j (yz z f) (cB e z).symm (a.ext.none z) k l
theorem tV{H:U}(D:H d=O):b8 m p K H (upd H d (dX m p d [])) d []:=⟨Ext.one D,⟨[],M,(λ_ z=>nomatch z),.nil,gc,(λz=>nomatch z),λ_ z=>nomatch z⟩,D⟩
def yA(U:bG pc){R:aA->List Pr}{i:Nat}(a:((aq pc).map D)[i]?=Y re):∃N∈aq pc,re=D N/\(tabOf pc R).take (i+1)=(tabOf pc R).take i++[(re,R N)]/\re∉((tabOf pc R).take i).map (·.1)/\((tabOf pc R).take i).length<=1000:=by
 rw [bh]at a;let⟨N,T,rfl⟩:=cv.mp a;exists N,cG T,S,?_,?_,?_
 .unfold tabOf;rw [dq,bh,T];rfl
 .rw [TV,yx];exact yj (lU U) (by rw [bh,T];rfl)
 .have:=nt U;rw [z]at this;rw [dU];unfold tabOf;rw [z]
  lia
inductive Ey (m:aw) (p:au) (K:af) (D M:Z) (N:List V) (H:U) (S:VK) (T:XK):Prop
 |mk(P e:_)(_:N=[.ref P])(_:cg K D M H P e)(_:∀z A tab,b8 m p K H A z tab->bM e tab (gr e (gq e 0))->S (.ref z) A)
theorem tW(A:bG pc):((bp pc).map a6).Nodup:=iD (λ_ _=>lJ) (tp A)
def yB(D:bG pc):((bp pc).map a6).length<=31:=by
 rw [z];have:=lK pc
 have:=D.bL
 lia
def Pm{o:Z}(C:a9 K "everything_table" "everything_table" Eu o o0)(g:eE K d q)(E:g_ 1 "as_keys" ["sorts"] (xH m p K)):f_ 2 o o0 ["program"] (Ey m p K d q):=by
 refine C.go ["program","table","place"] λca cd ce ch H ci cl cn F b r w _=>?_;let⟨h,N,rfl,j,Q⟩:=b;exists _,ar (bj 1 r ky) (ar (d3 dZ S (dC (aF 0)) (bX 2 r) (ay (i4 w (T 1) (T 2) (bI E F (A (aF 0) aC)) S))) (ay (aQ (T 1)))),?_;let⟨W,X,ab,l,ad,al,s,t⟩:=j.places;let⟨am,⟨an,ap,as,a0⟩,a1⟩:=j.prog.sorts;have c:=j.ok
 intro a u;have v:Ext H (upd H a (dX m p a [])):=Ext.one u
 exists _,S,h,d,W,X,_,S,v _ _ ad,g.p.c,g.p.places,al,ab,S,⟨_,v.ef s⟩,?_;refine fw (xs:=l.map V.ref) (λi k f=>∃G,k=[Y (.ref h),Y (.ref a),G]/\b8 m p K H f a ((tabOf N λ_=>(bp N).map a6).take i)) ?_ ?_ ?_ ?_
 .exact⟨O,S,tV u⟩
 .rintro i k f _ ⟨_,_,M⟩;exact M.ext.ef s
 .rintro i a2 k f U ⟨G,rfl,M⟩;rw [bh]at U;cases e:l[i]? with
  |none=>rw [e]at U;cases U
  |some x=>
   rw [e]at U;obtain rfl:=aS U;let⟨co,a3,y⟩:=eA t e;let⟨a4,cr,rfl,a5,bd,lk⟩:=yA (R:=λ_=>(bp N).map a6) c a3;exists _,S,h,d,an,ap,_,S,M.ext _ _ as,g.p.c,g.p.sorts,a0,am,(bp N).map a6,S,a1.ext M.ext,tW c,by have:=yB c;lia,λcs ct n be bi=>?_;let⟨bk,bl,bm,bn,bs⟩:=M.next n bi be (n.aP (M.ext.aP y)) bd lk;rw [a5];exists _,S,_,S,a,bk,pk (D a4),x,S,bl,bm,S,n.aP (M.ext.aP y),bn,_,S,bs
 .rintro k f ⟨G,rfl,M⟩;have:((tabOf N λ_=>(bp N).map a6).take (l.map V.ref).length)=tabOf N λ_=>(bp N).map a6:=by
   rw [j4];rw [z,bO t,z];unfold tabOf;rw [z];exact aR _
  rw [this]at M;exists _,S,Q a f _ M (yy c λh j=>⟨tW c,λa2 U=>?_,λB=>?_⟩)
  .obtain⟨B,bt,rfl⟩:=bH.mp U;exists B,bt,S
  .constructor
   .intro b;let⟨x,e,bv⟩:=bH.mp b;rw [<-lJ bv];exists e,S
   .intro b;exact dY b.1
theorem Ez(z:Nat):∀M:List Nat,jE (.int (z:Nat)) (M.map λA=>V.int (A:Nat))=decide (z∈M)
 |[]=>rfl
 |A::a=>by
  show(jD (.int (A:Nat)) (.int (z:Nat))||jE (.int (z:Nat)) (a.map λA=>V.int (A:Nat)))=_;rw [Ez z a];show(((A:Int)==(z:Int))||_)=_
  by_cases c:A=z
  .subst c;simp
  .have T:((A:Int)==(z:Int))=ao:=iK.mpr λN=>c (by lia);rw [T,zk,hb];exists λD=>bC _ D,λD=>(bg.mp D).resolve_left λN=>c N.symm
theorem EA:∀z:List Nat,(z.map λA=>V.int (A:Nat)).all jC=I
 |[]=>rfl
 |_::a=>EA a
inductive EB (m:aw) (p:au) (K:af) (D M:Z) (N:List V) (H:U) (S:VK) (T:XK):Prop
 |mk(P e:_)(_:N=[.ref P])(_:cg K D M H P e)(_:∀z A tab,b8 m p K H A z tab->bM e tab (gr e (gq e 1))->S (.ref z) A)
def Pn(es:a9 K "kinds_table" "kinds_table" Ew Q o0)(a1:eE K d q)(ev:g_ 1 "as_keys" ["sorts"] (xH m p K))(ex:g_ 5 "least_table" ["program"] (tU m p K d q)):f_ 6 Q o0 ["program"] (EB m p K d q):=by
 refine es.go ["program","least","table","place","kinds","sort"] λks kt kw B H kP kV k0 c4 j c3 c5 sz=>?_;let⟨w,a,rfl,a2,fa⟩:=j;have fd:=c4.mo 1
 exists _,ar (bj 1 c3 (bI ex c4 (aJ 0))) (ar (bj 2 c3 ky) (ar (d3 dZ S (dC (aF 0)) (bX 3 c3) (ar (my (bj 4 c3 (fS (own:=[("sort",5)]) S c3 (lB (ff c5 (T 1) (T 3) (λ_ _=>S))) (e2 S) (λB H d h W=>bX 5 c3) (λB H d h W=>hB) (λB H d h W=>cc (pd K) (T 5) cL (λ_ _=>S))))) (ay (i4 c5 (T 2) (T 3) (bI ev fd (A (fS (own:=[("sort",5)]) S c3 (dC (aF 0)) (e2 S) (λB H d h W=>bX 5 c3) (λB H d h W=>kv (bS (DR K) (cc (pd K) (T 5) cL (λ_ _=>S)) (T 4) S)) (λB H d h W=>T 5)) aC)) S)))) (ay (aQ (T 2))))),?_;have r:=a2.ok
 exists _,S,w,a,S,a2,λbl bm c6 X a3=>?_;let⟨fl,fm,fn,bn,fr,fs,c7,c8⟩:=a2.places;let⟨c9,⟨fT,f0,f1,f2⟩,bs⟩:=a2.prog.sorts;have bs:LstAt K H c9 ((bp a).map a6):=bs
 intro C db;let E:aA->List Pr:=λl=>((bp a).map a6).filter λG=>decide (G.1∈((ba c6 (D l)).getD []).map (·.1))
 have f4:Ext bm (upd bm C (dX m p C [])):=Ext.one db;have dd:=X.ext.trans f4
 exists _,S,w,d,fl,fm,_,S,dd _ _ fr,a1.p.c,a1.p.places,fs,fn,S,⟨_,dd.ef c7⟩,?_;refine fw (xs:=bn.map V.ref) (λi a4 g=>∃bt bv ca,a4=[Y (.ref w),Y (.ref bl),Y (.ref C),bt,bv,ca]/\b8 m p K bm g C ((tabOf a E).take i)) ?_ ?_ ?_ ?_
 .exact⟨O,O,O,S,tV db⟩
 .rintro i a4 g _ ⟨_,_,_,_,s⟩;exact(X.ext.trans s.ext).ef c7
 .rintro i G a4 g e ⟨bt,bv,ca,rfl,s⟩;rw [bh]at e;cases f:bn[i]? with
  |none=>rw [f]at e;cases e
  |some U=>
   rw [f]at e;obtain rfl:=aS e;let⟨k1,f8,ab⟩:=eA c8 f;let⟨l,a5,rfl,ga,ge,lk⟩:=yA (R:=E) r f8;have bd:=X.ext.trans s.ext
   let⟨v,F,k2,k3,k5⟩:=a3.row l a5;have cd:E l=((bp a).map a6).filter λG=>decide (G.1∈v.map (·.1)):=by show TX (λG:Pr=>decide (G.1∈((ba c6 (D l)).getD []).map (·.1))) _=_;rw [F];rfl
   have la:=(a3.len r F).1;let⟨gl,go,gt,g1,lb,g2,lc⟩:=(X.on s.ext).ex;let⟨b,dl,c2,ce,g3,dp⟩:=gv g1 F;have hd:c2.length=v.length:=by have:=bD cN dp;rwa [z,z]at this
   have he:bl≠b:=by intro ad;apply g2;let⟨y,x,hf⟩:=cv.mp dl;rw [ad,<-hf];exact dY (fq x)
   have hi:cX (g b)\/g b=O:=.inl (by rw [ce];exact trivial);exists b,_,ce,trivial,λch=>?_;have ci:∀U bk,ax K g U bk->ax K (upd g b (.bP ch (dX m p b c2))) U bk:=λU bk=>bF hi
   exists _,S,_,S,bl,.ref b,S,⟨gl,pk (D l),U,(ah he).trans go,gt.same ci,S,ci _ _ (bd.aP ab),dl.symm⟩,b,ch,c2,S,M,λal am=>?_;have be:b≠al:=by intro ad;rw [<-ad,M]at am;cases am
   have ds:g al=O:=by rw [ah be.symm]at am;exact am
   refine ra (aX:=c2) (λi k=>k al=Y (.lst (((v.take i).map (·.1)).map λG=>V.int (G:Nat)))/\k b=Y (.bP ch (dX m p b c2))/\(∀U bk,ax K g U bk->ax K k U bk)/\∀U o,U≠b->g U=Y o->k U=Y o) ?_ ?_ ?_ ?_
   .refine⟨M,by rw [ah be,M],λU bk j=>bF (.inr am) (ci U bk j),λU o f a=>?_⟩;rw [ah (cB a ds),ah f];exact a
   .rintro i k _ ⟨_,j,_⟩;exact j
   .rintro i G k e ⟨an,cl,cn,co⟩;have dx:(c2.map (·.1))[i]?=Y G.1:=by rw [bh,e];rfl
    rw [dp,bh]at dx;let⟨y,x,hm⟩:=cv.mp dx;have ab:ax K k G.2.1 (b4 y):=by have:=cn _ _ (g3 G (cG e));rw [<-hm]at this;exact this
    have hz:=(cF.mp x).1;exists S,?_;unfold hk;dsimp only [];rw [ai S];exists _,S,_,_,_,_,S,S,ab,S,_,an,by rw [z,z,dU];lia,?_,?_,?_,?_
    .rw [M,dq,x,aT,aT];rfl
    .rw [ah be];exact cl
    .exactλU bk j=>bF (.inl (by rw [an];exact trivial)) (cn U bk j)
    .intro U o f a;rw [ah (cB a ds)];exact co U o f a
   rintro k ⟨an,cl,cn,co⟩;rw [hd,dB]at an;exists cl,?_;have cr:Ext g (upd k b (dX m p b c2)):=λU o a=>by
    by_cases f:U=b
    .rw [f,M,<-ce,<-f];exact a
    .rw [ah f];exact co U o f a
   have h0:upd k b (dX m p b c2) al=Y (.lst ((v.map (·.1)).map λG=>V.int (G:Nat))):=(ah be.symm).trans an;have dK:=bd.trans cr
   let⟨dL,dT,d0⟩:=bs.ext dK;exists _,S,w,d,fT,f0,_,S,dK _ _ f1,a1.p.c,a1.p.sorts,f2,c9,S,⟨_,dT⟩,λbi d1=>?_;refine hC (xs:=dL.map V.ref) (λi t=>(∃u,t bi=Y (.lst (u.map V.ref))/\fJ K t u ((((bp a).map a6).take i).filter λG=>decide (G.1∈v.map (·.1)))/\u.length<=i)/\Ext (upd k b (dX m p b c2)) t) ?_ ?_ ?_ ?_
   .exact⟨⟨[],M,.nil,aR _⟩,Ext.one d1⟩
   .rintro i t _ ⟨_,n⟩;exact n.ef dT
   .rintro i G t e ⟨⟨u,ap,as,cs⟩,n⟩;rw [bh]at e;cases ct:dL[i]? with
    |none=>rw [ct]at e;cases e
    |some c=>
     rw [ct]at e;obtain rfl:=aS e;let⟨y,x,em⟩:=eA d0 ct;have hz:i<((bp a).map a6).length:=(cF.mp x).1
     have:=yB r;have h1:((bp a).map a6).take (i+1)=((bp a).map a6).take i++[y]:=by rw [dq,x];rfl
     exists S,_,S,_,_,_,_,S,S,n.aP em,S,_,S,al,_,S,.inl (av.of (n _ _ h0)),S,EA _,_,S,?_;rw [N d5,Ez,h1,nT,ig,vg];refine ec (λc0=>?_) (λc0=>?_)
     .rw [ai c0];have eq:cX (t bi)\/t bi=O:=.inl (by rw [ap];exact trivial)
      exists _,S,_,ap,by rw [z];lia,⟨u++[c],by rw [M,aT];rfl,fY (Paired.cb as λU w ad=>bF eq ad) (bF eq (n.aP em)),by rw [br];exact qi cs 1⟩,n.upd d1
     .rw [N c0,b0];exists ⟨u,ap,as,HA cs⟩,n
   rintro t ⟨⟨u,ap,as,cs⟩,n⟩;rw [z,bO d0,dB,<-cd]at as;exists bi,E l,S,⟨u,av.of ap,as⟩,?_,?_,λld le h2 id ii=>?_
   .rw [cd];exact(tW r).filter _
   .rw [cd];refine cu (iX _ _) ?_;have:=yB r;lia
   have c1:=(cr.trans n).trans h2;let⟨im,io,is,it,ix⟩:=s.next c1 ii ((cr.trans n).none id) (c1.aP (bd.aP ab)) ge lk;rw [ga];exists _,S,_,S,C,im,pk (D l),U,S,io,is,S,c1.aP (bd.aP ab),it,_,_,_,S,ix
 .rintro a4 g ⟨bt,bv,ca,rfl,s⟩;have:((tabOf a E).take (bn.map V.ref).length)=tabOf a E:=by
   rw [j4];rw [z,bO c8,z];unfold tabOf;rw [z];exact aR _
  rw [this]at s;exists _,S,fa C g _ (s.from X.ext) (yy r λl a5=>⟨(tW r).filter _,λG e=>?_,λa0=>?_⟩)
  .obtain⟨a0,jp,rfl⟩:=bH.mp (dz.mp e).1;exists a0,jp,S
  .obtain⟨v,F,_⟩:=a3.row l a5;have kk:=Nw r a3 a5 F a0
   rw [dz,F,nY];show a6 a0∈_/\(a6 a0).1∈v.map (·.1)↔_
   rw [kk];unfold gr;refine and_congr_left λ_=>⟨λj=>?_,λj=>dY j⟩
   let⟨U,f,kp⟩:=bH.mp j;rw [<-lJ kp];exact f
abbrev yC:a7:=top 58
abbrev yD:a7:=top 60
abbrev yE:a7:=top 61
def jS(z:Pr):l7:=.tuple [.int (z.1:Int),.int (z.2:Int)]
def tX(z:Pr):rE (jS z)=I:=by unfold rE jS;simp [PyData.canLay0,PyData.canLayAll0,PyData.depth,PyData.depthAll]
def EC(z A:Pr):zg (jS z) (jS A)=decide (z=A):=by
 unfold jS;simp only [zg,PyData.eqvAll];by_cases c:z=A
 .subst c;simp
 .rw [bU c];have:¬(z.1=A.1/\z.2=A.2):=λD=>c (kf D.1 D.2)
  by_cases G:z.1=A.1
  .have M:((z.2:Int)==(A.2:Int))=ao:=iK.mpr λD=>this ⟨G,by lia⟩;rw [M];simp
  .have N:((z.1:Int)==(A.1:Int))=ao:=iK.mpr λD=>G (by lia);rw [N];rfl
theorem tY(z:ax K H d (b4 re)):Dp K H (.ref d) (jS re):=.tup z (.cons (.int _) (.cons (.int _) .nil))
theorem tZ(z:ax K H d (b4 re))(A:ax K H q (b4 Fk))(D:IR (.bl (decide (re=Fk))) H):v3 K (.ref d) (.ref q) H IR:=⟨jS re,jS Fk,tY z,tY A,tX re,tX Fk,by rwa [EC]⟩
theorem Po(z:ax K H d (b4 re))(A:ax K H q (b4 Fk))(D:IR (.bl (!decide (re=Fk))) H):AH K (.ref d) (.ref q) H IR:=⟨jS re,jS Fk,tY z,tY A,tX re,tX Fk,by rwa [EC]⟩
def fZ(D:aw)(G:au)(K:af)(H:U)(c:Z)(M N:List Pr):Prop:=∃z,H c=Y (dX D G c z)/\b9 K H z/\z.map (·.1)=M.map pk/\cE (λ(S:List Key×Z×V) v=>∃A,S.2.2=.ref A/\ax K H A (b4 v)) z N
section
variable {P:aw} {w:au} {K:af} {G:aa->Option J} {base:aD} {H H':U} {c:Z} {L eW:List Pr}
def fZ.ext(z:Ext H H')(A:fZ P w K H c L eW):fZ P w K H' c L eW:=by let⟨D,M,N,S,T⟩:=A;exact⟨D,z _ _ M,z.keys N,S,Paired.cb T λe v U=>let⟨a,b,d⟩:=U;⟨a,b,z.aP d⟩⟩
end
theorem yF:∀{D:bW} {i:Nat} {A:List Key×Z×V},(D.map (·.1)).Nodup->D[i]?=Y A->cm D A.1=Y A.2.2
 |[],_,_,_,z=>by cases z
 |y::b,0,A,_,z=>by cases z;unfold cm;rw [gb,cq S];rfl
 |y::b,i+1,A,a,z=>by
  rw [aZ,ej]at a;have z:b[i]?=Y A:=z
  have M:¬y.1=A.1:=λN=>a.1 (N▸dY (cG z));have:=yF a.2 z
  unfold cm at this⊢;rwa [gb,bU M]
theorem ED:∀{D:bW} {i:Nat} {z:List Key×Z×V} {v:V},(D.map (·.1)).Nodup->D[i]?=Y z->D.map (λM=>if M.1=z.1 then(M.1,M.2.1,v)else M)=D.set i (z.1,z.2.1,v)
 |[],_,_,_,_,A=>by cases A
 |y::b,0,z,v,a,A=>by cases A;rw [aZ,ej]at a;rw [aZ,ai S,List.set_cons_zero];congr 1;refine(gE λT U=>?_).trans (nU b);rw [N λd=>a.1 (by rw [<-d];exact dY U)];rfl
 |y::b,i+1,z,v,a,A=>by
  rw [aZ,ej]at a;have A:b[i]?=Y z:=A
  have e:¬y.1=z.1:=λT=>a.1 (T▸dY (cG A));rw [aZ,N e,List.set_cons_succ,ED a.2 A]
def Pp{D:sB->At->Prop}{M:List sB}{N:List At}{i:Nat}{S:sB}{T:At}(U:cE D M N)(a:D S T):cE D (M.set i S) (N.set i T):=by
 induction U generalizing i with
 |nil=>exact .nil
 |cons b d e=>exact match i with
  |0=>.cons a d
  |_+1=>.cons b e
def fZ.get(a:rc.Nodup)(N:pp.map (·.1)=rc.map pk)(b:cE (λ(D:List Key×Z×V) v=>∃z,D.2.2=.ref z/\ax K H z (b4 v)) pp KF){i:Nat}{p:Pr}(d:rc[i]?=Y p):∃D v z,pp[i]?=Y D/\D.1=pk p/\KF[i]?=Y v/\cm pp (pk p)=Y (.ref z)/\ax K H z (b4 v):=by
 have T:(pp.map (·.1))[i]?=Y (pk p):=by rw [N,bh,d];rfl
 rw [bh]at T;let⟨D,M,U⟩:=cv.mp T;let⟨v,e,z,f,g⟩:=eA b M;have h:(pp.map (·.1)).Nodup:=by rw [N];exact iD (λ_ _=>lP) a
 exists D,v,z,M,U,e,?_,g;rw [<-U,yF h M,f]
set_option tactic.hygienic true
section
variable {P:aw} {w:au} {K:af} {G:aa->Option J} {base:aD} {H H':U} {c:Z} {L eW:List Pr}
def fZ.put{A:bW}{i:Nat}{D v:Pr}{N b:Z}(f:L.Nodup)(j:H c=Y (dX P w c A))(k:b9 K H A)(U:A.map (·.1)=L.map pk)(g:cE (λ(T:List Key×Z×V) v=>∃b,T.2.2=.ref b/\ax K H b (b4 v)) A eW)(l:L[i]?=Y D)(m:ax K H N (b4 D))(n:ax K H b (b4 v)):fZ P w K (upd H c (dX P w c (cy A (pk D) N (.ref b)))) c L (eW.set i v):=by
 have a:cX (H c)\/H c=O:=.inl (j▸trivial);let⟨T,u,x,d,o,y,p,_⟩:=fZ.get f U g l;have q:(A.map (·.1)).Nodup:=by rw [U];exact iD (λ_ _=>lP) f
 have h:cy A (pk D) N (.ref b)=A.set i (T.1,T.2.1,.ref b):=by unfold cy;rw [p,ai (by rfl),<-o,ED q d]
 exists cy A (pk D) N (.ref b),M,(ly k _ m).same λB C=>bF a,?_,?_
 .rw [h,List.map_set];rw [<-U];apply TY;intro E;rw [TZ];split
  .rename_i e;subst e;rw [bh,d];split
   .rfl
   .rename_i r;exfalso;apply r;rw [z];exact(cF.mp d).1
  .rfl
 .rw [h];refine Pp (Paired.cb g λF v s=>let⟨b,e,t⟩:=s;⟨b,e,bF a t⟩) ⟨b,S,bF a n⟩
end
set_option tactic.hygienic false
def jT(z A v:Pr):Pr:=if v=A then z else v
section
variable {P:aw} {w:au} {K:af} {G:aa->Option J} {base:aD} {H H':U} {c:Z} {L eW:List Pr}
inductive EE (P:aw) (w:au) (K:af) (D:List V) (H:U) (M:VK) (N:XK):Prop
 |mk(c bk bl L eW k l:_)(_:D=[.ref c,.ref bk,.ref bl])(_:L.Nodup)(_:L.length<=90)(_:fZ P w K H c L eW)(_:ax K H bk (b4 k))(_:ax K H bl (b4 l))(_:∀H',bN c H H'->(∀z A,ax K H z A->ax K H' z A)->fZ P w K H' c L (eW.map (jT k l))->M .bw H')
end
set_option tactic.hygienic true
section
variable {P:aw} {w:au} {K:af} {G:aa->Option J} {base:aD} {H H':U} {c:Z} {L eW:List Pr}
def Pq{u:Z}{am:bc}(bk:a9 K "put_together" "put_together" yC u am)(bl:G "list"=O):aV P w K G base aE 1 u am ["classes","kept","lost"] (EE P w K):=by
 refine bk.go ["classes","kept","lost","place"] λbm bn c6 bs H c7 c8 c9 bt h bv an sz=>?_;let⟨c,ca,cd,L,eW,b,d,rfl,ap,db,⟨e,x,as,B,a0⟩,ce,ch,ci⟩:=h;have cl:(bn.deeper (eI "put_together" (ei yC) bs.heap.objs.size u bm)).units+64<cK:=by have:=bt.un;cutsat
 exists _,ay (d3 dZ S (dC (sj (LJ S) (by rfl) bl (by decide+kernel) (aJ 0))) (bX 3 bv) (ay (bK (bS (v5 cl) (ff an (T 0) (T 3) (λ_ _=>S)) (T 2) (bV _)) (ay (i4 an (T 0) (T 3) (T 1) S)) bQ))),?_;dsimp;exists _,S,c,e,S,x,λC a1=>?_;have E:Ext H (upd H C (.lst (e.map λD=>V.ref D.2.1))):=Ext.one a1
 have cn:=(cB x a1).symm;exists C,S,⟨_,av.of M⟩,?_;have a2:e.length=L.length:=by have:=bD cN B;rwa [z,z]at this
 have co:eW.length=L.length:=by rw [<-bO a0,a2]
 let a3:VLx:=λA m a=>∃F,A5 (m=[Y (.ref c),Y (.ref ca),Y (.ref cd),F]) (fZ P w K a c L ((eW.take A).map (jT b d)++eW.drop A)) (bN c H a) (∀f j,ax K H f j->ax K a f j) (a C=Y (.lst (e.map λD=>V.ref D.2.1)));refine fw (xs:=e.map λD=>V.ref D.2.1) a3 ?_ ?_ ?_ ?_
 .exact⟨O,S,fZ.ext E ⟨e,x,as,B,a0⟩,E.but,λf j=>E.aP,M⟩
 .rintro A m a _ ⟨_,_,_,_,_,h⟩;exact av.of h
 .rintro A dd m a a4 ⟨F,rfl,⟨n,k,p,q,Q⟩,r,g,R⟩;rw [bh]at a4;let⟨y,W,rfl⟩:=cv.mp a4;have cr:A<L.length:=by have:=(cF.mp W).1;cutsat
  obtain⟨D,X⟩:∃D,L[A]?=Y D:=⟨_,gd cr⟩
  have cs:y.1=pk D:=by
   have:(e.map (·.1))[A]?=Y y.1:=by rw [bh,W];rfl
   rw [B,bh,X]at this;exact(aS this).symm
  have ab:ax K a y.2.1 (b4 D):=by have:=g _ _ (as y (cG W));rw [cs]at this;exact this
  obtain⟨v,s⟩:∃v,eW[A]?=Y v:=⟨_,gd (by cutsat)⟩
  let⟨dl,ct,dp,ds,dx,l,c0,a5⟩:=fZ.get ap q Q X;have bd:ct=v:=by rw [hu (by rw [z,dU];cutsat),z,dU,ik (by cutsat),kd,HC,j9,s]at l;exact(aS l).symm
  rw [bd]at a5;have c1:((eW.take (A+1)).map (jT b d)++eW.drop (A+1))=((eW.take A).map (jT b d)++eW.drop A).set A (jT b d v):=by
   rw [dq,s,aT,ck,List.set_append_right _ _ (by rw [z,dU];cutsat),z,dU,ik (by cutsat),kd];congr 1;have c2:eW.drop A=v::eW.drop (A+1):=by rw [TR (by cutsat)];rw [gd (by cutsat)]at s;rw [aS s]
   rw [c2];rfl
  exists _,S,_,S,c,_,S,⟨n,pk D,y.2.1,k,p,S,ab,c0.symm⟩,_,S,tZ a5 (g _ _ ch) ⟨_,S,?_⟩;dsimp only [a3];rw [c1];by_cases t:v=d
  .rw [cq t];have dK:n.length=L.length:=by have:=bD cN q;rwa [z,z]at this
   have ad:jT b d v=b:=ai t;rw [ad];have c3:cX (a c)\/a c=O:=.inl (k▸trivial)
   exact cf ⟨_,S,_,S,_,S,c,n,pk D,y.2.1,S,k,p,S,ab,by cutsat,_,S,fZ.put ap k p q Q X ab (g _ _ ce),λf o al be=>ah be▸r f o al be,λf j h=>bF c3 (g f j h),ah cn▸R⟩
  .rw [bU t];have ad:jT b d v=v:=N t
   have c4:((eW.take A).map (jT b d)++eW.drop A).set A v=(eW.take A).map (jT b d)++eW.drop A:=by
    rw [bd]at l;apply TY;intro i;rw [TZ];split
    .rename_i al;subst al;rw [l];split
     .rfl
     .rename_i c5;exact absurd (cF.mp l).1 c5
    .rfl
   rw [ad,c4];exact b1 ⟨_,S,⟨n,k,p,q,Q⟩,r,g,R⟩
 .rintro m a ⟨F,rfl,bi,r,g,R⟩;rw [z,a2,<-co,dB,List.drop_length,b0]at bi;exact ci a r g bi
end
set_option tactic.hygienic false
abbrev hs(A:aw)(G:au)(K:af)(H:U)(c:Z)(z:Ex)(M:aA->aA):Prop:=fZ A G K H c ((aq z).map D) ((aq z).map λN=>D (M N))
section
variable {P:aw} {w:au} {K:af} {G:aa->Option J} {base:aD} {H:U} {c:Z} {e:Ex} {R:aA->aA}
def hs.get(a:bG e)(b:hs P w K H c e R){A:aA}(d:A∈aq e):∃z M,H c=Y (dX P w c z)/\b9 K H z/\cm z (pk (D A))=Y (.ref M)/\ax K H M (b4 (D (R A))):=by
 let⟨z,f,g,h,j⟩:=b;let⟨i,T⟩:=hR.mp d;let⟨l,v,M,m,n,N,k,U⟩:=fZ.get (lU a) h j (i:=i) (p:=D A) (by rw [bh,T];rfl);rw [bh,T]at N;have N:=aS N
 rw [<-N]at U;exists z,M,f,g,k,U
end
def yG(z A:aA):decide (D z=D A)=decide (z=A):=by rw [hb];exact⟨d4,λM=>by rw [M]⟩
def EF{z:aA->Bool}{i:Nat}(M:(aq pc)[i]?=Y nw):(((aq pc).take (i+1)).filter z).map D=(((aq pc).take i).filter z).map D++(if z nw=I then [D nw]else []):=by rw [dq,M,nT,aT];congr 1;rw [Hs,ig,vg];split<;>rfl
section
variable {P:aw} {w:au} {K:af} {G:aa->Option J} {base:aD} {H:U} {c:Z} {e:Ex} {R:aA->aA}
inductive yH (P:aw) (w:au) (K:af) (M N:Z) (S:List V) (H:U) (T:VK) (f:XK):Prop
 |mk(p e c R b a:_)(_:S=[.ref p,.ref c,.ref b])(_:cg K M N H p e)(_:hs P w K H c e R)(_:a∈aq e)(_:ax K H b (b4 (D a)))(_:∀z A,Ext H A->H z=O->eO K A z (((aq e).filter λd=>decide (R d=R a)).map D)->T (.ref z) A)
def Pt{j b s:Z}{t:bc}(a1:a9 K "members" "members" yD j t)(u:eE K b s):aV P w K G base aE 1 j t ["program","classes","place"] (yH P w K b s):=by
 refine a1.go ["program","classes","place","other"] λa2 a3 c0 f H c1 c2 c3 a4 a5 v x sz=>?_;let⟨y,e,c,R,B,C,rfl,E,F,bd,be,bi⟩:=a5;have k:=E.ok
 have bk:(a3.deeper (eI "members" (ei yD) f.heap.objs.size j a2)).units+64<cK:=by have:=a4.un;lia
 exists _,ay (aQ (fS (own:=[("other",3)]) S v (dC (aF 0)) (e2 S) (λf H b l L=>bX 3 v) (λf H b l L=>kv (bS (DS K bk) (pb P w K x (T 1) (T 3) (λ_ _=>S)) (pb P w K x (T 1) (T 2) (λ_ _=>S)) (bV _))) (λf H b l L=>T 3))),?_;dsimp;let⟨bl,bm,bn,Q,bs,bt,W,X⟩:=E.places;exists _,S,y,b,bl,bm,_,S,bs,u.p.c,u.p.places,bt,bn,S,⟨_,W⟩,λg m=>?_;let ab:VCx:=λi A=>eO K A g ((((aq e).take i).filter λad=>decide (R ad=R C)).map D)/\Ext H A
 refine hC (xs:=Q.map V.ref) ab ?_ ?_ ?_ ?_
 .exact⟨⟨[],M,.nil⟩,Ext.one m⟩
 .rintro i A _ ⟨_,al⟩;exact al.ef W
 .rintro i al A d ⟨⟨n,o,p⟩,a⟩;rw [bh]at d;cases q:Q[i]? with
  |none=>rw [q]at d;cases d
  |some am=>
   rw [q]at d;obtain rfl:=aS d;let⟨ad,an,h⟩:=eA X q;rw [bh]at an;let⟨bv,ap,rfl⟩:=cv.mp an;have h:=a.aP h
   let⟨ca,c4,cd,ce,ch,ci⟩:=hs.get k (F.ext a) (cG ap);let⟨cl,c5,cn,co,cr,cs⟩:=hs.get k (F.ext a) bd;exists S,_,S,_,S,c,_,S,⟨ca,pk (D bv),am,cd,ce,S,h,ch.symm⟩,_,S,_,S,c,_,S,⟨cl,pk (D C),B,cn,co,S,a.aP be,cr.symm⟩,tZ ci cs ⟨_,S,?_⟩;dsimp only [ab];rw [yG,EF ap];have l:n.length<=90:=by
    rw [bO p,z];refine cu (iX _ _) ?_;rw [dU];have:=nt k
    rw [z]at this
    lia
   refine ec (λr=>?_) (λr=>?_)
   .rw [ai r];have as:cX (A g)\/A g=O:=.inl (o▸trivial)
    exists _,S,_,o,by rw [z];lia,⟨n++[am],by rw [M,aT];rfl,fY (Paired.cb p λB y ct=>bF as ct) (bF as h)⟩,a.upd m
   .rw [N r,b0];exists ⟨n,o,p⟩,a
 .rintro A ⟨a0,a⟩;rw [z,bO X,z,dB]at a0;exact bi g A a m a0
end
def Pu(K:af)(A:h.K=K:=by rfl):hA h (.builtin "len") (AD K):=by subst A;exact el
section
variable {P:aw} {w:au} {K:af} {G:aa->Option J} {base:aD} {H:U} {c:Z} {e:Ex} {R:aA->aA}
inductive EG (P:aw) (w:au) (K:af) (D M:Z) (N:List V) (H:U) (S:VK) (a:XK):Prop
 |mk(p e c R:_)(_:N=[.ref p,.ref c])(_:cg K D M H p e)(_:hs P w K H c e R)(_:∀z A,Ext H A->H z=O->A z=Y (.lst ((((aq e).filter λp=>decide (R p=p)).map λp=>((aq e).filter λT=>decide (R T=R p)).length).map λx=>V.int (x:Nat)))->S (.ref z) A)
def Pw{F b L:Z}{ad:bc}(bk:a9 K "class_sizes" "class_sizes" yE F ad)(al:eE K b L)(bl:G "len"=O)(bm:bz P w K G base aE 1 "members" ["program","classes","place"] (yH P w K b L)):aV P w K G base aE 2 F ad ["program","classes"] (EG P w K b L):=by
 refine bk.go ["program","classes","firsts","place","first"] λbn bs c5 j H c6 c7 c8 am bt x bv sz=>?_;let⟨f,e,c,R,rfl,Q,an,ca⟩:=bt;have ap:=Q.ok
 have cd:(bs.deeper (eI "class_sizes" (ei yE) j.heap.objs.size F bn)).units+64<cK:=by have:=am.un;lia
 exists _,ar (sv (i:=2) (own:=[("place",3)]) S x S rfl (sx S rfl rfl rfl) (dC (aF 0)) (e2 S) (λj H b n s=>bX 3 x) (λj H b n s=>kv (bS (DS K cd) (pb P w K bv (T 1) (T 3) (λ_ _=>S)) (T 3) (bV _))) (λj H b n s=>T 3)) (ay (aQ (fS (own:=[("first",4)]) S x (dC (T 2)) (e2 S) (λj H b n s=>bX 4 x) (λj H b n s=>hB) (λj H b n s=>cR (Pu K) (by rfl) bl dE (A (bI bm am (A (T 0) (A (T 1) (aJ 4)))) aC))))),?_;let⟨ce,ch,ci,as,cl,cn,a0,a1⟩:=Q.places;have a2:=nt ap
 rw [z]at a2;exists _,S,f,b,ce,ch,_,S,cl,al.p.c,al.p.places,cn,ci,S,⟨_,a0⟩,λy a3=>?_;let B:VCx:=λi g=>eO K g y ((((aq e).take i).filter λd=>decide (R d=d)).map D)/\Ext H g
 refine hC (xs:=as.map V.ref) B ?_ ?_ ?_ ?_
 .exact⟨⟨[],M,.nil⟩,Ext.one a3⟩
 .rintro i g _ ⟨_,t⟩;exact t.ef a0
 .rintro i t g a ⟨⟨o,p,q⟩,h⟩;rw [bh]at a;cases k:as[i]? with
  |none=>rw [k]at a;cases a
  |some C=>
   rw [k]at a;obtain rfl:=aS a;let⟨d,u,l⟩:=eA a1 k;rw [bh]at u;let⟨W,v,rfl⟩:=cv.mp u;have l:=h.aP l
   let⟨co,c9,cr,cs,ct,c0⟩:=hs.get ap (an.ext h) (cG v);exists S,_,S,_,S,c,_,S,⟨co,pk (D W),C,cr,cs,S,l,ct.symm⟩,_,S,tZ c0 l ⟨_,S,?_⟩;dsimp only [B];rw [yG,EF v];have n:o.length<=90:=by
    rw [bO q,z];refine cu (iX _ _) ?_;rw [dU]
    lia
   refine ec (λX=>?_) (λX=>?_)
   .rw [ai X];have a4:cX (g y)\/g y=O:=.inl (p▸trivial)
    exists _,S,_,p,by rw [z];lia,⟨o++[C],by rw [M,aT];rfl,fY (Paired.cb q λdb f c1=>bF a4 c1) (bF a4 l)⟩,h.upd a3
   .rw [N X,b0];exists ⟨o,p,q⟩,h
 rintro g ⟨a5,h⟩;rw [z,bO a1,z,dB]at a5;let⟨o,p,q⟩:=a5;exists _,S,y,S,⟨_,av.of p⟩,λbd ab=>?_;have dd:((aq e).filter λd=>decide (R d=d)).length<=90:=cu (iX _ _) a2
 let B:VCx:=λi r=>r bd=Y (.lst (((((aq e).filter λf=>decide (R f=f)).take i).map λf=>((aq e).filter λd=>decide (R d=R f)).length).map λt=>V.int (t:Nat)))/\Ext g r;refine hC (xs:=o.map V.ref) B ?_ ?_ ?_ ?_
 .exact⟨M,Ext.one ab⟩
 .rintro i r _ ⟨_,m⟩;exact av.of (m _ _ p)
 .rintro i t r a ⟨E,m⟩;rw [bh]at a;cases k:o[i]? with
  |none=>rw [k]at a;cases a
  |some C=>
   rw [k]at a;obtain rfl:=aS a;let⟨d,u,l⟩:=eA q k;rw [bh]at u;let⟨W,v,rfl⟩:=cv.mp u;have be:=h.trans m
   exists S,?_;unfold hk;dsimp only [];rw [ai S];exists _,S,_,S,_,S,f,e,c,R,C,W,S,Q.ext be,an.ext be,(dz.mp (cG v)).1,m.aP l,λc2 dl bi dp ⟨ds,c3,c4⟩=>?_;exists c2,_,S,.inl (av.of c3),_,bi _ _ E,?_,?_,(m.trans bi).upd ab
   .rw [z,z,dU];lia
   .rw [M,dq,v,aT,aT,z,bO c4,z];rfl
 .rintro r ⟨E,m⟩;rw [z,bO q,z,dB]at E;exact ca bd r (h.trans m) (h.none ab) E
end
abbrev yI:a7:=top 59
structure px(z:Ex)(M:aA->aA)(G:Nat)(tab:Tb):Prop where
 nd:(tab.map (·.1)).Nodup
 len:tab.length<=G
 row:∀N row,ba tab N=Y row->row.Nodup/\(∀x∈row,∃a∈bp z,x=a6 a)/\∀a,a6 a∈row↔∃A∈(aq z).take G,D (M A)=N/\fG z A a
 has:∀A∈(aq z).take G,∃row,ba tab (D (M A))=Y row
def Px{u:Tb}:ba (or++u) re=match ba or re with
  |some x=>Y x
  |none=>ba u re:=by
 unfold ba;rw [T1];cases or.find? λy=>decide (y.1=re)<;>rfl
def Py(D:re∉or.map (·.1)):ba or re=O:=by
 cases a:ba or re with
 |none=>rfl
 |some x=>exact absurd (kE a) D
def px.add(o:px pc t1 B or)(w:(aq pc)[B]?=Y nw){ps:List Pr}(m:Is=or/\ba or (D (t1 nw))=Y rc\/(Is=or++[(D (t1 nw),[])]/\D (t1 nw)∉or.map (·.1)/\rc=[]))(x:∀i∈ps,∃G∈bp pc,i=a6 G) (y:∀G,a6 G∈ps↔fG pc nw G):px pc t1 (B+1) (dM Is (D (t1 nw)) (cS rc ps)):=by
 have n:(aq pc).take (B+1)=(aq pc).take B++[nw]:=by rw [dq,w];rfl
 have L:(Is.map (·.1)).Nodup:=by
  rcases m with⟨rfl,_⟩|⟨rfl,A,_⟩
  .exact o.nd
  .rw [aT];refine gC.mpr ⟨o.nd,by simp,λu q v T C=>?_⟩;have:v=D (t1 nw):=bb.mp T
   rw [C,this]at q;exact A q
 have r:D (t1 nw)∈Is.map (·.1):=by
  rcases m with⟨rfl,A⟩|⟨rfl,A,_⟩
  .exact kE A
  .rw [aT];exact eH _ (bb.mpr S)
 have s:∀f,f≠D (t1 nw)->ba Is f=ba or f:=λf e=>by
  rcases m with⟨rfl,_⟩|⟨rfl,A,_⟩
  .rfl
  .rw [Px];cases P:ba or f with
   |some i=>rfl
   |none=>
    exact Py (by simp [e])
 have p:rc.Nodup/\(∀i∈rc,∃G∈bp pc,i=a6 G)/\∀G,a6 G∈rc↔∃M∈(aq pc).take B,D (t1 M)=D (t1 nw)/\fG pc M G:=by
  rcases m with⟨_,A⟩|⟨_,A,rfl⟩
  .exact o.row _ _ A
  .refine⟨gc,(λ_ A=>nomatch A),λG=>⟨(λA=>nomatch A),λ⟨M,a,b,_⟩=>?_⟩⟩;let⟨t,e⟩:=o.has M a;rw [b]at e;exact absurd (kE e) A
 exists by rwa [CD],?_,λf t e=>?_,λM a=>?_
 .unfold dM;rw [z];rcases m with⟨rfl,_⟩|⟨rfl,_⟩
  .have:=o.len;lia
  .rw [br];have:=o.len;simp;exact this
 .rw [o9 _ r]at e;by_cases c:f=D (t1 nw)
  .rw [ai c]at e;obtain rfl:=aS e;exists mz p.1,λi E=>?_,λG=>?_
   .rcases hn.mp E with A|A
    .exact p.2.1 i A
    .exact x i A
   .rw [hn,p.2.2 G,y G,n];constructor
    .rintro(⟨M,a,b,g⟩|A)
     .exact⟨M,gN _ a,b.trans c.symm,g⟩
     .exact⟨nw,eH _ (bb.mpr S),c.symm,A⟩
    .rintro⟨M,a,b,g⟩;rcases bR.mp a with A|A
     .exact .inl ⟨M,A,b.trans c,g⟩
     .rw [bb.mp A]at g;exact .inr g
  .rw [N c,s f c]at e;let⟨F,H,K⟩:=o.row f t e;exists F,H,λG=>(K G).trans ?_;rw [n];constructor
   .rintro⟨M,a,b,g⟩;exists M,gN _ a,b,g
   .rintro⟨M,a,b,g⟩;rcases bR.mp a with A|A
    .exact⟨M,A,b,g⟩
    .rw [bb.mp A]at b;exact absurd b.symm c
 .rw [o9 _ r];by_cases c:D (t1 M)=D (t1 nw)
  .rw [ai c];exists _,S
  .rw [N c,s _ c];rw [n]at a;rcases bR.mp a with A|A
   .exact o.has M A
   .rw [bb.mp A]at c;exact absurd rfl c
def Pz{w:au}{p:Pr}{ps:List Pr}(F:Ext r H)(i:H q=Y (dX m w q pp))(j:b9 K H pp)(N:fk m w K H pp or)(k:(pp.map (·.2.2)).Nodup)(b:V.ref q∉pp.map (·.2.2))(l:∀d,V.ref d∈pp.map (·.2.2)->r d=O)(L:r q=O)(t:fK m w K H d ps) (n:V.ref d∉pp.map (·.2.2)) (A:d≠q) (z:r d=O) (o:ax K H Q (b4 p)) (T:p∉or.map (·.1)):b9 K (upd H q (dX m w q (cy pp (pk p) Q (.ref d)))) (cy pp (pk p) Q (.ref d))/\fk m w K (upd H q (dX m w q (cy pp (pk p) Q (.ref d)))) (cy pp (pk p) Q (.ref d)) (or++[(p,ps)])/\((cy pp (pk p) Q (.ref d)).map (·.2.2)).Nodup/\V.ref q∉(cy pp (pk p) Q (.ref d)).map (·.2.2)/\∀M,V.ref M∈(cy pp (pk p) Q (.ref d)).map (·.2.2)->r M=O:=by
 have e:cX (H q)\/H q=O:=.inl (i▸trivial);have f:∀M U,M≠q->fK m w K H M U->fK m w K (upd H q (dX m w q (cy pp (pk p) Q (.ref d)))) M U:=λM U D P=>by let⟨s,x,y,B⟩:=P;exists s,ah D▸x,y.same λQ C=>bF e,B
 exists (ly j _ o).same λc C=>bF e,?_,?_,?_,?_
 .have g:fk m w K (upd H q (dX m w q (cy pp (pk p) Q (.ref d)))) (pp++[(pk p,Q,.ref d)]) (or++[(p,ps)]):=fY (tM f N b) ⟨S,d,S,f d ps A t⟩;rw [iw _ _ (kM N T)]at g⊢;exact g
 .rw [iw _ _ (kM N T),aT];refine gC.mpr ⟨k,by simp,λu h v E a=>?_⟩;have a:=a.trans (bb.mp E)
  rw [a]at h;exact n h
 .rw [iw _ _ (kM N T),aT];intro G;rcases bR.mp G with G|G
  .exact b G
  .have:=bb.mp G;injection this with this;exact A this.symm
 .rw [iw _ _ (kM N T),aT];intro M G;rcases bR.mp G with G|G
  .exact l M G
  .have:=bb.mp G;injection this with this;rwa [this]
def PB{v:V}(D:cm pp AT=O):cm (cy pp AT d v) AT=Y v:=by
 rw [iw _ _ D];unfold cm at D⊢;rw [T1];have:pp.find? (λG=>decide (G.1=AT))=O:=by
  cases a:pp.find? (λG=>decide (G.1=AT))with
  |none=>rfl
  |some y=>rw [a]at D;cases D
 rw [this];simp
inductive yJ (m:aw) (p:au) (K:af) (D M:Z) (N:List V) (H:U) (S:VK) (T:XK):Prop
 |mk(P e c R:_)(_:N=[.ref P,.ref c])(_:cg K D M H P e)(_:hs m p K H c e R)(_:∀z A tab,b8 m p K H A z tab->bM e tab (jh e R)->S (.ref z) A)
def PD(lb:a9 K "table_of_classes" "table_of_classes" yI q o0)(c7:eE K d Q)(lc:L "dict"=O)(ld:bz m w K L P aE 2 "own_table" ["program"] (tT m w K d Q)):aV m w K L P aE 3 q o0 ["program","classes"] (yJ m w K d Q):=by
 refine lb.go ["program","classes","own","of_class","place","table"] λle lf m1 fd H m2 m3 m4 hm s ce B sz=>?_;let⟨ch,k,c,a,rfl,fl,hz,li⟩:=s;have t:=fl.ok
 have lm:(lf.deeper (eI "table_of_classes" (ei yI) fd.heap.objs.size q le)).units+2<cK:=by have:=hm.un;lia
 exists _,ar (bj 2 ce (bI ld hm (aJ 0))) (ar (bj 3 ce ky) (ar (d3 dZ S (dC (aF 0)) (bX 4 ce) (ay (cM (sL B (LG B (T 3) (ff B (T 1) (T 4) (λ_ _=>S)) ky ⟨S,S,S,S⟩) (ff B (T 2) (T 4) (λ_ _=>S)) ⟨S,S,S,S⟩)))) (ar (bj 5 ce ky) (ar (d3 dZ S (dC (aF 0)) (bX 4 ce) (ay (i4 B (T 5) (T 4) (sj (Bv lm) (by rfl) lc (by decide+kernel) (A (ff B (T 3) (ff B (T 1) (T 4) (λ_ _=>S)) (λ_ _=>S)) aC)) S))) (ay (aQ (T 5))))))),?_;exists _,S,ch,k,S,fl,λc8 ad al=>?_;have c9:=ym t
 let⟨h0,h1,h2,ln,m5,m6,m7⟩:=al.ex;let⟨id,ii,im,ci,io,is,db,dd⟩:=fl.places;have lo:=nt t
 rw [z]at lo;intro ex it;have lp:Ext ad (upd ad ex (dX m w ex [])):=Ext.one it
 have ix:=al.ext.trans lp;exists _,S,ch,d,id,ii,_,S,ix _ _ io,c7.p.c,c7.p.places,is,im,S,⟨_,ix.ef db⟩,?_;let dl:VLx:=λbi F l=>X3 λam fm fa=>A3 (F=[Y (.ref ch),Y (.ref c),Y (.ref c8),Y (.ref ex),am,fm]) (b8 m w K ad l ex fa) (px k a bi fa)
 refine fw (xs:=ci.map V.ref) dl ?_ ?_ ?_ ?_
 .exact⟨O,O,[],S,tV it,gc,aR _,(λb n s=>by cases s),(λN G=>nomatch G)⟩
 .rintro bi F l _ ⟨_,_,_,_,b,_⟩;exact(al.ext.trans b.ext).ef db
 .rintro bi cl F l hi ⟨am,fm,fa,rfl,b,o⟩;rw [bh]at hi;cases an:ci[bi]? with
  |none=>rw [an]at hi;cases hi
  |some bk=>
   rw [an]at hi;obtain rfl:=aS hi;let⟨ls,dp,ap⟩:=eA dd an;rw [bh]at dp;let⟨N,G,rfl⟩:=cv.mp dp;have cn:=cG G
   have m8:bi<90:=by have:=(cF.mp G).1;lia
   have as:=al.ext.trans b.ext;let⟨fn,co,fr,fs,fT,f0⟩:=hs.get t (hz.ext as) cn;let⟨jp,ds,m9,lt,lv⟩:=c9.row N cn;let⟨e,cd,bl,bm,dx,dK,dL⟩:=b.ex;have na:=bO bm
   have nb:=o.len;exists _,S,ex,S,⟨e,cd⟩,_,S,_,S,c,_,S,⟨fn,pk (D N),bk,fr,fs,S,as.aP ap,fT.symm⟩,λf a0=>?_;have j:Ext l (upd l f (dX m w f [])):=Ext.one a0
   have lw:=b.on j;have h:=b.ext.trans j
   let⟨cr,bn,cs,a1,f1,dT⟩:=gv ln ds;have ne:cs.length=jp.length:=by have:=bD cN dT;rwa [z,z]at this
   have nl:=(c9.len t ds).1;have kk:∀{X:U} {bs:Tb} {r:List Pr},b8 m w K ad X ex bs->(bs.map (·.1)).Nodup->r.length<=100->(bs=fa/\ba fa (D (a N))=Y r\/(bs=fa++[(D (a N),[])]/\D (a N)∉fa.map (·.1)/\r=[]))->∀{g:Z} {C e:bW},X ex=Y (dX m w ex e)->b9 K X e->fk m w K X e bs->(e.map (·.2.2)).Nodup->V.ref ex∉e.map (·.2.2)->(∀g,V.ref g∈e.map (·.2.2)->ad g=O)->cm e (pk (D (a N)))=Y (.ref g)->X g=Y (dX m w g C)->b9 K X C->C.map (·.1)=r.map pk->
     C.length+cs.length<=aU/\g≠cr/\∃bt,b8 m w K ad (upd X g (dX m w g (hX C cs))) ex bt/\px k a (bi+1) bt:=by
    intro X bs r x f2 kp l0 g C e ct a2 c0 f4 f8 d0 ks mg mk kt;have nm:C.length=r.length:=by have:=bD cN kt;rwa [z,z]at this
    have mo:V.ref g∈e.map (·.2.2):=by let⟨y,c1,c2⟩:=cv.mp ks;rw [<-c2];exact dY (fq c1)
    have mp:=d0 g mo;exists by lia,(cB a1 mp).symm,_,b8.put (ps:=cS r jp) x.ext ct a2 c0 f4 f8 d0 x.new f2 ks mg (qI mk (x.ext.keys f1)) (rk kt dT),o.add G l0 lt lv
   have bv:fk m w K (upd l f (dX m w f [])) e fa:=Paired.cb bm λab c3 N=>⟨N.1,let⟨g,k,fd⟩:=N.2;⟨g,k,fd.ext j⟩⟩
   have ga:=j.aP f0;exists e,pk (D (a N)),co,S,j _ _ cd,j.keys bl,ga,by lia,λkw a3=>?_,λa3=>?_
   .
    have ms:D (a N)∈fa.map (·.1):=by refine GX λmt=>?_;rw [kM bv mt]at a3;cases a3
    obtain⟨r,ge⟩:∃r,ba fa (D (a N))=Y r:=by let⟨y,c1,c2⟩:=bH.mp ms;exists y.2,hI o.nd (by rw [<-c2];exact c1)
    let⟨c4,a4,C,W,c5,d1⟩:=gv bv ge;rw [a4]at a3;obtain rfl:=aS a3;let⟨ct,a2,_⟩:=o.row _ _ ge;have kp:r.length<=100:=by have:=s7 ct a2;have:=t.bL;lia
    let⟨gl,go,bt,gt,g1⟩:=kk lw o.nd kp (.inl ⟨S,ge⟩) (j _ _ cd) (j.keys bl) bv dx dK dL a4 W c5 d1;exists c4,S,⟨C,W⟩,_,S,_,S,c8,.ref cr,S,⟨h0,pk (D N),bk,h _ _ h1,h.keys h2,S,(al.ext.trans h).aP ap,bn.symm⟩,C,cr,cs,S,W,c5,h _ _ a1,h.keys f1,gl,λ_=>rl t c9 ds dT,λg2=>absurd g2 go,λ_=>⟨_,_,bt,S,gt,g1⟩
   .
    have em:D (a N)∉fa.map (·.1):=λmA=>by let⟨y,c1,c2⟩:=bH.mp mA;let⟨c4,a4,_⟩:=gv bv (hI o.nd (show(D (a N),y.2)∈fa by rw [<-c2];exact c1));rw [a3]at a4;cases a4
    have kP:fK m w K (upd l f (dX m w f [])) f []:=⟨[],M,(λ_ s=>nomatch s),S⟩
    have x:=b8.add (p:=D (a N)) (ps:=[]) h (j _ _ cd) (j.keys bl) bv dx dK dL b.new kP (yz a0 bm) (cB cd a0).symm (b.ext.none a0) ga em;have nn:∀c3 eq,ad c3=Y eq->upd (upd l f (dX m w f [])) ex (dX m w ex (cy e (pk (D (a N))) co (.ref f))) c3=Y eq:=λc3 eq s=>x.ext c3 eq s
    have f2:((fa++[(D (a N),([]:List Pr))]).map (·.1)).Nodup:=by
     rw [aT];refine gC.mpr ⟨o.nd,by simp,λu B v mC kw=>?_⟩;have:v=D (a N):=bb.mp mC
     rw [kw,this]at B;exact em B
    have kV:f≠ex:=(cB cd a0).symm;let⟨a2,c0,f4,f8,d0⟩:=Pz (p:=D (a N)) (ps:=[]) h (j _ _ cd) (j.keys bl) bv dx dK dL b.new kP (yz a0 bm) kV (b.ext.none a0) ga em;have W:upd (upd l f (dX m w f [])) ex (dX m w ex (cy e (pk (D (a N))) co (.ref f))) f=Y (dX m w f []):=(ah kV).trans M
    let⟨gl,go,bt,gt,g1⟩:=kk (r:=[]) x f2 (cP _) (.inr ⟨S,em,S⟩) M a2 c0 f4 f8 d0 (PB a3) W (λ_ s=>nomatch s) S;exists f,S,⟨[],W⟩,_,S,_,S,c8,.ref cr,S,⟨h0,pk (D N),bk,x.ext _ _ h1,x.ext.keys h2,S,(al.ext.trans x.ext).aP ap,bn.symm⟩,[],cr,cs,S,W,(λ_ s=>nomatch s),x.ext _ _ a1,x.ext.keys f1,gl,λ_=>rl t c9 ds dT,λg2=>absurd g2 go,λ_=>⟨_,_,bt,S,gt,g1⟩
 rintro F l ⟨am,fm,c6,rfl,k0,o⟩;have k1:px k a (aq k).length c6:=by rw [z,bO dd,z]at o;exact o
 intro ca k2;have j:Ext l (upd l ca (dX m w ca [])):=Ext.one k2
 have as:=al.ext.trans k0.ext;have h:=as.trans j
 let a5:aA->List Pr:=λE=>(ba c6 (D (a E))).getD [];exists _,S,ch,d,id,ii,_,S,h _ _ io,c7.p.c,c7.p.places,is,im,S,⟨_,h.ef db⟩,?_;have k3:∀E∈aq k,∃n,ba c6 (D (a E))=Y n/\n.Nodup/\(∀cl∈n,∃ab∈bp k,cl=a6 ab)/\∀ab,a6 ab∈n↔jh k a E ab:=λE g3=>by let⟨n,bd⟩:=k1.has E (by rw [dB];exact g3);let⟨ct,a2,c0⟩:=k1.row _ _ bd;exists n,bd,ct,a2,λab=>(c0 ab).trans ?_;rw [dB];unfold jh;exists λ⟨N,G,bn,a1⟩=>⟨N,G,d4 bn,a1⟩,λ⟨N,G,bn,a1⟩=>⟨N,G,by rw [bn],a1⟩
 let dl:VLx:=λi F be=>∃am,F=[Y (.ref ch),Y (.ref c),Y (.ref c8),Y (.ref ex),am,Y (.ref ca)]/\b8 m w K l be ca ((tabOf k a5).take i);refine fw (xs:=ci.map V.ref) dl ?_ ?_ ?_ ?_
 .exact⟨_,S,tV k2⟩
 .rintro i F be _ ⟨_,_,b⟩;exact(as.trans b.ext).ef db
 .rintro i cl F be hi ⟨am,rfl,b⟩;rw [bh]at hi;cases an:ci[i]? with
  |none=>rw [an]at hi;cases hi
  |some bk=>
   rw [an]at hi;obtain rfl:=aS hi;let⟨ls,dp,ap⟩:=eA dd an;let⟨N,cn,rfl,mF,mG,lk⟩:=yA (R:=a5) t dp;have h:=as.trans b.ext
   let⟨fn,co,fr,fs,fT,f0⟩:=hs.get t (hz.ext h) cn;let⟨n,bd,hd,he,k5⟩:=k3 N cn;let⟨e,cd,bl,bm,dx,dK,dL⟩:=(k0.on b.ext).ex;let⟨c4,a4,es,W,c5,d1⟩:=gv bm bd;have hf:a5 N=n:=by show(ba c6 (D (a N))).getD []=n;rw [bd];rfl
   have mL:jJ m w es:=yq d1 hd λcl hi=>by let⟨ab,mM,rfl⟩:=he cl hi;exact yr t mM
   exists _,S,_,S,_,S,c,_,S,⟨fn,pk (D N),bk,fr,fs,S,h.aP ap,fT.symm⟩,ex,.ref c4,S,⟨e,pk (D (a N)),co,cd,bl,S,f0,a4.symm⟩,c4,es,S,W,c5,mL,λg la=>?_;have ev:Ext be (upd be g (dX m w g es)):=Ext.one la
   let⟨mN,mP,mR,mT,m0⟩:=b.next (ps:=a5 N) ev ⟨es,M,ev.keys c5,by rw [hf];exact d1⟩ la (ev.aP (h.aP ap)) mG lk;dsimp only [dl];rw [mF];exists _,S,_,S,ca,mN,pk (D N),bk,S,mP,mR,S,ev.aP (h.aP ap),mT,_,S,m0
 .rintro F be ⟨am,rfl,b⟩;have:((tabOf k a5).take (ci.map V.ref).length)=tabOf k a5:=by
   rw [j4];rw [z,bO dd,z];unfold tabOf;rw [z];exact aR _
  rw [this]at b;exists _,S,li ca be _ (b.from as) (yy t λE g3=>?_);let⟨n,bd,hd,he,k5⟩:=k3 E g3;have hf:a5 E=n:=by show(ba c6 (D (a E))).getD []=n;rw [bd];rfl
  rw [hf];exists hd,he,k5
abbrev yK:a7:=top 57
def fZ.snoc{H:U}{c v:Z}(i:H c=Y (dX m p c pp))(j:b9 K H pp)(f:pp.map (·.1)=rc.map pk)(l:cE (λ(b:List Key×Z×V) v=>∃d,b.2.2=.ref d/\ax K H d (b4 v)) pp KF)(A:re∉rc)(n:ax K H d (b4 re))(o:ax K H v (b4 Fk)):fZ m p K (upd H c (dX m p c (cy pp (pk re) d (.ref v)))) c (rc++[re]) (KF++[Fk]):=by
 have z:cX (H c)\/H c=O:=.inl (i▸trivial);have D:cm pp (pk re)=O:=by
  have:=kJ f re;rw [bU A]at this;cases e:cm pp (pk re)with
  |none=>rfl
  |some v=>rw [e]at this;cases this
 have g:=iw (k:=pk re) d (.ref v) D;exists cy pp (pk re) d (.ref v),M,(ly j _ n).same λs t=>bF z,?_,?_
 .rw [g,aT,aT,f];rfl
 .have Fk:cE (λ(b:List Key×Z×V) q=>∃h,b.2.2=.ref h/\ax K (upd H c (dX m p c (cy pp (pk re) d (.ref v)))) h (b4 q)) (pp++[(pk re,d,.ref v)]) (KF++[Fk]):=fY (Paired.cb l λu v Fk=>let⟨d,e,r⟩:=Fk;⟨d,e,bF z r⟩) ⟨v,S,bF z o⟩;rw [g]at Fk⊢;exact Fk
def PF:((aq pc).map λz=>D (t1 z)).map (jT (D v1) (D nw))=(aq pc).map λz=>D (joinR t1 v1 nw z):=by
 rw [d7];refine gE λz _=>?_;show(if D (t1 z)=D nw then D v1 else D (t1 z))=D (if t1 z=nw then v1 else t1 z)
 by_cases c:t1 z=nw
 .rw [ai c,ai (by rw [c])]
 .rw [N c,N λU=>c (d4 U)]
inductive t2 (m:aw) (p:au) (K:af) (M N:Z) (S:List V) (H:U) (T:VK) (a:XK):Prop
 |mk(P e:_)(_:S=[.ref P])(_:cg K M N H P e)(_:∀c A z,Ext H A->H c=O->hs m p K A c e z->jg e z->(∀P∈aq e,∀D∈aq e,Eqv e P D->z P=z D)->T (.ref c) A)
def PJ(fs:a9 K "last_classes" "last_classes" yK Q o0)(co:eE K d q)(fT:g_ 3 "table_of_classes" ["program","classes"] (yJ m p K d q)) (f0:g_ 4 "ways_of" ["program","table"] (ri m p K d q)) (f1:g_ 1 "put_together" ["classes","kept","lost"] (EE m p K)):f_ 5 Q o0 ["program"] (t2 m p K d q):=by
 refine fs.go ["program","classes","place","joined","ways","begin","end"] λf2 f4 k3 g H k5 la lb al a cn R sz=>?_;let⟨G,N,rfl,am,f8⟩:=a;have u:=am.ok
 have ga:(f4.deeper (eI "last_classes" (ei yK) g.heap.objs.size Q f2)).units+64<cK:=by have:=al.un;lia
 exists _,ar (bj 1 cn ky) (ar (d3 dZ S (dC (aF 0)) (bX 2 cn) (ay (i4 R (T 1) (T 2) (T 2) S))) (ar (bj 3 cn hx) (ar (oe dZ (kn (T 3)) (ar (bj 3 cn hx) (ar (bj 4 cn (bI f0 al (A (T 0) (A (bI fT (al.mo 3) (A (T 0) (aJ 1))) aC)))) (ay (d3 dZ S (dC (T 4)) (lj S (gT (bX 5 cn) (gT (bX 6 cn) lh))) (ay (bK (bS (JX ga) (ff R (T 1) (T 5) (λ_ _=>S)) (ff R (T 1) (T 6) (λ_ _=>S)) (bV _)) (ar (cM (bI f1 (al.mo 1) (A (T 1) (A (ff R (T 1) (T 5) (λ_ _=>S)) (A (ff R (T 1) (T 6) (λ_ _=>S)) aC))))) (ay (bj 3 cn hx))) bQ))))))) (ay (aQ (T 1)))))),?_;let⟨ge,gl,go,cr,gt,g1,cs,ct⟩:=am.places;have g2:=nt u
 have c0:=lU u;intro c an;have bl:Ext H (upd H c (dX m p c [])):=Ext.one an
 exists _,S,G,d,ge,gl,_,S,bl _ _ gt,co.p.c,co.p.places,g1,go,S,⟨_,bl.ef cs⟩,?_;let ap:VLx:=λi h r=>∃n,A3 (h=[Y (.ref G),Y (.ref c),n,O,O,O,O]) (fZ m p K r c (((aq N).map D).take i) (((aq N).map D).take i)) (Ext H r)
 refine fw (xs:=cr.map V.ref) ap ?_ ?_ ?_ ?_
 .exact⟨O,S,⟨[],M,(λ_ a=>nomatch a),S,.nil⟩,bl⟩
 .rintro i h r _ ⟨_,_,_,e⟩;exact e.ef cs
 .rintro i e h r j ⟨n,rfl,⟨bm,o,F,c1,g3⟩,e⟩;rw [bh]at j;cases v:cr[i]? with
  |none=>rw [v]at j;cases j
  |some hd=>
   rw [v]at j;obtain rfl:=aS j;let⟨c2,c3,bn⟩:=eA ct v;have lc:bm.length<=90:=by
    have:=bD cN c1;rw [z,z,dU]at this
    lia
   have he:((aq N).map D).take (i+1)=((aq N).map D).take i++[c2]:=by rw [dq,c3];rfl
   dsimp only [ap];rw [he];exists _,S,_,S,_,S,c,bm,pk c2,hd,S,o,F,S,e.aP bn,by lia,_,S,fZ.snoc o F c1 g3 (yj c0 c3) (e.aP bn) (e.aP bn),e.upd an
 rintro h r ⟨n,rfl,c4,hf⟩;rw [z,bO ct,dB]at c4;let hi:VLx:=λc5 h r=>X6 λn c6 x B f b=>A6 (h=[Y (.ref G),Y (.ref c),n,Y (.bl f),c6,x,B]) (hs m p K r c N b) (Ext H r) (jg N b) (f=ao->∀g ad,g∈aq N->ad∈aq N->ed N (λG s=>G∈aq N/\jh N b G s) g ad->b g=b ad) (c5=lM N b*2+(if f=I then 1 else 0))
 exists hi,⟨_,n,O,O,O,I,id,S,c4,hf,Nk N,(λa=>by cases a),S⟩,?_;rintro c5 h hm ⟨n,c6,x,B,f,bk,rfl,as,a0,a1,hz,rfl⟩;exists _,S,_,S,?_;cases f with
 |false=>exact b1 ⟨_,S,f8 c hm bk a0 an as a1 (Nn a1 (hz S))⟩
 |true=>
 refine cf ⟨_,(λld le a=>a),?_⟩;exists _,S,_,S,_,S,G,N,c,bk,S,am.ext a0,as,λh0 lf W a2 C=>?_;exists G,cV N,h0,W,S,(am.ext (a0.trans a2.ext)).prog,a2.at,C.ok u,λX li h1 c7 ⟨a3,c8,c9⟩=>?_;have db:=a2.ext.trans h1
 have h2:∀G s,bT W G s->G∈aq N/\jh N bk G s:=λG s a=>⟨C.lL a,(C.mY (C.lL a) s).mp a⟩
 have ii:∀{i:Nat} {e:Wy},(fA (cV N) W (cV N).nodes.length)[i]?=Y e->∃k l,e=(D k,D l)/\k∈aq N/\l∈aq N/\Eqv N k l:=λ{i e} a=>by let⟨k,l,im,io,is,it,ix⟩:=tu u C (cG (show _=Y (e.1,e.2)from a));exists k,l,kf im io,is,it,Nm a1 h2 ix
 have jp:X≠c:=by let⟨bm,o,_⟩:=as;intro ab;rw [ab,a2.ext _ _ o]at c7;cases c7
 exists _,S,X,S,⟨_,av.of c8⟩,?_;let ap:VLx:=λa4 h E=>X4 λx B f b=>A9 (h=[Y (.ref G),Y (.ref c),n,Y (.bl f),Y (.ref X),x,B]) (hs m p K E c N b) (Ext H E) (jg N b) (lM N b<=lM N bk) (f=I->lM N b<lM N bk) (f=ao->b=bk/\∀i<a4,∀g ad,(fA (cV N) W (cV N).nodes.length)[i]?=Y (D g,D ad)->bk g=bk ad) (E X=Y (.lst (a3.map V.ref))) (cE (da K E) a3 (fA (cV N) W (cV N).nodes.length))
 refine fw (xs:=a3.map V.ref) ap ?_ ?_ ?_ ?_
 .exact⟨_,_,ao,bk,S,as.ext db,a0.trans db,a1,aR _,(λa=>by cases a),λ_=>⟨S,λi t=>absurd t (k8 _)⟩,c8,c9⟩
 .rintro a4 h E _ ⟨_,_,_,_,_,_,_,_,_,_,_,a,_⟩;exact av.of a
 .rintro a4 e h E j ⟨x,B,f,b,rfl,w,a5,bd,dd,bs,be,bt,bi⟩;rw [bh]at j;cases v:a3[a4]? with
  |none=>rw [v]at j;cases j
  |some kk=>
   rw [v]at j;obtain rfl:=aS j;let⟨y,dl,dp,ds,kp,dx,dK⟩:=eA bi v;let⟨k,l,rfl,dL,dT,ks⟩:=ii dl;let⟨d0,kt,d1,em,eq,es⟩:=hs.get u w dL;let⟨ev,kw,ex,fa,fd,fl⟩:=hs.get u w dT;exists kk,_,S,kp,S,_,_,S,_,_,S,S,?_;exists _,S,_,S,c,_,S,⟨d0,pk (D k),dp,d1,em,S,dx,eq.symm⟩,_,S,_,S,c,_,S,⟨ev,pk (D l),ds,ex,fa,S,dK,fd.symm⟩,Po es fl ⟨_,S,?_⟩;rw [yG];by_cases bv:b k=b l
   .rw [cq bv];refine b1 ⟨_,_,f,b,S,w,a5,bd,dd,bs,λca=>?_,bt,bi⟩;let⟨o,F⟩:=be ca;exists o,λi t g ad cd=>?_;rcases kg.mp t with t|rfl
    .exact F i t g ad cd
    .rw [dl]at cd;injection (aS cd)with ce ch;obtain rfl:=d4 ce;obtain rfl:=d4 ch;rwa [<-o]
   .rw [bU bv];let⟨kP,lm⟩:=Nl bd dL dT ks bv;refine cf ⟨_,S,_,S,_,S,c,_,S,⟨d0,pk (D k),dp,d1,em,S,dx,eq.symm⟩,_,S,_,S,c,_,S,⟨ev,pk (D l),ds,ex,fa,S,dK,fd.symm⟩,c,kt,kw,_,_,D (b k),D (b l),S,c0,g2,w,es,fl,λln fm ci fn=>?_⟩;rw [PF]at fn;exists _,_,I,joinR b (b k) (b l),S,fn,λcl fr a=>fm cl fr (a5 cl fr a) (by intro ab;rw [ab,an]at a;cases a),kP,by lia,λ_=>by lia,(λa=>by cases a),fm _ _ bt jp,Paired.cb bi λcl lo ab=>?_;let⟨kV,k0,ce,ch,k1⟩:=ab;exists kV,k0,ci _ _ ce,ci _ _ ch,ci _ _ k1
 .rintro h E ⟨x,B,f,b,rfl,w,a5,bd,dd,bs,be,bt,bi⟩;rw [z,bO c9]at be;exists _,?_,n,Y (.ref X),x,B,f,b,S,w,a5,bd,λca g ad lp ls hw=>?_,S
  .cases f with
   |true=>have:=bs S;simp only [eQ];lia
   |false=>simp only [eQ,nJ,ie];lia
  .obtain⟨o,F⟩:=be ca;subst o;have k2:=hw.mono λG s a=>(C.mY a.1 s).mpr a.2
   let⟨i,t⟩:=hR.mp (tw u C k2);exact F i (cF.mp t).1 g ad t
abbrev EH:a7:=top 67
inductive t4 (m:aw) (p:au) (K:af) (D M:Z) (N:List V) (H:U) (S:VK) (T:XK):Prop
 |mk(P e:_)(n:Nat)(_:N=[.ref P,.int (n:Nat)])(_:cg K D M H P e)(_:∀z A tab,b8 m p K H A z tab->bM e tab (gr e (gq e n))->S (.ref z) A)
def pz(A D:Nat):decide (V.int ((A:Nat):Int)=V.int ((D:Nat):Int))=decide (A=D):=by rw [hb];exact⟨λz=>by injection z with z;lia,λz=>by rw [z]⟩
def PK{o:bc}(r:a9 K "table_of_rung" "table_of_rung" EH Q o){u:dD}(v:L "EVERYTHING"=Y (.int 0 wS))(x:L "BY_KINDS"=Y (.int 1 UF))(y:L "BOTH_WAYS"=Y (.int 2 u))(B:g_ 2 "everything_table" ["program"] (Ey m p K d q)) (C:g_ 6 "kinds_table" ["program"] (EB m p K d q)) (E:g_ 3 "table_of_classes" ["program","classes"] (yJ m p K d q)) (F:g_ 5 "last_classes" ["program"] (t2 m p K d q)) (w:g_ 5 "least_table" ["program"] (tU m p K d q)):f_ 7 Q o ["program","rung"] (t4 m p K d q):=by
 refine r.go ["program","rung"] λa0 a1 a2 a3 H a4 a5 bd i G be _ _=>?_;let⟨h,D,z,rfl,g,j⟩:=G;have n:=i.mo 5
 exists _,ar (bK (bS cT (T 1) (b7 v) (bV _)) (ay (aQ (bI B (i.mo 2) (aJ 0)))) bQ) (ar (bK (bS cT (T 1) (b7 x) (bV _)) (ay (aQ (bI C i (aJ 0)))) bQ) (ar (bK (bS cT (T 1) (b7 y) (bV _)) (ay (aQ (bI E (i.mo 3) (A (T 0) (A (bI F n (aJ 0)) aC))))) bQ) (ay (aQ (bI w n (aJ 0)))))),?_;exists _,S,S,_,S,?_;have R:decide (V.int ((z:Nat):Int)=V.int 0)=decide (z=0):=pz z 0
 have W:decide (V.int ((z:Nat):Int)=V.int 1)=decide (z=1):=pz z 1;have X:decide (V.int ((z:Nat):Int)=V.int 2)=decide (z=2):=pz z 2
 rw [R];by_cases k:z=0
 .subst k;exact cf ⟨_,S,h,D,S,g,λM U a b e=>j M U a b e⟩
 rw [bU k];refine b1 ⟨_,S,S,_,S,?_⟩;rw [W];by_cases l:z=1
 .subst l;exact cf ⟨_,S,h,D,S,g,λM U a b e=>j M U a b e⟩
 rw [bU l];refine b1 ⟨_,S,S,_,S,?_⟩;rw [X];by_cases f:z=2
 .subst f;refine cf ⟨_,S,_,S,h,D,S,g,λc bi ab s _ ad al am=>?_⟩;exists h,D,c,ab,S,g.ext s,ad,λM U a b e=>j M U a (b.from s) (e.congr λbk an ap=>Np g.ok al am an ap)
 rw [bU f];have as:gq D z=gm D:=by unfold gq;rw [N k,N l,N f]
 exact b1 ⟨_,S,h,D,S,g,λM U a b e=>j M U a b (as▸e)⟩
abbrev EI:a7:=top 54
def PL(U:bG pc)(a:nw∈aq pc){M:Ex}(b:M∈aG pc)(c:ag M=(D nw).2):(e9 pc nw).map D=if(D nw).1=0/\(aB M=.call\/aB M=.fst\/aB M=.snd\/aB M=.get)then [(0,dG (infos O pc) (D nw).2)]
  else if(D nw).1=1/\aB M=.fn then(cz (infos O pc) λN=>decide (N=.call)).map λT=>(0,dG (infos O pc) T)
  else if(D nw).1=4 then(cz (infos O pc) λN=>decide (N=.set)).map λT=>(0,dG (infos O pc) T)else []:=by
 rw [<-Nu U a];let⟨e,d⟩:=U.info b;unfold xw;rw [<-c,d];rfl
def EJ{c:Z}{H:U}(S:cg K d c H q pc){fm:Fm}(e:∀z∈aG pc,aB z=fm->∃A M,kids z=A::M){u:Nat}(f:u∈cz (infos O pc) λg=>decide (g=fm)):∃z A M,z∈aG pc/\ag z=u/\kids z=A::M/\dG (infos O pc) u=ag A:=by let⟨z,N,T,h⟩:=(tD S.ok _).mp f;let⟨A,M,a⟩:=e z N (d6 h);exists z,A,M,N,T,a,T▸S.ok.part N a
def yL{x:Ex}{A:Fm}(D:aB x=A)(z:A=.call\/A=.fst\/A=.snd\/A=.get\/A=.set):∃M N,kids x=M::N:=by
 cases x with
 |num b n=>rcases z with rfl|rfl|rfl|rfl|rfl<;>cases D
 |var b y=>simp only [aB]at D;split at D<;>(subst D;rcases z with z|z|z|z|z<;>cases z)
 |fn b y d=>exists _,_,S
 |app b a d=>exists _,_,S
 |letE b y a d=>exists _,_,S
 |ifz b a d c=>exists _,_,S
 |pair b a d=>exists _,_,S
 |fst b a=>exists _,_,S
 |snd b a=>exists _,_,S
 |new b a=>exists _,_,S
 |get b a=>exists _,_,S
 |set b a d=>exists _,_,S
 |add b a d=>exists _,_,S
inductive EK (K:af) (M N:Z) (S:List V) (H:U) (T:VK) (c:XK):Prop
 |mk(p e b a:_)(_:S=[.ref p,.ref b])(_:cg K M N H p e)(_:a∈aq e)(_:ax K H b (b4 (D a)))(_:∀z A,Ext H A->H z=O->eO K A z ((e9 e a).map D)->T (.ref z) A)
variable{WU:dD}
def PM(db:a9 K "places_that_steer" "places_that_steer" EI d o0)(b:eE K q Q)(dx:L "NODE_PLACE"=Y (.int 0 wS))(dK:L "NAME_PLACE"=Y (.int 1 UF))(dL:L "INSIDE_PLACE"=Y (.int 4 Wl))(dT:L "CALL"=Y (.str "a call" WU))(dX:h_ 2 q "calls_within" ["self"] (yg K q Q)) (ch:h_ 1 q "first_part_of" ["self","label"] (tS K q Q)) (d0:g_ 1 "labels_of" ["nodes","forms"] (rj K Q)):f_ 3 d o0 ["program","place"] (EK K q Q):=by
 refine db.go ["program","place","kind","form","call","put"] λhe hf hi R H hm hz h0 c4 G W _ sz=>?_;let⟨h,c,X,j,rfl,n,c5,ci,f⟩:=G;have ab:=n.ok
 have bm:=c4.mo 1;exists _,ar (bj 2 W (cc ku (T 1) cL (λ_ _=>S))) (ar (bj 3 W (fP (cc dk (aF 0) (cc ku (T 1) cL (λ_ _=>S)) (λ_ _=>S)) S)) (ar (bK (PW.pt (vv (bS cT (T 2) (b7 dx) (bV _)) (vt (bS vU (T 3) (b6 (A (hl dT) (A dP (A dP (A dP aC))))) S)))) (ay (aQ (de (A (eL (E:=E0) (T 0) ch bm cx (A (cc ku (T 1) cL (λ_ _=>S)) aC)) aC)))) bQ) (ar (bK (PW.pt (vv (bS cT (T 2) (b7 dK) (bV _)) (vt (bS cT (T 3) dP (bV _))))) (ay (aQ (fS (own:=[("call",4)]) S W (dC (dR (E:=E0) (T 0) dX c4 cx)) (e2 S) (λR H q s ap=>bX 4 W) (λR H q s ap=>hB) (λR H q s ap=>eL (E:=E0) (T 0) ch bm cx (aJ 4))))) bQ) (ar (bK (bS cT (T 2) (b7 dL) (bV _)) (ay (aQ (fS (own:=[("put",5)]) S W (dC (bI d0 bm (A (aF 0) (A (b6 (A dP aC)) aC)))) (e2 S) (λR H q s ap=>bX 5 W) (λR H q s ap=>hB) (λR H q s ap=>eL (E:=E0) (T 0) ch bm cx (aJ 5))))) bQ) (ay (aQ (de aC))))))),?_;let⟨a,bn,bs,_⟩:=pa ab c5;let⟨d1,em,eq,h1,es,c6,ev,ex,fa,h2,c7,fd⟩:=n.node bn;let⟨fl,fn,fr,fs⟩:=fd.aK;rw [PL ab c5 bn bs]at f;rw [bs]at c7;let⟨bt,id,ii,im,io,is,bv,_⟩:=n.ex;have fT:∀{c8:U},Ext H c8->ax K c8 X (b4 (D j)):=λa=>a.aP ci
 exists _,S,X,_,_,_,S,S,ci,S,?_;exists _,S,h,q,d1,em,_,S,ev,b.p.c,b.p.nodes,ex,_,S,X,_,_,_,S,S,ci,S,eq,_,_,_,S,S,av.of fa,e1 (by rw [bh,c7];rfl),es,Q,fl,fn,_,S,fr,b.n.cl,b.n.aK,fs,?_;have f0:decide (V.int (((D j).1:Nat):Int)=V.int 0)=decide ((D j).1=0):=pz _ 0
 have ad:decide (V.int (((D j).1:Nat):Int)=V.int 1)=decide ((D j).1=1):=pz _ 1;have cl:decide (V.int (((D j).1:Nat):Int)=V.int 4)=decide ((D j).1=4):=pz _ 4
 exists _,S,S,_,S,?_;rw [f0];by_cases ca:(D j).1=0
 .rw [cq ca];refine cf ⟨_,S,(by decide),λas cn=>⟨as,_,S,.inr (ax.of M),S,S,_,S,?_⟩⟩;have f1:=tN (aB a) [.call,.fst,.snd,.get]
  have f2:jE (.str (cO (cZ c6 a).aK)) [.str "a call",.str "fst",.str "snd",.str "get"]=decide (aB a∈[Fm.call,.fst,.snd,.get]):=f1;rw [N d5,f2];have o:Ext H (upd H as (.tup [.str "a call",.str "fst",.str "snd",.str "get"])):=Ext.one cn
  by_cases w:aB a∈[Fm.call,.fst,.snd,.get]
  .rw [cq w];have cd:aB a=.call\/aB a=.fst\/aB a=.snd\/aB a=.get:=by simpa using w
   rw [ai ⟨ca,cd⟩]at f;let⟨al,f4,am⟩:=yL (x:=a) S (by rcases cd with G|G|G|G<;>simp [G]);have a0:dG (infos O c) (D j).2=ag al:=by rw [<-bs];exact ab.part bn am
   rw [a0]at f;refine cf ⟨_,S,h,bt,_,S,o _ _ bv,S,_,S,X,_,_,_,S,S,fT o,S,h,c,a,al,f4,by rw [bs];rfl,n.ext o,bn,am,λt g e c9 a1=>⟨eN,λv k=>?_⟩⟩;exact f v _ ((o.trans e).new k) ((o.trans e).none k) ⟨[t],M,.cons ((Ext.one k).aP a1) .nil⟩
  .rw [bU w];have cd:¬((D j).1=0/\(aB a=.call\/aB a=.fst\/aB a=.snd\/aB a=.get)):=λl=>w (by simpa using l.2)
   rw [N cd,N (by lia),N (by lia)]at f;refine b1 ⟨_,S,S,_,S,?_⟩;rw [ad,bU (by lia)];refine b1 (b1 ⟨_,S,S,_,S,?_⟩);rw [cl,bU (by lia)];exact b1 ⟨cP _,λv k=>f v _ (o.new k) (o.none k) ⟨[],M,.nil⟩⟩
 .rw [bU ca];rw [N λl=>ca l.1]at f;refine b1 (b1 ⟨_,S,S,_,S,?_⟩);rw [ad];by_cases r:(D j).1=1
  .rw [cq r];refine cf ⟨_,S,S,_,S,?_⟩;have f8:decide (V.str (cO (cZ c6 a).aK)=V.str (dO "fun"))=decide (aB a=.fn):=rb (aB a) .fn
   rw [f8];by_cases w:aB a=.fn
   .rw [cq w];rw [ai ⟨r,w⟩]at f;refine cf ⟨_,S,h,bt,_,S,bv,S,h,c,S,n,λco cr B ga an=>?_⟩;have ge:(cz (infos O c) λd=>decide (d=.call)).length<=30:=by
     have:=nr (infos O c) λd=>decide (d=.call);rw [eT]at this;exact cu this ab.bL
    exists co,S,⟨_,av.of an⟩,λc3 C=>?_;let cs:VCx:=λi g=>eO K g c3 (((cz (infos O c) λd=>decide (d=.call)).take i).map λct=>(0,dG (infos O c) ct))/\Ext cr g
    refine hC (xs:=(cz (infos O c) λd=>decide (d=.call)).map λa=>V.int (a:Nat)) cs ?_ ?_ ?_ ?_
    .exact⟨⟨[],M,.nil⟩,Ext.one C⟩
    .rintro i g _ ⟨_,e⟩;exact av.of (e _ _ an)
    .rintro i y g a2 ⟨⟨a3,r,a4⟩,e⟩;rw [bh]at a2;let⟨u,a5,rfl⟩:=cv.mp a2;let⟨c0,al,c1,c2,ad,am,a0⟩:=EJ (fm:=.call) n (λa _ G=>yL G (by simp)) (cG a5);have bd:=B.trans e
     exists S,?_;unfold hk;dsimp only [];rw [ai S];exists _,S,h,bt,_,S,bd _ _ bv,S,_,S,h,c,c0,al,c1,by rw [ad];rfl,n.ext bd,c2,am,λt be F c9 a1=>?_;have bi:=F _ _ r
     have bk:cX (be c3)\/be c3=O:=.inl (by rw [bi];exact trivial);have s:a3.length<=30:=by rw [bO a4,z,dU];lia
     exists _,bi,by rw [z];lia,⟨a3++[t],by rw [M,aT];rfl,?_⟩,(e.trans F).upd C;rw [dq,a5,aT];refine fY (Paired.cb (fJ.ext F a4) λX h l=>bF bk l) ?_;show ax K _ t (b4 (0,dG (infos O c) u))
     rw [a0];exact bF bk a1
    .rintro g ⟨bl,e⟩;rw [z,dB]at bl;exact f c3 g (B.trans e) (B.none C) bl
   .rw [bU w];rw [N λl=>w l.2,N (by lia)]at f;refine b1 ⟨_,S,S,_,S,?_⟩;rw [cl,bU (by lia)];exact b1 ⟨cP _,λv k=>f v _ (Ext.one k) k ⟨[],M,.nil⟩⟩
  .rw [bU r];rw [N λl=>r l.1]at f;refine b1 (b1 ⟨_,S,S,_,S,?_⟩);rw [cl];by_cases ce:(D j).1=4
   .rw [cq ce];rw [ai ce]at f;let⟨gl,⟨go,gt,g1,g2⟩,g3⟩:=n.nodes;refine cf ⟨_,S,h,q,go,gt,_,S,g1,b.p.c,b.p.nodes,g2,eN,λas cn=>?_⟩;have o:Ext H (upd H as (.tup [.str "set"])):=Ext.one cn
    exists gl,infos O c,as,[.set],S,g3.ext o,by rw [eT];exact ab.bL,ax.of M,λco cr hd ga an=>?_;rw [tQ]at an;have B:=o.trans hd
    have ge:(cz (infos O c) λd=>decide (d=.set)).length<=30:=by have:=nr (infos O c) λd=>decide (d=.set);rw [eT]at this;exact cu this ab.bL
    exists co,S,⟨_,av.of an⟩,λc3 C=>?_;let cs:VCx:=λi g=>eO K g c3 (((cz (infos O c) λd=>decide (d=.set)).take i).map λct=>(0,dG (infos O c) ct))/\Ext cr g
    refine hC (xs:=(cz (infos O c) λd=>decide (d=.set)).map λa=>V.int (a:Nat)) cs ?_ ?_ ?_ ?_
    .exact⟨⟨[],M,.nil⟩,Ext.one C⟩
    .rintro i g _ ⟨_,e⟩;exact av.of (e _ _ an)
    .rintro i y g a2 ⟨⟨a3,r,a4⟩,e⟩;rw [bh]at a2;let⟨u,a5,rfl⟩:=cv.mp a2;let⟨c0,al,c1,c2,ad,am,a0⟩:=EJ (fm:=.set) n (λa _ G=>yL G (by simp)) (cG a5);have bd:=B.trans e
     exists S,?_;unfold hk;dsimp only [];rw [ai S];exists _,S,h,bt,_,S,bd _ _ bv,S,_,S,h,c,c0,al,c1,by rw [ad];rfl,n.ext bd,c2,am,λt be F c9 a1=>?_;have bi:=F _ _ r
     have bk:cX (be c3)\/be c3=O:=.inl (by rw [bi];exact trivial);have s:a3.length<=30:=by rw [bO a4,z,dU];lia
     exists _,bi,by rw [z];lia,⟨a3++[t],by rw [M,aT];rfl,?_⟩,(e.trans F).upd C;rw [dq,a5,aT];refine fY (Paired.cb (fJ.ext F a4) λX h l=>bF bk l) ?_;show ax K _ t (b4 (0,dG (infos O c) u))
     rw [a0];exact bF bk a1
    .rintro g ⟨bl,e⟩;rw [z,dB]at bl;exact f c3 g (B.trans e) (B.none C) bl
   .rw [bU ce];rw [N ce]at f;exact b1 ⟨cP _,λv k=>f v _ (Ext.one k) k ⟨[],M,.nil⟩⟩
abbrev EL:a7:=inClass (top 103) 0
abbrev EM:a7:=inClass (top 103) 1
abbrev EN:a7:=inClass (top 103) 2
abbrev EO:a7:=inClass (top 103) 3
abbrev ER:a7:=top 106
structure rm(K:af)(z:Z):Prop where
 cl:fc K z
 t5:dF K z "numbers"
 nu:dF K z "reached"
def nv(z:Z)(i:Int):List (aa×V):=[("numbers",.ref z),("reached",.int i)]
def gz(K:af)(D:Z)(H:U)(M A:Z)(z:List Int)(i:Nat):Prop:=(∃N,H M=Y (.ins D N (nv A i)))/\av K H A (z.map V.int)/\i<=z.length/\z.length<=100000
inductive ES (K:af) (z:Z) (A:List V) (H:U) (D:VK) (M:XK):Prop
 |mk(a ln l i:_)(_:A=[.ref a])(_:gz K z H a ln l i)(_:D (.bl (decide (i<l.length))) H)
def PN(e:a9 K "has_more" "Row.has_more" EM q o0)(M:rm K d)(f:L "len"=O):f_ 1 q o0 ["self"] (ES K d):=by
 refine e.go ["self"] λk l N n H o T G r g _ _ _=>?_;let⟨U,h,a,i,rfl,⟨⟨b,c⟩,j,s,t⟩,D⟩:=g;exists _,ay (aQ (oh sf (aF 0) (cR el (by rfl) f dE (A (aF 0) aC)) (bV _))),?_;dsimp;exists _,S,U,d,b,_,_,S,c,M.cl,M.nu,S,_,S,U,d,b,_,_,S,c,M.cl,M.t5,S,h,_,S,.inl j,_,_,S,S,?_;rw [z];have:decide (((i:Nat):Int)<((a.length:Nat):Int))=decide (i<a.length):=by rw [hb];lia
 rw [<-this]at D;exact D
inductive yM (K:af) (D:Z) (S:List V) (H:U) (T:VK) (b:XK):Prop
 |mk(a ln l i z:_)(_:S=[.ref a])(_:gz K D H a ln l i)(_:l[i]?=Y z)(_:∀A,gz K D A a ln l (i+1)->bN a H A->(∀M N,ax K H M N->ax K A M N)->T (.int z) A)
def ET{H:U}{o:HO}(N:H d=Y (.ins Q pi FS))(z:av K H q t3):av K (upd H d o) q t3:=by
 rcases z with(z|⟨u,z⟩)|z
 .exact .inl (.inl (jm N z))
 .exact .inl (.inr ⟨u,ah (cW z N (by intro b;cases b))▸z⟩)
 .exact .inr z
def PQ{c:bc}(f:a9 K "take_number" "Row.take_number" EN q c)(z:rm K d):f_ 1 q c ["self"] (yM K d):=by
 refine f.go ["self","number"] λG r s t H u v x y U g _ _=>?_;let⟨a,h,B,i,C,rfl,⟨⟨N,A⟩,D,E,j⟩,e,k⟩:=U;exists _,ar (bj 1 g (cc dk (aF 0) (aF 0) (λ_ _=>S))) (ar (vN (T 0) cL vO) (ay (aQ (T 1)))),?_;have l:=(cF.mp e).1
 exists _,S,a,d,N,_,_,S,A,z.cl,z.t5,S,_,S,a,d,N,_,_,S,A,z.cl,z.nu,S,h,_,_,_,S,S,D,e1 (by rw [bh,e];rfl),?_;exists _,S,a,d,N,_,_,S,A,z.cl,z.nu,S,_,_,S,S,N,_,A,(by show 2<1000;decide),_,S,?_;refine k _ ⟨⟨N,?_⟩,ET A D,l,j⟩ (λb o n w=>ah w▸n) λb F U=>bF (.inl (A▸trivial)) U;rw [M];rfl
inductive pA (K:af) (D:List V) (H:U) (M:VK) (N:XK):Prop
 |mk(a ps:_)(_:D=[.ref a])(_:LstAt K H a ps)(_:ps.length<=5000)(_:∀z A,Ext H A->H z=O->A z=Y (.lst ((ct ps).map V.int))->M (.ref z) A)
def PR(C:a9 K "counted_twos" "counted_twos" ER d o0)(E:L "len"=O):f_ 1 d o0 ["twos"] (pA K):=by
 refine C.go ["twos","told","two"] λal am an ap H as a0 a1 a2 r t _ sz=>?_;let⟨f,a,rfl,⟨G,n,u⟩,a3,Q⟩:=r;exists _,ar (bj 1 t (de (A (cR el (by rfl) E dE (aJ 0)) aC))) (ar (d3 dZ S (dC (T 0)) (bX 2 t) (ar (cM (fe fu f9 gF fQ (T 1) (A (cc ku (T 2) cL (λ_ _=>S)) aC))) (ay (cM (fe fu f9 gF fQ (T 1) (A (cc ku (T 2) cL (λ_ _=>S)) aC)))))) (ay (aQ (T 1)))),?_;exists _,S,f,_,S,.inl n,eN,λb i=>?_;have c:Ext H (upd H b (.lst [.int ((G.map V.ref).length:Int)])):=Ext.one i
 exists _,S,f,S,⟨_,c.ef n⟩,?_;have v:=bO u
 let g:Nat->List Int:=λD=>(a.length:Int)::(a.take D).flatMap λN=>[(N.1:Int),(N.2:Int)]
 have R:∀D,(g D).length<=2*D+1:=λD=>by
  have:∀j:List Pr,(j.flatMap λN=>[(N.1:Int),(N.2:Int)]).length=2*j.length:=by
   intro j;induction j with
   |nil=>rfl
   |cons f o W=>rw [b3,br,W,dn (a:=f)];show 2+_=_;lia
  rw [dn,this,dU]
  lia
 let X:VLx:=λD k s=>∃w,A3 (k=[Y (.ref f),Y (.ref b),w]) (s b=Y (.lst ((g D).map V.int))) (Ext H s);refine fw (xs:=G.map V.ref) X ?_ ?_ ?_ ?_
 .exact⟨O,S,by rw [M,z,v];rfl,c⟩
 .rintro D k s _ ⟨_,_,_,x⟩;exact x.ef n
 .rintro D x k s h ⟨w,rfl,e,c⟩;rw [bh]at h;cases q:G[D]? with
  |none=>rw [q]at h;cases h
  |some o=>
   rw [q]at h;obtain rfl:=aS h;let⟨l,y,B⟩:=eA u q;have a4:D<a.length:=(cF.mp y).1
   have a5:=R D;have ab:(g (D+1)).map V.int=(g D).map V.int++[V.int (l.1:Nat)]++[V.int (l.2:Nat)]:=by show((a.length:Int)::(a.take (D+1)).flatMap λN=>[(N.1:Int),(N.2:Int)]).map V.int=((a.length:Int)::(a.take D).flatMap λN=>[(N.1:Int),(N.2:Int)]).map V.int++[V.int (l.1:Nat)]++[V.int (l.2:Nat)];rw [dq,y,k4,<-dg,aT,ck];rfl
   have ad:cX (s b)\/s b=O:=.inl (by rw [e];exact trivial);exists _,S,.inl ⟨S,_,av.of e⟩,_,S,o,_,_,_,S,S,c.aP B,S,b,_,_,S,S,e,by rw [z];lia,?_;exists _,S,.inl ⟨S,_,av.of M⟩,_,S,o,_,_,_,S,S,bF ad (c.aP B),S,b,_,_,S,S,M,by rw [br,z];show(g D).length+1<aU;lia,?_;exists _,S,?_,(c.upd i).upd i;rw [M,ab]
 .rintro k s ⟨w,rfl,e,c⟩;rw [z,v]at e;exists _,S,Q b s c i ?_;rw [e];show Y (HO.lst (((a.length:Int)::(a.take a.length).flatMap λN=>[(N.1:Int),(N.2:Int)]).map V.int))=_
  rw [dB];rfl
def PU(z:List V)(i A:Nat):gH z (Y ((i:Nat):Int)) (Y (((i+A:Nat)):Int))=(z.drop i).take A:=by
 unfold gH;rw [HT.sk,HT.sk];by_cases c:i<=z.length
 .rw [ik c];by_cases D:i+A<=z.length
  .rw [ik D,Nat.add_sub_cancel_left]
  .rw [n0 (by lia),j4 (by rw [l6];lia),j4 (by rw [l6];lia)]
 .rw [n0 (by lia),n0 (by lia),kd,qh,zY (by lia),rr]
inductive EU (K:af) (D:Z) (S:List V) (H:U) (T:VK) (b:XK):Prop
 |mk(a ln l i:_)(t:aj)(rest:_)(_:S=[.ref a])(_:gz K D H a ln l i)(_:l.drop i=(t.length:Int)::(gs t++rest))(_:∀A z,gz K D z a ln l (i+1+t.length)->bN a H z->(∀M N,ax K H M N->ax K z M N)->H A=O->A≠a->z A=Y (.lst (cJ t))->T (.ref A) z)
def PV(y:a9 K "take_text" "Row.take_text" EO q o0)(N:rm K d)(B:h_ 1 d "take_number" ["self"] (yM K d)):f_ 2 q o0 ["self"] (EU K d):=by
 refine y.go ["self","length","text"] λa2 a3 a4 a5 H bd be bi C h n _ _=>?_;let⟨c,w,U,i,A,G,rfl,r,s,F⟩:=h;exists _,ar (bj 1 n (dR (E:=E0) (T 0) B C cx)) (ar (bj 2 n (qw qy (aF 0) (oj (aF 0)) (oj (hg se (aF 0) (T 1))))) (ar (vN (T 0) (T 1) vO) (ay (aQ (T 2))))),?_;let⟨⟨D,Q⟩,bk,bl,R⟩:=id r;have W:U[i]?=Y (A.length:Int):=by
  have:(U.drop i)[0]?=Y (A.length:Int):=by rw [s];rfl
  rwa [HC,j9]at this
 have t:U.drop (i+1)=gs A++G:=by
  have:(U.drop i).drop 1=gs A++G:=by rw [s];rfl
  rwa [HD]at this
 exists _,S,c,D,_,S,Q,S,c,w,U,i,(A.length:Int),S,r,W,λe X u ab=>?_;let⟨⟨l,a⟩,v,bm,bn⟩:=id X;exists _,S,c,d,l,_,_,S,a,N.cl,N.t5,S,?_;exists _,S,c,d,l,_,_,S,a,N.cl,N.nu,S,_,S,_,S,c,d,l,_,_,S,a,N.cl,N.nu,S,_,S,_,_,S,S,_,S,w,_,S,v,λf j=>?_;have ad:gH (U.map V.int) (Y ((i+1:Nat):Int)) (Y (((i+1:Nat):Int)+(A.length:Int)))=cJ A:=by
  have al:((i+1:Nat):Int)+(A.length:Int)=((i+1+A.length:Nat):Int):=by lia
  rw [al,PU,<-List.map_drop,t,aT];have am:(gs A).map V.int=cJ A:=by unfold gs cJ;rw [d7];rfl
  rw [am,T2 (by unfold cJ;rw [z];exact aR _),j4 (by unfold cJ;rw [z];exact aR _)]
 have k:=(cB a j).symm;have b:Ext e (upd e f (.lst (cJ A))):=Ext.one j
 have an:upd e f (.lst (gH (U.map V.int) (Y ((i+1:Nat):Int)) (Y (((i+1:Nat):Int)+(A.length:Int)))))=upd e f (.lst (cJ A)):=by rw [ad]
 rw [an];have ap:i+1+A.length<=U.length:=by
  have:=bD cN t;rw [l6,br]at this;have bs:(gs A).length=A.length:=by unfold gs;rw [z]
  lia
 exists _,S,c,d,l,_,_,S,b _ _ a,N.cl,N.nu,S,_,S,_,_,S,S,l,_,b _ _ a,(by show 2<1000;decide),_,S,?_;refine F f _ ⟨⟨l,?_⟩,ET (b _ _ a) (b.ef v),ap,R⟩ (λg o as x=>ah x▸b g o (u g o as x)) (λg a0 h=>bF (.inl (b _ _ a▸trivial)) (b.aP (ab g a0 h))) (u.none j k) k ((ah k).trans M);rw [M];have a1:(((i+1+A.length:Nat)):Int)=((i+1:Nat):Int)+(A.length:Int):=by lia
 rw [a1];rfl
abbrev EV:a7:=top 105
inductive EW (z:Z) (A:List V) (H:U) (D:VK) (M:XK):Prop
 |mk(a b ln:_)(_:A=[.ref a,.ref ln])(_:H a=Y (.ins z b []))(_:D .bw (upd H a (.ins z b (nv ln 0))))
def PX(b:a9 K "__init__" "Row.__init__" EL q o0)(A:rm K d):f_ 1 q o0 ["self","numbers"] (EW d):=by refine b.go ["self","numbers"] λe f g h H i j k l c _ _ _=>?_;let⟨U,a,D,rfl,z,n⟩:=c;exists _,ar (dQ (T 0) (T 1) S) (ay (dQ (T 0) cL S)),?_;exists _,S,_,S,U,d,a,_,S,z,A.cl,A.t5,by decide,?_;exists _,S,U,d,a,_,S,M,A.cl,A.nu,(by show 1<1000;decide),?_;rwa [gS]
inductive yN (A:Z) (D:List V) (H:U) (M:VK) (N:XK):Prop
 |mk(z:Int)(_:D=[.int z])(_:if 0<=z/\z<4 then M .bw H else N (.ref A) O H)
def PY(b:a9 K "check_rung" "check_rung" EV Q o0)(A:L "NoRung"=Y (.ref q))(e:gP K q fU "Exception.__new__"=I)(f:L "RUNGS"=Y (.ref d))(g:∀H,ax K H d [.int 0,.int 1,.int 2,.int 3]):k_ 1 Q o0 ["rung"] (yN q):=by
 refine b.ew ["rung"] λk l M n H o G U h i _ _ _=>?_;let⟨z,rfl,D⟩:=i;exists _,ay (bK (bS AB (T 0) (ek (v:=.ref d) S f S) S) (ay (jH j8 (by decide) e S A h.hd)) bQ),?_;dsimp;exists _,S,d,_,S,.inr (g H),S,S,_,S,?_;have j:jE (.int z) [.int 0,.int 1,.int 2,.int 3]=decide (0<=z/\z<4):=by
  show((0==z)||((1==z)||((2==z)||((3==z)||ao))))=_;rw [ic];simp only [zj,iM,j5,nJ,g8]
  lia
 rw [ai S,j];by_cases c:0<=z/\z<4
 .rw [ai c]at D;rw [cq c];exact b1 D
 .rw [N c]at D;rw [bU c];exact cf D
abbrev EX:a7:=top 79
abbrev yO:a7:=top 80
def pB(H:U)(D:Z)(G:Nat->Option Nat):Prop:=∃z,H D=Y (.dK z)/\∀A:Nat,cU z (.inl (A:Int))=(G A).map λM=>V.int (M:Nat)
def EY(K:af)(H:U)(A:VK):Option Pr->Prop
 |none=>A .bw H
 |some p=>∀D z,Ext H z->ax K z D (b4 p)->A (.ref D) z
inductive yP (K:af) (z:List V) (H:U) (A:VK) (D:XK):Prop
 |mk(b p d a:_)(_:z=[.ref b,.ref d])(_:ax K H b (b4 p))(_:pB H d a)(_:EY K H A (fj a p))
def PZ(j:a9 K "moved_two" "moved_two" EX d o0):f_ 1 d o0 ["two","moved"] (yP K):=by
 refine j.go ["two","moved"] λw q r s H t u v x l _ f _=>?_;let⟨N,z,g,U,rfl,a,⟨y,h,i⟩,D⟩:=l;exists _,ar (bK (i0 (Ki f (cc ku (T 0) cL (λ_ _=>S)) (T 1)) S) (ay (aQ vr)) bQ) (ay (aQ (b6 (A (cc ku (T 0) cL (λ_ _=>S)) (A (AR f (T 1) (cc ku (T 0) cL (λ_ _=>S)) (λ_ _=>S)) aC))))),?_;exists _,S,N,_,_,_,S,S,a,S,_,S,g,_,S,ir.k (k:=.inl (z.2:Int)) h,_,S,?_;rw [i z.2,kU];cases b:U z.2 with
 |none=>
  have c:fj U z=O:=by unfold fj;rw [b];rfl
  rw [c]at D;exact cf D
 |some n=>
  have c:fj U z=Y (z.1,n):=by unfold fj;rw [b];rfl
  rw [c]at D;refine b1 ⟨_,S,N,_,_,_,S,S,a,S,_,S,_,S,N,_,_,_,S,S,a,S,g,V.int (n:Nat),S,?_,cD,λe o=>D e _ (Ext.one o) (ax.of M)⟩;have:=ir.k (k:=.inl (z.2:Int)) h
  rw [i z.2,b]at this;exact this
inductive EZ (K:af) (z:List V) (H:U) (A:VK) (D:XK):Prop
 |mk(b p d a:_)(_:z=[.ref b,.ref d])(_:ax K H b (b4 p))(_:pB H d a)(_:EY K H A (fX a p))
def P0(h:a9 K "moved_sort" "moved_sort" yO d o0)(i:L "NUMBERS"=Y (.ref q))(j:∀H,ax K H q (b4 (0,0)))(k:g_ 1 "moved_two" ["two","moved"] (yP K)):f_ 2 d o0 ["sort","moved"] (EZ K):=by
 refine h.go ["sort","moved"] λl a s n H t u x f o _ _ _=>?_;let⟨g,z,G,D,rfl,b,e,M⟩:=o;have r:(a.deeper (eI "moved_sort" (ei yO) n.heap.objs.size d l)).units+64<cK:=by have:=f.un;lia
 exists _,ar (bK (bS (v5 r) (T 0) (ek (v:=.ref q) S i S) (bV _)) (ay (aQ (T 0))) bQ) (ay (aQ (bI k f (A (T 0) (aJ 1))))),?_;exists _,S,?_;unfold tC;dsimp only;refine tZ b (j H) ⟨_,S,?_⟩;by_cases c:z=(0,0)
 .rw [cq c];have U:fX D z=Y z:=ai c
  rw [U]at M;exact cf ⟨_,S,M g H (Ext.refl H) b⟩
 .rw [bU c];have U:fX D z=fj D z:=N c
  rw [U]at M;exact b1 ⟨_,S,_,S,g,z,G,D,S,b,e,M⟩
def E1[DecidableEq sB](u:List sB)(A:sB):∃D,dW u A=u++D:=by
 unfold dW;split
 all_goals simp_all
theorem E2[DecidableEq sB]:∀(D u:List sB),∃A,cS u D=u++A
 |[],u=>⟨[],(b0 u).symm⟩
 |x::a,u=>by
  let⟨A,G⟩:=E1 u x;let⟨y,M⟩:=E2 a (dW u x)
  grind [cS]
def P1(z:List aA)(A:aA):dW (z.map D) (D A)=(dW z A).map D:=by grind [Bz,BB,d4]
def eF(z:List aA)(A:Tb):Nat:=(z.map λG=>((ba A (D G)).getD []).length).sum
structure f3(z:ae)(A:aA)(D:List aA)(tab:Tb):Prop where
 nd:D.Nodup
 h0:A∈D
 lp:∀p∈D,iB z A p
 tt:bM z tab (bT tab)
 lt:∀p a,bT tab p a->jd z A p a
def iG(M:ae)(N:List aA)(S T:Tb):Prop:=∀z∈aq M,∃A G,ba S (D z)=Y A/\ba T (D z)=Y (A++G)/\(z∉N->G=[])
structure E3(D:ae)(z:List aA)(tab:Tb)(A:List aA):Prop where
 pre:∃M,A=z++M
 ask:∀N∈z,∀p∈e9 D N,p∈A
 way:∀G d,ed D (bT tab) G d->d∈z->G∈A
structure E4(z:ae)(A:List aA)(tab D:Tb):Prop where
 pre:iG z A tab D
 iz:∀p a,fG z p a->p∈A->bT D p a
 way:∀G d a,ed z (bT tab) G d->d∈A->bT tab G a->bT D d a
theorem f3.hK(A:f3 l v1 zn or)(D:v1∈aq l)(G:nw∈zn):nw∈aq l:=A.lp nw G _ (hY l) (w8 v1 D)
theorem len_sub[DecidableEq sB]:∀{A m:List sB},A.Nodup->(∀z∈A,z∈m)->A.length<=m.length
 |[],_,_,_=>cP _
 |a::d,m,b,c=>by
  rw [ej]at b;have N:=len_sub (m:=m.erase a) b.2 λz G=>(List.mem_erase_of_ne (λM:z=a=>b.1 (M▸G))).mpr (c z (bC _ G))
  grind
def f3.bound(N:bG l)(T:nw∈aq l)(A:f3 l nw zn or):zn.length<=90/\eF zn or<=2790:=by
 have d:=places_len l;have f:=N.bL
 have g:=len_sub A.nd λG M=>A.hK T M;have a:zn.length<=90:=by lia
 exists a,?_;have b:eF zn or<=(zn.map λG=>((ba or (D G)).getD []).length).length*31:=xo λh c=>by let⟨G,M,rfl⟩:=bH.mp c;let⟨i,U,_⟩:=A.tt.look (A.hK T M);rw [U];exact(A.tt.len N U).1
 rw [z]at b
 lia
theorem iG.refl(z:bM l or (bT or)):iG l zn or or:=λM A=>let⟨D,G,_⟩:=z.look A;⟨D,[],G,by grind,λ_=>S⟩
theorem iG.step(b:iG l zn Is or)(i:nw∈zn)(j:nw∈aq l)(G:ba or (D nw)=Y rc)(T:List Pr):iG l zn Is (dM or (D nw) (cS rc T)):=λU d=>by
 let⟨a,A,f,g,h⟩:=b U d;rw [o9 _ (kE G)];by_cases c:U=nw
 .subst c;rw [g]at G;obtain rfl:=aS G;let⟨y,k⟩:=E2 T (a++A)
  grind
 .exact⟨a,A,f,by rwa [N λA=>c (d4 A)],h⟩
theorem iG.le(N:iG l zn or Is):∀{M:List aA},(∀z∈M,z∈aq l)->eF M or<=eF M Is/\(eF M Is<=eF M or->∀z∈M,ba Is (D z)=ba or (D z))
 |[],_=>⟨aR _,λ_ z G=>nomatch G⟩
 |q::M,G=>by
  let⟨b,T⟩:=N.le (M:=M) λz A=>G z (bC _ A);let⟨d,c,U,a,f⟩:=N q (G q bE);unfold eF at b T⊢;simp only [aZ,eC,U,a,zP,br];exists by lia,λg z A=>?_;rcases bg.mp A with rfl|A
  .have:c=[]:=kX.mp (by lia);rw [U,a,this,b0]
  .exact T (by lia) z A
def P2(z A:List aA)(tab:Tb):eF (z++A) tab=eF z tab+eF A tab:=by unfold eF;grind
variable{Wm:List aA}
def P4(n:bG l)(j:nw∈aq l)(o:f3 l nw Wm or)(A:f3 l nw zn Is)(U:E3 l Wm or zn)(N:E4 l zn or Is)(p:¬Wm.length+eF Wm or<zn.length+eF zn Is):((aq l).filter λz=>decide (z∈zn))=ju l nw/\zn.length=(ju l nw).length/\∃k,ba Is (D nw)=Y k/\(((bp l).map a6).filter λq=>decide (q∈k))=(ke l nw).map a6:=by
 let⟨r,rfl⟩:=U.pre;let⟨B,s⟩:=N.pre.le (M:=Wm) λz G=>o.hK j G;rw [br,P2]at p;have t:r=[]:=kX.mp (by lia)
 subst t;rw [b0]at A N U⊢;have u:∀z∈aq l,ba Is (D z)=ba or (D z):=λz G=>by
  by_cases c:z∈Wm
  .exact s (by lia) z c
  .obtain⟨e,C,a,b,v⟩:=N.pre z G;rw [a,b,v c,b0]
 have d:∀z T,bT Is z T->bT or z T:=λz T m=>by have G:=A.tt.lL m;let⟨e,a,b⟩:=m;exists e,by rw [<-u z G];exact a,b
 exact Nv n A.tt A.nd j A.h0 A.lp A.lt (λz G w x=>U.ask z G w x) (λf g h i=>U.way f g (h.mono d) i) N.iz λf g T h y i=>N.way f g T (h.mono d) i (d _ _ y)
def E5:∀A:ae,bo A=I->(bq A).length<=20*size A:=by
 have M:∀{G:aj},gD G=I->G.length<=4:=λz=>by unfold gD at z;simp only [bx,j5]at z;exact z.2.1
 have N:(az "fun").length=3/\(az "let").length=3/\(az "if").length=2/\(az "pair").length=4/\(az "fst").length=3/\(az "snd").length=3/\(az "new").length=3/\(az "get").length=3/\(az "set").length=3/\(az "add").length=3:=by decide
 have S:∀D:Nat,D<100->(d9 D).length<=20:=by decide
 let⟨T,U,b,c,d,e,f,g,h,i⟩:=N;intro A;induction A with
 |num a D=>
  intro z;exact S D (by have:=d6 (show decide (D<=99)=I from z);lia)
 |var a G=>intro z;have:=M z;show G.length<=20*1;lia
 |_=>
  intro z;simp only [bo,bx]at z;simp_all only [bq,Hf,va,Hg,size,aG,dn,br,iP,forall_const]
  first|lia|(have:=M z.1;lia)
def P5(M:(aq l).Nodup)(N:(bp l).Nodup)(T:aA->cw->Bool):(eS l T).Nodup:=by
 unfold eS;revert M;generalize aq l=a;induction a with
 |nil=>exactλ_=>gc
 |cons p f b=>
  intro A;rw [ej]at A;rw [b3];refine gC.mpr ⟨iD (λU c D=>by cases D<;>rfl) (N.filter _),b A.2,λU d c G D=>A.1 ?_⟩;let⟨_,_,rfl⟩:=bH.mp d;let⟨g,e,G⟩:=di.mp G;let⟨_,_,rfl⟩:=bH.mp G;cases D;exact e
def E6(G:bG l){M:ae}(e:M∈aG l){y:ae}(T:bG py)(f:aW 0 py=aW 0 (cQ (ag M) y l))(g:v1∈aq l)(h:rR (e0 l py (ag M)) v1=Y nw):nw∈aq py:=by
 have i:fj (eu (e0 l py (ag M))) (D v1)=Y (D nw):=by rw [xx,h];rfl
 let⟨m,j,k⟩:=cv.mp i;let⟨n,a,b,o⟩:=(CY G).mp (dY (f:=D) g)
 have c:=Ny G e T f j (b▸G.lt a);rw [<-b,G.cY.get a]at c;let⟨z,d,p⟩:=cv.mp c
 have:D nw∈(aq py).map D:=(CY T).mpr ⟨z,cG d,?_,?_⟩
 .grind [d4]
 .rw [<-k];exact T.cY.at d
 grind
def P6(T:bG l){G:ae}(f:G∈aG l){y:ae}(U:bG py)(g:aW 0 py=aW 0 (cQ (ag G) y l))(b:bM l or (gr l (gm l)))(u:bM py Is (gr py (gm py))):hq (eu (e0 l py (ag G))) or Is=(k6 (e0 l py (ag G)) (d8 l) (d8 py)).kept/\ (ez or:Int)-(hq (eu (e0 l py (ag G))) or Is:Nat)=((k6 (e0 l py (ag G)) (d8 l) (d8 py)).gone:Nat)/\ (ez Is:Int)-(hq (eu (e0 l py (ag G))) or Is:Nat)=((k6 (e0 l py (ag G)) (d8 l) (d8 py)).came:Nat):=by
 have j:=NB T U (s:=e0 l py (ag G)) (λk h A i=>E6 T f U g h i) b u;have d:∀{a:ae},bG a->(d8 a).Nodup:=λ{a} e=>by rw [oH];exact P5 e.cY.places (tp e) _
 have c:=Ng (s:=e0 l py (ag G)) (λm _=>by lia) (d T) (d U);have n:ez or=(d8 l).length:=by rw [oH];exact xt T b
 have o:ez Is=(d8 py).length:=by rw [oH];exact xt U u
 have p:(k6 (e0 l py (ag G)) (d8 l) (d8 py)).kept<=(d8 l).length:=by exact cu T3 (uz (z _))
 have q:(k6 (e0 l py (ag G)) (d8 l) (d8 py)).gone=(d8 l).length-(k6 (e0 l py (ag G)) (d8 l) (d8 py)).kept:=rfl;grind
end Cf
namespace L3
def P7(A:aw)(D:au)(K:af)(S T:TE):TE:=λU H a=>∀z,H z=O->wm [(S,T)] U (upd H z (dX A D z [])) λb G=>∃N M v,b=[(.ref M,v)]/\G z=Y (dX A D z [])/\ax K G M (N.map kV)/\a (.ref z) (upd G z (dX A D z [(N,M,v)]))
variable{h:Cx}{no s0:a8}{ss:TE}{pu:b2}
def P8{c:TE}(g:h.A.units<cK)(z:PE h no ss)(i:PE h s0 c):PE h (.Dict [Y no] [s0] pu) (P7 h.prog h.w h.K ss c):=by
 intro j A k H K D G;have l:=D.laid (a:=A.heap.objs.size) (o:=dX h.prog h.w A.heap.objs.size []) (h':=A.heap.push {cls:=.type "dict",data:=.dict #[]}) (t':=A.toks) (λ_ _ G=>e8 _ G) (aR _)
  (sG ⟨cP _,iK.mpr (eP (fB D.big)),gc,[],.nil,_,#[],0,gB _ S,⟨S,S,S⟩,S,S⟩)
 refine wpAny_Dict_any S rfl (by simp) (by show 1<=15;decide) (aN (Km z i Kl j _ k _ _ l (G _ (D.bf.fresh (aR A.heap.objs.size)))) λL P ⟨Q,R,M,m,n,d,v,p,e,q,r⟩=>?_);subst p;cases m with
 | @cons _ y _ _ N s=>
 cases s;let⟨t,V⟩:=y;let⟨u,w⟩:=N;cases (show t=cp d from u);let⟨W,x,X,B,C⟩:=jI M e (λ_ N=>nomatch N);cases B;unfold storeAll;rw [GC];refine aH (aH (wpAny_dictSet_heap (hsz:=cP _) (knd:=iL (eK h.prog h.w)) g (lz M q) C λab E F=>bu ?_));dsimp only;rw [uH];refine bu ⟨.ref A.heap.objs.size,_,sI M e (sJ:=[(n,d,v)]) (by show 1<=aU;decide) x (.cons ⟨S,S,w⟩ .nil) E F,S,r⟩
variable{s3:L2.St}{d:Z}{m:aw}{p:au}{Ev:Ends}{FM:TG}{IN:TS}
def yQ{o:aL}{aX:bW}{H:U}(A:Nat->L2.St->U->Prop)(r:A 0 s3 H)(s:∀i s3 H,i<=aX.length->A i s3 H->H d=Y (.bP o (dX m p d aX)))(t:∀i M s3 H,aX[i]?=Y M->A i s3 H->FM (.ref M.2.1) s3 H λc z=>IN (Ev.lp (A (i+1))) c z) (u:∀s3 H,A aX.length s3 H->Ev.nx s3 H):∃e:Nat->Nat->L2.St->U->Prop,(∃D,e 0 D s3 H)/\∀i D s3 H,e i D s3 H->((lA m p d o aX).stop i H/\Ev.nx s3 H)\/((lA m p d o aX).go i H/\∃N:L2.St->U->Prop,(∀f G,N f G->∃n,n<D/\e (i+1) n f G)/\∀g G,(lA m p d o aX).hc i H g G->FM g s3 G λc z=>IN (Ev.lp N) c z):=by
 exists λi D s3 H=>D=aX.length-i/\i<=aX.length/\A i s3 H,⟨aX.length,by simp,cP _,r⟩,?_;rintro i D s3 H ⟨rfl,v,M⟩;have T:=s i s3 H v M
 by_cases q:i<aX.length
 .refine .inr ⟨⟨T,q⟩,A (i+1),λf G h=>⟨aX.length-(i+1),by lia,S,q,h⟩,λg G y=>?_⟩;let⟨j,h,w,rfl⟩:=y;subst j;exact t i h _ _ w M
 .have j:i=aX.length:=by lia
  subst j;exact .inl ⟨⟨T,aR _⟩,u s3 H M⟩
end L3
namespace Cf
abbrev Pl:=aA
def NT(o:HO):Prop:=∀z,o≠.tup z/\∀u,o≠.bP u (.tup z)
variable{d:Z}{pp:bW}{m:aw}{p:au}
theorem t6:NT (dX m p d pp):=λ_=>⟨(λz=>by cases z),λ_ z=>by cases z⟩
variable{Sc:aL}
theorem t7:NT (.bP Sc (dX m p d pp)):=λ_=>⟨(λz=>by cases z),λ_ z=>by cases z⟩
variable{q:Z}{FS:List (aa×V)}
theorem P9:NT (.ins d q FS):=λ_=>⟨(λz=>by cases z),λ_ z=>by cases z⟩
variable{t3:List V}{K:af}{H:U}{o:HO}
def ny{c:Z}(D:∀u,H d=Y u->NT u)(z:ax K H c t3):ax K (upd H d o) c t3:=by
 rcases z with(z|⟨M,z⟩)|z
 .exact .inl (.inl ((ah (by rintro rfl;exact(D _ z t3).1 rfl)).trans z))
 .exact .inl (.inr ⟨M,(ah (by rintro rfl;exact(D _ z t3).2 _ S)).trans z⟩)
 .exact .inr z
variable{or:Tb}
def E7(N:fk m p K H pp or):V.ref d∈pp.map (·.2.2)->∃D,H d=Y (dX m p d D):=by
 induction N with
 |nil=>exactλz=>nomatch z
 |cons a A c=>
  intro z;rcases bg.mp z with z|z
  .obtain⟨_,U,S,D,T,_⟩:=a;have z:=z.trans S
   cases z;exists D,T
  .exact c z
variable{r:U}{b:Z}
def b8.both(D:b8 m p K r H d or)(z:(∃u,r b=Y u/\NT u)\/H b=O):b8 m p K (upd r b o) (upd H b o) d or:=by
 let⟨a,B,l,e,t,n,f⟩:=D.ex;have g:d≠b:=by
  rintro rfl;rcases z with⟨u,z,_⟩|z
  .rw [D.new]at z;cases z
  .rw [B]at z;cases z
 have h:V.ref b∉a.map (·.2.2):=λA=>by
  rcases z with⟨u,z,_⟩|z
  .rw [f b A]at z;cases z
  .obtain⟨i,N⟩:=E7 e A;rw [N]at z;cases z
 have j:∀u,H b=Y u->NT u:=λv T=>by
  rcases z with⟨u,N,A⟩|N
  .rw [D.ext _ _ N]at T;cases T;exact A
  .rw [N]at T;cases T
 exists λc u U=>?_,⟨a,(ah g).trans B,l.same λ_ _=>ny j,tM (λC E P q=>?_) e h,t,n,λw A=>?_⟩,(ah g).trans D.new
 .by_cases k:c=b
  .rw [k,M]at U⊢;exact U
  .rw [ah k]at U⊢;exact D.ext _ _ U
 .obtain⟨i,s,x,y⟩:=q;exists i,(ah P).trans s,x.same λ_ _=>ny j,y
 .rw [ah (by rintro rfl;exact h A)];exact f w A
variable{re:Pr}{rc:List Pr}
def b8.yR(S:b8 m p K r H d or)(j:ba or re=Y rc):∃D A M,H d=Y (dX m p d D)/\b9 K H D/\cm D (pk re)=Y (.ref A)/\r A=O/\H A=Y (dX m p A M)/\b9 K H M/\M.map (·.1)=rc.map pk/\M.length=rc.length/\ ∀N a,(or.map (·.1)).Nodup->b9 K H N->N.map (·.1)=a.map pk->b8 m p K r (upd H A (dX m p A N)) d (dM or re a):=by
 let⟨D,P,e,f,k,l,g⟩:=S.ex;let⟨A,c,M,h,w,i⟩:=gv f j;have n:V.ref A∈D.map (·.2.2):=by let⟨y,t,q⟩:=cv.mp c;rw [<-q];exact dY (fq t)
 exists D,A,M,P,e,c,g A n,h,w,i,by have:=bD cN i;rwa [z,z]at this,λN a T s u=>b8.put S.ext P e f k l g S.new T c h s u
abbrev yS:a7:=inClass (top 53) 0
abbrev E8:a7:=inClass (top 53) 3
structure kN(K:af)(z:Z):Prop where
 cl:fc K z
 program:dF K z "program"
 looked:dF K z "looked_at"
 found:dF K z "found"
def nz(z A D:Z):List (aa×V):=[("program",.ref z),("looked_at",.ref A),("found",.ref D)]
variable{Q:Z}
def bN.aP{c:Z}{H:U}(S:bN d H r)(T:H d=Y (.ins q Q FS))(z:ax K H c t3):ax K r c t3:=by
 rcases z with(z|⟨u,z⟩)|z
 .exact .inl (.inl (S _ _ z (cW z T (by intro A;cases A))))
 .exact .inl (.inr ⟨u,S _ _ z (cW z T (by intro A;cases A))⟩)
 .exact .inr z
def bN.ef{c:Z}{H:U}(S:bN d H r)(T:H d=Y (.ins q Q FS))(z:av K H c t3):av K r c t3:=by
 rcases z with(z|⟨u,z⟩)|z
 .exact .inl (.inl (S _ _ z (cW z T (by intro A;cases A))))
 .exact .inl (.inr ⟨u,S _ _ z (cW z T (by intro A;cases A))⟩)
 .exact .inr z
variable{pc:Ex}{pi s2:Z}
def cg.but{a:Z}{H:U}(z:bN a H r)(A:H a=Y (.ins pi s2 FS))(a0:FS.length<5)(o:cg K d q H Q pc):cg K d q r Q pc:=by
 let⟨p,b,e,s,t,u,v,x,y,⟨B,C,E,F,L⟩,h,⟨N,R,W⟩,X,ab,ad⟩:=o;have S:∀{c i},H c=Y (.lst i)->r c=Y (.lst i):=λM=>z _ _ M (cW M A (by intro D;cases D))
 have j:∀{c k l T},H c=Y (.ins k l T)->5<=T.length->r c=Y (.ins k l T):=λM a1=>z _ _ M (cW M A (by intro D;injection D with _ _ D;subst D;lia));exists p,b,e,s,t,u,v,j x (aR 5),S y,⟨B,S C,λal am=>let⟨⟨an,ap⟩,as⟩:=E al am;⟨⟨an,j ap (by show 5<=6;decide)⟩,S as⟩,F,L⟩,z _ _ h (cW h A (by intro D;cases D)),⟨N,z.ef A R,Paired.cb W λ_ _=>z.aP A⟩,X,z.ef A ab,Paired.cb ad λ_ _=>z.aP A
structure e7(m:aw)(p:au)(K:af)(T b c:Z)(z A H:U)(a d P M S:Z)(e:Ex)(f:List Pl)(tab:Tb):Prop where
 tb:b8 m p K A H S tab
 x0:Ext z A
 a0:z a=O
 l0:z M=O
 oa:A a=Y (.ins T d (nz P M S))
 ol:∃N,A M=Y (dX m p M N)/\b9 K H N/\N.map (·.1)=(f.map D).map pk
 pg:cg K b c z P e
variable{sK Gc:U}{v4 BT Hp:Z}{xz:List Pl}
theorem e7.on(A:Ext H Gc)(z:e7 m p K d q Q r sK H pi s2 v4 BT Hp pc xz or):e7 m p K d q Q r sK Gc pi s2 v4 BT Hp pc xz or:=
 ⟨z.tb.on A,z.x0,z.a0,z.l0,z.oa,let⟨D,M,N,S⟩:=z.ol;⟨D,M,A.keys N,S⟩,z.pg⟩
theorem e7.ext(z:e7 m p K d q Q r sK H pi s2 v4 BT Hp pc xz or):Ext r H:=z.x0.trans z.tb.ext
theorem e7.obj(z:e7 m p K d BT Hp r sK H q Q pi s2 v4 pc xz or):H q=Y (.ins d Q (nz pi s2 v4)):=z.tb.ext _ _ z.oa
theorem e7.prog(z:e7 m p K pi d q r sK H s2 v4 Q BT Hp pc xz or):cg K d q H Q pc:=z.pg.ext z.ext
variable{KK:Z}
theorem e7.other{o:HO}(A:e7 m p K pi s2 v4 r sK H q BT Hp Q KK pc xz or)(N:(∃u,sK d=Y u/\NT u)\/H d=O)(S:r d=O)(T:d≠q)(U:d≠Q):e7 m p K pi s2 v4 r (upd sK d o) (upd H d o) q BT Hp Q KK pc xz or:=
 have b:∀u,H d=Y u->NT u:=λv D=>by
  rcases N with⟨u,M,c⟩|M
  .rw [A.tb.ext _ _ M]at D;cases D;exact c
  .rw [M]at D;cases D
 ⟨A.tb.both N,A.x0.upd S,A.a0,A.l0,(ah T.symm).trans A.oa,let⟨z,f,g,h⟩:=A.ol;⟨z,(ah U.symm).trans f,g.same λ_ _=>ny b,h⟩,A.pg⟩
variable{EQ:Pl}
def e7.putL(z:e7 m p K Q pi s2 sK r H v4 BT Hp d KK pc xz or)(T:r d=Y (dX m p d pp))(U:b9 K H pp)(b:pp.map (·.1)=(xz.map D).map pk)(c:ax K H q (b4 (D EQ)))(v:V):e7 m p K Q pi s2 sK (upd r d (dX m p d (cy pp (pk (D EQ)) q v))) (upd H d (dX m p d (cy pp (pk (D EQ)) q v))) v4 BT Hp d KK pc (dW xz EQ) or:=by have l:cX (H d)\/H d=O:=.inl (z.tb.ext _ _ T▸trivial);exists z.tb.both (.inl ⟨_,T,t6⟩),z.x0.upd z.l0,z.a0,z.l0,(ah (cW z.oa T (by intro f;cases f))).trans z.oa,⟨_,M,(ly U _ c).same λ_ _=>bF l,?_⟩,z.pg;rw [Ek b,P1]
def yT(U:b9 K H pp)(c:pp.map (·.1)=(xz.map D).map pk){i:Nat}{N:List Key×Z×V}(T:pp[i]?=Y N):∃z,xz[i]?=Y z/\z∈xz/\ax K H N.2.1 (b4 (D z)):=by
 have A:(pp.map (·.1))[i]?=Y N.1:=by rw [bh,T];rfl
 rw [c,bh,bh]at A;cases b:xz[i]? with
 |none=>rw [b]at A;cases A
 |some z=>
  rw [b]at A;have:=U N (cG T)
  rw [<-aS A]at this;exists z,S,cG b,this
def Qa(A:bG pc)(M:EQ∈aq pc):(D EQ).1<5/\(D EQ).2<31:=by
 let⟨S,N,T,_⟩:=pa A M;have:=A.lt N
 have:=A.bL;exact⟨by cases EQ<;>(simp only [D];decide),by lia⟩
inductive E9 (m:aw) (p:au) (K:af) (pi BT Hp:Z) (z:List V) (H:U) (A:VK) (M:XK):Prop
 |mk(d s2 Q b pc c:_)(_:z=[.ref d,.ref Q,.ref b])(_:H d=Y (.ins pi s2 []))(_:cg K BT Hp H Q pc)(_:ax K H b (b4 (D c)))(_:∀sK r q v4,b8 m p K r sK v4 (gx ((aq pc).map D))->bN d H r->H q=O->r d=Y (.ins pi s2 (nz Q q v4))->r q=Y (dX m p q [(pk (D c),b,.bl I)])->A .bw sK)
variable{o0:bc}{L:aa->Option J}{P:aD}
def Qb(w:a9 K "__init__" "Asking.__init__" yS v4 o0)(z:kN K Q)(r:g_ 1 "empty_table" ["program"] (yi m p K BT Hp)):f_ 2 v4 o0 ["self","program","place"] (E9 m p K Q BT Hp):=by
 refine w.go ["self","program","place"] λs u V v H W X ab h x _ _ _=>?_;let⟨q,pi,s2,A,pc,N,rfl,f,y,E,F⟩:=x;have l:(u.deeper (eI "Asking.__init__" (ei yS) v.heap.objs.size v4 s)).units<cK:=by have:=h.units;lia
 exists _,ar (dQ (T 0) (T 1) S) (ar (dQ (T 0) (P8 l (T 2) hx) S) (ay (dQ (T 0) (bI r h (aJ 1)) S))),?_;exists _,S,_,S,q,Q,pi,_,S,f,z.cl,z.program,by decide,λd U=>⟨_,S,pk (D N),A,.bl I,S,M,?_,?_⟩
 .exact bF (.inr U) (bF (.inl (f▸trivial)) E)
 have b:d≠q:=by rintro rfl;rw [M]at U;cases U
 rw [gS];exists _,S,q,Q,pi,_,S,(ah b.symm).trans M,z.cl,z.looked,(by show 1<1000;decide),?_;have i:H d=O:=by rw [ah b]at U;exact U
 have j:bN q H (upd (upd (upd H q (.ins Q pi (aO "program" (.ref s2) []))) d (dX m p d [(pk (D N),A,.bl I)])) q (.ins Q pi (aO "looked_at" (.ref d) (aO "program" (.ref s2) [])))):=λc o pc k=>by rwa [ah k,ah (cB pc i),ah k]
 have R:upd (upd (upd H q (.ins Q pi (aO "program" (.ref s2) []))) d (dX m p d [(pk (D N),A,.bl I)])) q (.ins Q pi (aO "looked_at" (.ref d) (aO "program" (.ref s2) []))) d=Y (dX m p d [(pk (D N),A,.bl I)]):=(ah b).trans M;have a:upd (upd (upd H q (.ins Q pi (aO "program" (.ref s2) []))) d (dX m p d [(pk (D N),A,.bl I)])) q (.ins Q pi (aO "looked_at" (.ref d) (aO "program" (.ref s2) []))) q=Y (.ins Q pi (aO "looked_at" (.ref d) (aO "program" (.ref s2) []))):=M
 exists _,S,s2,pc,S,y.but j f (by decide),λKK ad n=>?_;exists _,S,q,Q,pi,_,S,n.ext _ _ a,z.cl,z.found,(by show 2<1000;decide),?_;exact F _ _ d KK (n.both (.inl ⟨_,a,P9⟩)) j.gZ i M ((ah b).trans R)
inductive Fb (m:aw) (p:au) (K:af) (q Q pi:Z) (z:List V) (H:U) (A:VK) (D:XK):Prop
 |mk(sK Gc d s2 v4 BT Hp pc b xz or:_)(_:z=[.ref d])(_:e7 m p K q Q pi sK Gc H d s2 v4 BT Hp pc xz or)(_:f3 pc b xz or)(_:b∈aq pc)(_:∀r,Ext H r->A (.int ((xz.length+eF xz or:Nat):Int)) r)
variable{C CN:Z}
def Qc(bi:a9 K "how_much" "Asking.how_much" E8 v4 o0)(g:kN K q)(al:L "len"=O)(bk:L "sum"=O):f_ 1 v4 o0 ["self"] (Fb m p K q C CN):=by
 refine bi.go ["self","place"] λc1 c2 c3 F H c4 c5 c6 c7 e am bl sz=>?_;let⟨r,sK,Q,pi,BT,d,s2,pc,c8,xz,or,rfl,h,l,an,bm⟩:=e;exists _,ay (aQ (hg se (cR oB (by rfl) al dE (A (aF 0) aC)) (cR (AG S) (by rfl) bk (by decide+kernel) (A (AU (fS (own:=[("place",1)]) S am (lB (aF 0)) (e2 S) (λF H C ap as=>bX 1 am) (λF H C ap as=>hB) (λF H C ap as=>cR (Es m p K) (by rfl) al dE (A (pb m p K bl (xI K (T 0) S) (T 1) (λ_ _=>S)) aC)))) aC)))),?_;dsimp;let⟨k,w,a0,a1⟩:=h.ol;have v:=h.obj
 have n:=h.tb.ext _ _ w;have a2:k.length=xz.length:=by have:=bD cN a1;rwa [z,z,z]at this
 have c9:=(l.bound h.pg.ok an).1;have a3:=cW v n (by intro R;cases R)
 exists _,S,Q,q,pi,_,_,S,v,g.cl,g.looked,S,d,k,S,n,a0,d,_,n,trivial,λa4=>?_;exists _,S,Q,q,pi,_,_,S,(ah a3).trans v,g.cl,g.looked,S,d,a4,k,S,M,λx a=>?_;have y:d≠x:=by intro R;rw [<-R,M]at a;cases a
 have a5:H x=O:=by rw [ah y.symm]at a;exact a
 let bn:VCx:=λi f=>A4 (f x=Y (.lst (((xz.take i).map λb=>((ba or (D b)).getD []).length).map λW:Nat=>V.int (W:Nat)))) (f d=Y (.bP a4 (dX m p d k))) (∀N t,ax K H N t->ax K f N t) (∀N o,N≠d->H N=Y o->f N=Y o);refine ra (aX:=k) bn ?_ ?_ ?_ ?_
 .refine⟨M,(ah y).trans M,λN t e=>bF (.inr a) (bF (.inl (n▸trivial)) e),λN o c pc=>?_⟩;rwa [ah (cB pc a5),ah c]
 .rintro i f _ ⟨_,e,_⟩;exact e
 .rintro i bs f bt ⟨s,bd,u,j⟩;let⟨b,X,db,bv⟩:=yT a0 a1 bt;let⟨dd,be,_⟩:=l.tt.look (l.hK an (cG X));let⟨ca,E,cd,ce,ch,ci,cl,cn,co,dl,cr,_⟩:=h.tb.yR be;have cs:s2≠d:=by rintro rfl;rw [h.tb.new]at w;cases w
  have ct:E≠d:=by rintro rfl;rw [cl]at w;cases w
  have dp:=(cF.mp X).1;exists S,?_;unfold hk;dsimp only [];rw [ai S];exists _,S,Q,q,pi,_,_,S,j Q _ a3 v,g.cl,g.found,S,_,S,s2,.ref E,S,⟨ca,pk (D b),bs.2.1,j s2 _ cs ce,ch.same u,S,u _ _ bv,ci.symm⟩,E,cd,S,j E _ ct cn,co.same u,_,s,by rw [z,z,dU];lia,?_,?_,?_,?_
  .rw [M,dq,X,aT,aT,cr];show _=Y (HO.lst (_++[V.int ((((ba or (D b)).getD []).length:Nat):Int)]))
   rw [be];rfl
  .rwa [ah y]
  .exactλN t e=>bF (.inl (s▸trivial)) (u N t e)
  .intro N o c pc;rw [ah (cB pc a5)];exact j N o c pc
 .rintro f ⟨s,bd,u,j⟩;rw [a2,dB]at s;exists bd,x,(xz.map λb=>((ba or (D b)).getD []).length).map λW:Nat=>(W:Int),S,av.of (by rw [ah y.symm,s,d7,d7,d7];rfl),_,_,S,S,?_;rw [yt,a2];have c0:((xz.length:Nat):Int)+(((xz.map λb=>((ba or (D b)).getD []).length).sum:Nat):Int)=((xz.length+eF xz or:Nat):Int):=by unfold eF;lia
  rw [c0];refine bm _ λN o pc=>?_;by_cases c:N=d
  .rwa [c,M,<-n,<-c]
  .rw [ah c];exact j N o c pc
abbrev yU:a7:=inClass (top 53) 1
structure f5(m:aw)(p:au)(K:af)(d q Q:Z)(T H:U)(a b w c P:Z)(A:Ex)(e:Pl)(f:List Pl)(tab:Tb)(g:Z)(o:HO)(D:U)(z:List Pl):Prop where
 ex:∃M,e7 m p K d q Q T M D a b w c P A z tab/\M g=Y o
 sq:∀N S,ax K H N S->ax K D N S
 ok:f3 A e z tab
 pre:∃h,z=f++h
variable{Rs:List Pl}
theorem f5.on(A:Ext sK Gc)(z:f5 m p K d q Q r H pi s2 v4 BT Hp pc EQ xz or KK o sK Rs):f5 m p K d q Q r H pi s2 v4 BT Hp pc EQ xz or KK o Gc Rs:=
 let⟨D,M,N⟩:=z.ex
 ⟨⟨D,M.on A,N⟩,λb S T=>A.aP (z.sq b S T),z.ok,z.pre⟩
theorem f5.copy(z:f5 m p K q Q pi sK H s2 v4 BT Hp KK pc EQ xz or d o r Rs):r d=Y o:=let⟨M,A,D⟩:=z.ex;A.tb.ext _ _ D
theorem f5.obj(z:f5 m p K d BT Hp sK H q Q pi s2 v4 pc EQ xz or KK o r Rs):r q=Y (.ins d Q (nz pi s2 v4)):=let⟨D,A,M⟩:=z.ex;A.obj
theorem f5.prog(z:f5 m p K pi d q sK H s2 v4 Q BT Hp pc EQ xz or KK o r Rs):cg K d q r Q pc:=let⟨D,A,M⟩:=z.ex;A.prog
def f5.put{p0:Pl}{b:Z}(A:f5 m p K Q pi s2 sK H v4 BT Hp d KK pc p0 xz or q o r Rs)(i:p0∈aq pc)(j:q≠d)(k:iB pc p0 EQ)(N:ax K r b (b4 (D EQ))):∃M,r d=Y (dX m p d M)/\b9 K r M/\M.length<aU/\∀v,f5 m p K Q pi s2 sK H v4 BT Hp d KK pc p0 xz or q o (upd r d (dX m p d (cy M (pk (D EQ)) b v))) (dW Rs EQ):=by
 let⟨y,T,n⟩:=A.ex;let⟨M,c,l,f⟩:=T.ol;have B:M.length=Rs.length:=by have:=bD cN f;rwa [z,z,z]at this
 have E:=(A.ok.bound T.pg.ok i).1;have sz:(20000:Nat)<aU:=by decide
 have g:=T.tb.ext _ _ c;exists M,g,l,by lia,λv=>⟨⟨_,T.putL c l f N v,(ah j).trans n⟩,λb P U=>bF (.inl (g▸trivial)) (A.sq b P U),⟨Bx A.ok.nd,kz.mpr (.inl A.ok.h0),λw s=>?_,A.ok.tt,A.ok.lt⟩,?_⟩
 .rcases kz.mp s with U|rfl
  .exact A.ok.lp w U
  .exact k
 .obtain⟨h,rfl⟩:=A.pre;let⟨u,x⟩:=E1 (xz++h) EQ;exact⟨h++u,by rw [x,ck]⟩
def f5.turn{o':HO}(z:f5 m p K pi s2 v4 r H q BT Hp Q KK pc EQ xz or d o sK Rs)(A:NT o)(N:r d=O)(S:d≠q)(T:d≠Q):f5 m p K pi s2 v4 r H q BT Hp Q KK pc EQ xz or d o' (upd sK d o') Rs:=by let⟨g,U,b⟩:=z.ex;exists ⟨_,U.other (.inl ⟨_,b,A⟩) N S T,M⟩,λc a f=>ny (λu D=>?_) (z.sq c a f),z.ok,z.pre;rw [z.copy]at D;cases D;exact A
inductive Fc (m:aw) (p:au) (K:af) (q Q pi:Z) (A:List V) (H:U) (D:VK) (N:XK):Prop
 |mk(r B d s2 v4 BT Hp pc EQ xz or:_)(_:A=[.ref d])(_:e7 m p K q Q pi r B H d s2 v4 BT Hp pc xz or)(_:f3 pc EQ xz or)(_:EQ∈aq pc)(_:∀sK M z,e7 m p K q Q pi r M sK d s2 v4 BT Hp pc z or->f3 pc EQ z or->E3 pc xz or z->D .bw sK)
def Qd{bv:Z}(fa:a9 K "look_further" "Asking.look_further" yU bv o0)(j:kN K Q)(fd:L "dict"=O)(fl:g_ 3 "places_that_steer" ["program","place"] (EK K v4 BT))(fm:g_ 4 "ways_of" ["program","table"] (ri m p K v4 BT)):f_ 5 bv o0 ["self"] (Fc m p K Q v4 BT):=by
 refine fa.go ["self","before","place","other","begin","end"] λfn fr h1 l H h2 id ii ca e as cd _=>?_;let⟨r,im,q,s2,Hp,pi,KK,pc,EQ,xz,or,rfl,ad,C,be,fs⟩:=e;have fT:(fr.deeper (eI "Asking.look_further" (ei yU) l.heap.objs.size bv fn)).units+2<cK:=by have:=ca.un;lia
 have f0:=ca.mo 3;exists _,ar (bj 1 as (sj (Bv fT) (by rfl) fd (by decide+kernel) (A (aF 0) aC))) (ar (my (d3 dZ S (lB (T 1)) (bX 2 as) (ay (d3 dZ S (dC (bI fl f0 (A (aF 0) (aJ 2)))) (bX 3 as) (ay (i4 cd (aF 0) (T 3) hx S)))))) (ay (d3 dZ S (dC (bI fm ca (A (aF 0) (A (aF 0) aC)))) (lj S (gT (bX 4 as) (gT (bX 5 as) lh))) (ay (bK (i0 (wA cd (T 5) (T 1)) S) (ay (i4 cd (aF 0) (T 4) hx S)) bQ))))),?_;let⟨a,f1,ce,bi⟩:=ad.ol;have bk:=ad.pg.ok
 have c9:=ad.obj;have db:=ad.tb.ext _ _ f1
 have dd:=mJ pc EQ;have f2:∀v∈xz.map D,v.1<5/\v.2<31:=λv a0=>by let⟨n,a1,rfl⟩:=bH.mp a0;exact Qa bk (C.hK be a1)
 exists _,S,q,Q,s2,_,_,S,c9,j.cl,j.looked,S,pi,a,S,db,ce,yq bi (iD (λ_ _=>d4) C.nd) f2,λd a2=>?_;have dl:=ad.ext.none a2
 have dp:=(cB c9 a2).symm;have bl:=(cB db a2).symm
 exists d,_,M,trivial,λa3=>?_;rw [gS];have f4:f5 m p K Q v4 BT r H q s2 Hp pi KK pc EQ xz or d (.bP a3 (dX m p d a)) (upd H d (.bP a3 (dX m p d a))) xz:=
  ⟨⟨_,ad.other (.inr a2) dl dp bl,M⟩,λbm io e=>bF (.inr a2) e,C,[],(b0 xz).symm⟩
 exists _,S,d,a3,a,S,M,?_;have f8:a.length=xz.length:=by have:=bD cN bi;rwa [z,z,z]at this
 let a4:VLx:=λi f sK=>X3 λbn al Rs=>A3 (f=[Y (.ref q),Y (.ref d),bn,al,O,O]) (f5 m p K Q v4 BT r H q s2 Hp pi KK pc EQ xz or d (.bP a3 (dX m p d a)) sK Rs) (∀b<i,∀n,xz[b]?=Y n->∀v∈e9 pc n,v∈Rs);refine yQ (aX:=a) a4 ?_ ?_ ?_ ?_
 .exact⟨O,O,xz,S,f4,λb k=>absurd k (k8 _)⟩
 .rintro i f sK _ ⟨_,_,_,_,x,_⟩;exact x.copy
 .rintro i v f sK a0 ⟨bn,al,Rs,rfl,x,ch⟩;let⟨n,a1,ds,ga⟩:=yT ce bi a0;exists _,S,q,Q,s2,_,_,S,x.obj,j.cl,j.program,S,_,S,Hp,pc,v.2.1,n,S,x.prog,C.hK be ds,x.sq _ _ ga,λdK ge ci is ⟨cl,dL,dT⟩=>?_;exists dK,S,⟨_,av.of dL⟩,?_;let a4:VLx:=λb f N=>X2 λal L2=>A6 (f=[Y (.ref q),Y (.ref d),Y (.ref v.2.1),al,O,O]) (f5 m p K Q v4 BT r H q s2 Hp pi KK pc EQ xz or d (.bP a3 (dX m p d a)) N L2) (N dK=Y (.lst (cl.map V.ref))) (fJ K N cl ((e9 pc n).map D)) (∀y∈Rs,y∈L2) (∀a5<b,∀y,(e9 pc n)[a5]?=Y y->y∈L2)
  refine fw (xs:=cl.map V.ref) a4 ?_ ?_ ?_ ?_
  .exact⟨_,Rs,S,x.on ci,dL,dT,λ_ e=>e,λb k=>absurd k (k8 _)⟩
  .rintro b f N _ ⟨_,_,_,_,e,_⟩;exact av.of e
  .rintro b y f N g ⟨gl,L2,rfl,h,B,cn,E,F⟩;rw [bh]at g;let⟨bm,co,rfl⟩:=cv.mp g;let⟨w,am,sz⟩:=eA cn co;rw [bh]at am;let⟨u,d0,rfl⟩:=cv.mp am;have cr:=dd.asked n (C.lp n ds) u (cG d0)
   let⟨cs,W,ct,c0,c1⟩:=h.put be bl cr sz;have c2:cX (N pi)\/N pi=O:=.inl (W▸trivial)
   exists _,S,q,Q,s2,_,_,S,h.obj,j.cl,j.looked,S,_,S,pi,cs,pk (D u),bm,S,W,ct,S,sz,c0,_,dW L2 u,S,c1 _,(ah (cW B W (by intro w;cases w))).trans B,Paired.cb cn λ_ _=>bF c2,λy g=>kz.mpr (.inl (E y g)),λa5 an go c3=>?_;rcases kg.mp an with an|rfl
   .exact kz.mpr (.inl (F a5 an go c3))
   .rw [d0]at c3;exact kz.mpr (.inr (aS c3).symm)
  .rintro f N ⟨gl,L2,rfl,h,B,cn,E,F⟩;exists _,_,L2,S,h,λb k gt c4 y g=>?_;rcases kg.mp k with k|rfl
   .exact E y (ch b k gt c4 y g)
   .rw [a1]at c4;obtain rfl:=aS c4;let⟨a5,an⟩:=hR.mp g;refine F a5 ?_ y an;rw [z,bO dT,z];exact(cF.mp an).1
 .rintro f sK ⟨bn,al,Rs,rfl,x,ch⟩;exists x.copy,?_;have bd:=x.turn (o':=dX m p d a) t7 dl dp bl
  let⟨it,g1,ix⟩:=bd.ex;exists _,S,q,Q,s2,_,_,S,bd.obj,j.cl,j.program,S,_,S,q,Q,s2,_,_,S,bd.obj,j.cl,j.found,S,Hp,cV pc,KK,or,S,bd.prog.prog,g1.tb.at,C.tt.ok bk,λd1 ge ci jp ⟨c5,em,eq⟩=>?_;exists d1,S,⟨_,av.of em⟩,?_;let a4:VLx:=λb f N=>X3 λc6 c7 L2=>A6 (f=[Y (.ref q),Y (.ref d),bn,al,c6,c7]) (f5 m p K Q v4 BT r H q s2 Hp pi KK pc EQ xz or d (dX m p d a) N L2) (N d1=Y (.lst (c5.map V.ref))) (cE (da K N) c5 (fA (cV pc) or (cV pc).nodes.length)) (∀y∈Rs,y∈L2) (∀i<b,∀l R,(fA (cV pc) or (cV pc).nodes.length)[i]?=Y (D l,D R)->R∈xz->l∈L2)
  refine fw (xs:=c5.map V.ref) a4 ?_ ?_ ?_ ?_
  .exact⟨_,_,Rs,S,bd.on ci,em,eq,λ_ e=>e,λb k=>absurd k (k8 _)⟩
  .rintro b f N _ ⟨_,_,_,_,_,e,_⟩;exact av.of e
  .rintro b y f N g ⟨c6,c7,L2,rfl,h,B,bs,E,F⟩;rw [bh]at g;let⟨bm,co,rfl⟩:=cv.mp g;let⟨w,am,g2,g3,hd,es,he⟩:=eA bs co;let⟨bt,X,hf,hi,kk,kp,hw⟩:=tu bk C.tt (cG (show _=Y (w.1,w.2)from am));obtain rfl:w=(D bt,D X):=kf hf hi;exists bm,_,S,hd,S,_,_,S,_,_,S,S,?_;exists _,S,_,S,d,_,S,⟨a,pk (D X),g3,h.copy,ce.same h.sq,S,he,S⟩,_,S,?_;rw [kJ bi];have hm:decide (D X∈xz.map D)=decide (X∈xz):=by
    rw [hb,bH];exists λ⟨v,a0,e⟩=>d4 e▸a0,λe=>⟨_,e,S⟩
   rw [hm];by_cases c:X∈xz
   .rw [cq c];have cr:=dd.way bt X (hw.mono C.lt) (C.lp X c)
    let⟨cs,W,ct,c0,c1⟩:=h.put be bl cr es;have c2:cX (N pi)\/N pi=O:=.inl (W▸trivial)
    refine cf ⟨_,S,q,Q,s2,_,_,S,h.obj,j.cl,j.looked,S,_,S,pi,cs,pk (D bt),g2,S,W,ct,S,es,c0,_,_,dW L2 bt,S,c1 _,(ah (cW B W (by intro w;cases w))).trans B,Paired.cb bs λ_ _=>da.upd c2,λy g=>kz.mpr (.inl (E y g)),λi s l R ab ap=>?_⟩;rcases kg.mp s with s|rfl
    .exact kz.mpr (.inl (F i s l R ab ap))
    .rw [am]at ab;injection (aS ab)with ev ex;exact kz.mpr (.inr (d4 ev).symm)
   .rw [bU c];refine b1 ⟨_,_,L2,S,h,B,bs,E,λi s l R ab ap=>?_⟩;rcases kg.mp s with s|rfl
    .exact F i s l R ab ap
    .rw [am]at ab;injection (aS ab)with ev ex;rw [d4 ex]at c;exact absurd ap c
  .rintro f N ⟨c6,c7,L2,rfl,h,B,bs,E,F⟩;let⟨hz,h0,_⟩:=h.ex;refine fs N hz L2 h0 h.ok ⟨h.pre,λn a1 y g=>?_,λl R hw ap=>?_⟩
   .obtain⟨b,k⟩:=hR.mp a1;exact E y (ch b (f8▸(cF.mp k).1) n k y g)
   .obtain⟨i,s⟩:=hR.mp (tw bk C.tt hw);exact F i (by rw [z,bO eq];exact(cF.mp s).1) l R s ap
abbrev Fd:a7:=inClass (top 53) 2
def f3.merge{b:Pl}(g:bG pc)(T:f3 pc b xz or)(h:b∈aq pc)(i:EQ∈xz){c U:List Pr}(j:ba or (D EQ)=Y c)(k:∀l∈U,∃z∈bp pc,l=a6 z)(lk:∀z,a6 z∈U->jd pc b EQ z):f3 pc b xz (dM or (D EQ) (cS c U))/\(∀G z,bT or G z->bT (dM or (D EQ) (cS c U)) G z)/\∀z,a6 z∈U->bT (dM or (D EQ) (cS c U)) EQ z:=by
 let⟨m,e,_,_⟩:=T.tt.CT g (T.hK h i) j k;exists ⟨T.nd,T.h0,T.lp,m,λG z a=>?_⟩,λG z a=>(e G z).mpr (.inl a),λz a=>(e EQ z).mpr (.inr ⟨S,a⟩);rcases(e G z).mp a with f|⟨rfl,f⟩
 .exact T.lt G z f
 .exact lk z f
variable{Is:Tb}{ul:cw}{wr:Pred}
def iG.sub(b:iG pc xz or Is)(c:bM pc or wr)(N:bT or EQ ul):bT Is EQ ul:=by let⟨g,h,d,e,_⟩:=b EQ (c.lL N);let⟨i,T,f⟩:=N;rw [d]at T;obtain rfl:=aS T;exists _,e,gN _ f
def b8.grow{H:U}{c:Z}(T:b8 m p K r H c or)(a:Ext H sK):∃d,b8 m p K d sK c or/\Ext r d/\∀z,H z=O->d z=sK z:=by
 let⟨s,t,u,v,x,y,B⟩:=(T.on a).ex;let⟨k,g,l,h,M,n,S⟩:=T.ex;have e:∀z,H z≠O->(if H z=O then sK z else r z)=r z:=λz A=>N A
 exists λz=>if H z=O then sK z else r z,⟨λz o D=>?_,⟨k,a _ _ g,a.keys l,Paired.cb h λE z i=>⟨i.1,let⟨b,D,q⟩:=i.2;⟨b,D,q.ext a⟩⟩,M,n,λb j=>?_⟩,?_⟩,λz o D=>?_,λz A=>ai A
 .split at D
  .exact D
  .exact a _ _ (T.ext _ _ D)
 .obtain⟨F,f⟩:=E7 h j;exact(e b (by rw [f];intro A;cases A)).trans (S b j)
 .exact(e c (by rw [g];intro A;cases A)).trans T.new
 .exact(e z (by rw [T.ext _ _ D];intro A;cases A)).trans D
inductive Fe (m:aw) (p:au) (K:af) (d q Q:Z) (D:List V) (H:U) (M:VK) (S:XK):Prop
 |mk(c B a P w l t e b L tab:_)(_:D=[.ref a])(_:e7 m p K d q Q c B H a P w l t e L tab)(_:f3 e b L tab)(_:b∈aq e)(_:∀A N z,e7 m p K d q Q c N A a P w l t e L z->f3 e b L z->E4 e L tab z->M .bw A)
def Qe(k1:a9 K "find_facts" "Asking.find_facts" Fd pi o0)(j:kN K d)(k2:g_ 2 "own_table" ["program"] (tT m p K q Q))(k3:g_ 4 "ways_of" ["program","table"] (ri m p K q Q)):f_ 5 pi o0 ["self"] (Fe m p K d q Q):=by
 refine k1.go ["self","own","place","begin","end"] λmT m0 m1 t H m2 m3 m4 g2 C c2 E sz=>?_;let⟨k5,m5,k,F,w,e,ap,gt,dp,G,ds,rfl,CN,a2,dx,la⟩:=C;have as:=g2.mo 2
 exists _,ar (bj 1 c2 (bI k2 as (A (aF 0) aC))) (ar (my (d3 dZ S (lB (aF 0)) (bX 2 c2) (ay (cM (sL E (ff E (aF 0) (T 2) (λ_ _=>S)) (ff E (T 1) (T 2) (λ_ _=>S)) ⟨S,S,S,S⟩))))) (ay (d3 dZ S (dC (bI k3 g2 (A (aF 0) (A (aF 0) aC)))) (lj S (gT (bX 3 c2) (gT (bX 4 c2) lh))) (ay (bK (i0 (wA E (T 4) (aF 0)) S) (ay (cM (sL E (ff E (aF 0) (T 4) (λ_ _=>S)) (ff E (aF 0) (T 3) (λ_ _=>S)) ⟨S,S,S,S⟩))) bQ))))),?_;let⟨l,g3,dK,c3⟩:=CN.ol;have CA:=CN.pg.ok
 have lb:=CN.obj;have hd:=mJ gt dp
 have lc:l.length=G.length:=by have:=bD cN c3;rwa [z,z,z]at this
 exists _,S,k,d,F,_,_,S,lb,j.cl,j.program,S,w,gt,S,CN.prog,λdL bl bm=>?_;let⟨ld,le,lf,li,m6,m7,lm⟩:=bm.ex;have dT:=ym CA
 let⟨bn,he,d0,hf⟩:=CN.tb.grow bm.ext;have d1:=d0 _ _ g3
 have em:=d0 _ _ CN.oa;have hi:=he.ext _ _ d1
 have hm:=cW em d1 (by intro a3;cases a3);exists e,_,hi,trivial,λbs=>?_;have hz:=he.both (b:=e) (o:=.bP bs (dX m p e l)) (.inl ⟨_,d1,t6⟩)
 have ln:∀N f,ax K bl N f->ax K (upd bl e (.bP bs (dX m p e l))) N f:=λN f C=>bF (.inl (by rw [hi];exact trivial)) C;have h0:upd bn e (.bP bs (dX m p e l)) k=Y (.ins d F (nz w e ap)):=(ah hm).trans em
 exists _,S,k,d,F,_,_,S,hz.ext _ _ h0,j.cl,j.looked,S,e,bs,l,S,M,?_;let eq:VLx:=λi ad a4=>X2 λc4 r=>A6 (ad=[Y (.ref k),Y (.ref dL),c4,O,O]) (b8 m p K (upd bn e (.bP bs (dX m p e l))) a4 ap r) (∀N f,ax K bl N f->ax K a4 N f) (f3 gt dp G r) (iG gt G ds r) (∀v<i,∀x,G[v]?=Y x->∀a,fG gt x a->bT r x a)
 refine yQ (aX:=l) eq ?_ ?_ ?_ ?_
 .exact⟨O,ds,S,hz,ln,a2,.refl a2.tt,λv R=>absurd R (k8 _)⟩
 .rintro i ad a4 _ ⟨_,_,_,al,_⟩;exact al.ext _ _ M
 .rintro i a ad a4 g ⟨c4,r,rfl,al,a5,W,ch,es⟩;let⟨x,ev,c5,lo⟩:=yT dK c3 g;have ex:=a2.hK dx c5
  have h1:=a5 _ _ (bm.ext.aP lo);let⟨h2,am,_⟩:=W.tt.look ex;let⟨ci,bd,_,fa,cl⟩:=dT.row x ex;let⟨c6,h,bt,lp,ls,lt,lv,fd,id,lw,m8,l0⟩:=al.yR am;let⟨bv,be,ca,cd,cn,bi⟩:=gv li bd;have mg:ca.length=ci.length:=by have:=bD cN bi;rwa [z,z]at this
  have ii:=(W.tt.len CA am).1;have fl:=(dT.len CA bd).1
  have fm:H bv=O:=by refine lm bv ?_;let⟨y,c7,mk⟩:=cv.mp be;rw [<-mk];exact dY (fq c7)
  have im:∀{N},H N=O->N≠e:=λC=>by rintro rfl;rw [CN.tb.ext _ _ g3]at C;cases C
  have io:∀{N o},H N=O->bl N=Y o->a4 N=Y o:=λ{N o} is mo=>al.ext _ _ ((ah (im is)).trans ((hf N is).trans mo));have mp:h≠bv:=by
   rintro rfl;have:upd bn e (.bP bs (dX m p e l)) h=Y (dX m p h ca):=(ah (im fm)).trans ((hf h fm).trans cd)
   rw [lv]at this;cases this
  exists _,S,k,d,F,_,_,S,al.ext _ _ h0,j.cl,j.found,S,_,S,ap,_,S,⟨c6,pk (D x),a.2.1,lp,ls,S,h1,lt.symm⟩,h,S,⟨bt,fd⟩,_,S,_,S,dL,_,S,⟨ld,pk (D x),a.2.1,io bm.new le,lf.same a5,S,h1,be.symm⟩,bt,bv,ca,S,fd,id,io fm cd,cn.same a5,by lia,λ_=>rl CA dT bd bi,λc8=>absurd c8 mp,λ_=>?_;let⟨fn,c9,fr⟩:=W.merge CA dx c5 am fa λa g=>hd.iz x a ((cl a).mp g) (a2.lp x c5);exists _,_,S,l0 _ _ (W.tt.nodup CA) (qI id (cn.same a5)) (rk lw bi),λN f C=>bF (.inl (by rw [fd];exact trivial)) (a5 N f C),fn,ch.step c5 ex am ci,λv R ms fs a g=>?_;rcases kg.mp R with R|rfl
  .exact c9 _ _ (es v R ms fs a g)
  .rw [ev]at fs;obtain rfl:=aS fs;exact fr a ((cl a).mpr g)
 .rintro ad a4 ⟨c4,r,rfl,al,a5,W,ch,es⟩;exists al.ext _ _ M,?_;have as:=al.both (b:=e) (o:=dX m p e l) (.inl ⟨_,M,t7⟩)
  rw [gS]at as;have mt:∀N f,ax K bl N f->ax K (upd a4 e (dX m p e l)) N f:=λN f C=>ny (λu E=>by rw [al.ext _ _ M]at E;cases E;exact t7) (a5 N f C)
  have it:Ext k5 (upd bn e (dX m p e l)):=(CN.x0.trans d0).upd CN.l0;have db:upd bn e (dX m p e l) k=Y (.ins d F (nz w e ap)):=(ah hm).trans em
  have mA:=CN.pg.ext (it.trans as.ext);exists _,S,k,d,F,_,_,S,as.ext _ _ db,j.cl,j.program,S,_,S,k,d,F,_,_,S,as.ext _ _ db,j.cl,j.found,S,w,cV gt,ap,r,S,mA.prog,as.at,W.tt.ok CA,λix m9 jp na ⟨fT,kk,kp⟩=>?_;exists ix,S,⟨_,av.of kk⟩,?_;let eq:VLx:=λv ad X=>X3 λf0 f1 ab=>A9 (ad=[Y (.ref k),Y (.ref dL),c4,f0,f1]) (b8 m p K (upd bn e (dX m p e l)) X ap ab) (∀N f,ax K bl N f->ax K X N f) (f3 gt dp G ab) (iG gt G ds ab) (∀w k,bT r w k->bT ab w k) (X ix=Y (.lst (fT.map V.ref))) (cE (da K X) fT (fA (cV gt) r (cV gt).nodes.length)) (∀i<v,∀t h,(fA (cV gt) r (cV gt).nodes.length)[i]?=Y (D t,D h)->h∈G->∀a,bT r t a->bT ab h a)
  refine fw (xs:=fT.map V.ref) eq ?_ ?_ ?_ ?_
  .exact⟨_,_,r,S,as.on jp,λN f C=>jp.aP (mt N f C),W,ch,λ_ _ C=>C,kk,kp,λv R=>absurd R (k8 _)⟩
  .rintro v ad X _ ⟨_,_,_,_,_,_,_,_,_,C,_⟩;exact av.of C
  .rintro v y ad X c7 ⟨f0,f1,ab,rfl,an,ce,s,co,bk,cr,cs,ct⟩;rw [bh]at c7;let⟨N,mC,rfl⟩:=cv.mp c7;let⟨a3,dd,ii,fl,mF,mG,ks⟩:=eA cs mC;let⟨f2,a0,be,cd,mL,kt,hw⟩:=tu CA W.tt (cG (show _=Y (a3.1,a3.2)from dd));obtain rfl:a3=(D f2,D a0):=kf be cd;have f4:=an.ext _ _ db
   exists N,_,S,mF,S,_,_,S,_,_,S,S,?_;exists _,S,_,S,k,d,F,_,_,S,f4,j.cl,j.looked,S,e,_,S,⟨l,pk (D a0),fl,an.ext _ _ M,dK.same λN f C=>ce N f (bm.ext.aP C),S,ks,S⟩,_,S,?_;rw [kJ c3];have mM:decide (D a0∈G.map D)=decide (a0∈G):=by rw [hb,bH];exists λ⟨a,g,C⟩=>d4 C▸g,λC=>⟨_,C,S⟩
   rw [mM];by_cases c:a0∈G
   .rw [cq c];let⟨c6,f8,ga,ge,kw,mN,mP⟩:=an.ex;let⟨h2,am,_⟩:=s.tt.look kt;let⟨ci,bd,_,fa,cl⟩:=s.tt.look mL;let⟨gl,go,bt,c0,kP,kV⟩:=gv ge am;let⟨bv,be,ca,cd,cn,bi⟩:=gv ge bd;have nb:bt.length=h2.length:=by have:=bD cN kV;rwa [z,z]at this
    have mg:ca.length=ci.length:=by have:=bD cN bi;rwa [z,z]at this
    have nd:=(s.tt.len CA am).1;have ne:=(s.tt.len CA bd).1
    refine cf ⟨_,S,k,d,F,_,_,S,f4,j.cl,j.found,S,_,S,ap,_,S,⟨c6,pk (D a0),fl,f8,ga,S,ks,go.symm⟩,gl,S,⟨bt,c0⟩,_,S,k,d,F,_,_,S,f4,j.cl,j.found,S,_,S,ap,_,S,⟨c6,pk (D f2),ii,f8,ga,S,mG,be.symm⟩,bt,bv,ca,S,c0,kP,cd,cn,by lia,λ_=>rl CA s.tt bd bi,λc8=>?_,λc8=>?_⟩
    .refine⟨_,_,ab,S,an,ce,s,co,bk,cr,cs,λi n t h B a1 a g=>?_⟩;rcases kg.mp n with n|rfl
     .exact ct i n t h B a1 a g
     .rw [dd]at B;injection (aS B)with dl c1;obtain rfl:=d4 dl;obtain rfl:=d4 c1;rw [d4 (El kw go (by rw [c8];exact be))];exact bk _ _ g
    .have k0:cX (X gl)\/X gl=O:=.inl (by rw [c0];exact trivial);let⟨fn,c9,fr⟩:=s.merge CA dx c am fa λa g=>hd.s6 f2 a0 a (hw.mono W.lt) (s.lt _ _ ((cl a).mp g)) (a2.lp a0 c);exists _,_,_,S,b8.put an.ext f8 ga ge kw mN mP an.new (s.tt.nodup CA) go c0 (qI kP cn) (rk kV bi),λN f C=>bF k0 (ce N f C),fn,co.step c kt am ci,λw a C=>c9 _ _ (bk w a C),(ah (cW cr c0 (by intro a3;cases a3))).trans cr,Paired.cb cs λ_ _=>da.upd k0,λi n t h B a1 a g=>?_;rcases kg.mp n with n|rfl
     .exact c9 _ _ (ct i n t h B a1 a g)
     .rw [dd]at B;injection (aS B)with dl c1;obtain rfl:=d4 dl;obtain rfl:=d4 c1;exact fr a ((cl a).mpr (bk _ _ g))
   .rw [bU c];refine b1 ⟨_,_,ab,S,an,ce,s,co,bk,cr,cs,λi n t h B a1 a g=>?_⟩;rcases kg.mp n with n|rfl
    .exact ct i n t h B a1 a g
    .rw [dd]at B;injection (aS B)with dl c1;rw [d4 c1]at c;exact absurd a1 c
  .rintro ad X ⟨f0,f1,ab,rfl,an,ce,s,co,bk,cr,cs,ct⟩;refine la X _ ab ⟨an,it,CN.a0,CN.l0,db,⟨l,M,dK.same λN f C=>ce N f (bm.ext.aP C),c3⟩,CN.pg⟩ s ⟨co,λx a g ev=>?_,λt h a hw a1 mR=>?_⟩
   .obtain⟨v,R⟩:=hR.mp ev;exact bk _ _ (es v (by rw [lc];exact(cF.mp R).1) x R a g)
   .obtain⟨i,n⟩:=hR.mp (tw CA W.tt (hw.mono λw k C=>ch.sub a2.tt C));exact ct i (by rw [z,bO kp];exact(cF.mp n).1) t h n a1 a (ch.sub a2.tt mR)
abbrev Ff:a7:=top 55
structure Fg(S:aw)(w:au)(K:af)(b:Z)(H:U)(a:Z)(z:Ex)(A:Pl):Prop where
 ex:X8 λc p G T M (N:List Pl) tab ps=>A9 (H a=Y (.ins b c (nz p G T))) (H G=Y (dX S w G M)) (b9 K H M) (M.map (·.1)=(N.map D).map pk) (TabAt S w K H T tab) (((aq z).filter λp=>decide (p∈N))=ju z A) (N.length=(ju z A).length) (ba tab (D A)=Y ps) ((((bp z).map a6).filter λx=>decide (x∈ps))=(ke z A).map a6)
inductive t8 (m:aw) (p:au) (K:af) (d q Q:Z) (A:List V) (H:U) (M:VK) (N:XK):Prop
 |mk(P b e c:_)(_:A=[.ref P,.ref b])(_:cg K q Q H P e)(_:c∈aq e)(_:ax K H b (b4 (D c)))(_:∀a z,Ext H z->Fg m p K d z a e c->M (.ref a) z)
def Qg(z:Ex)(U:bG z):bM z (gx ((aq z).map D)) (bT (gx ((aq z).map D))):=by
 have N:∀A∈aq z,ba (gx ((aq z).map D)) (D A)=Y []:=λA M=>by
  refine hI ?_ ?_
  .unfold gx;rw [d7];exact(nU _).symm▸lU U
  .exact bH.mpr ⟨D A,dY M,S⟩
 exists ?_,λA M=>⟨[],N A M,gc,(λd a=>nomatch a),λe=>⟨(λb=>nomatch b),λ⟨f,T,c⟩=>?_⟩⟩
 .unfold gx;rw [d7];exact nU _
 .rw [N A M]at T;cases T;exact c
def Qh(N:bT (gx ((aq pc).map D)) EQ ul):False:=by let⟨a,S,T⟩:=N;let⟨b,_,U⟩:=bH.mp (CF S);cases U;exact nomatch T
def Qi(a4:a9 K "ask_alone" "ask_alone" Ff pi o0)(c7:kN K d)(a5:iu m p K L P aE 2 "Asking" d ["self","program","place"] (E9 m p K d q Q))(ab:h_ 1 d "how_much" ["self"] (Fb m p K d q Q)) (bd:h_ 5 d "look_further" ["self"] (Fc m p K d q Q)) (be:h_ 5 d "find_facts" ["self"] (Fe m p K d q Q)):f_ 6 pi o0 ["program","place"] (t8 m p K d q Q):=by
 refine a4.go ["program","place","asking","grown","before"] λc8 c9 db dd H dl dp ds t h u _ _=>?_;let⟨g,ad,z,f,rfl,B,l,al,bi⟩:=h;have F:=B.ok
 have n:=t.mo 1;exists _,ar (bj 2 u (iv (E:=E0) a5 (t.mo 3) cx (A (T 0) (aJ 1)))) (ar (bj 3 u hx) (ar (oe dZ (kn (T 3)) (ar (bj 4 u (dR (E:=E0) (T 2) ab n cx)) (ar (cM (dR (E:=E0) (T 2) bd t cx)) (ar (cM (dR (E:=E0) (T 2) be t cx)) (ay (bj 3 u (oh vI (dR (E:=E0) (T 2) ab n cx) (T 4) (bV _)))))))) (ay (aQ (T 2))))),?_;exists _,S,_,S,λb G w bk bl=>?_;have v:Ext H (upd (upd H G (.own b)) b (.ins d G [])):=(Ext.one bk).new ((ah bl.symm).trans w)
 exists b,G,g,ad,z,f,S,M,B.ext v,v.aP al,λbm C i j n bn bs bt bv=>⟨S,?_⟩;have am:Ext H C:=λc o z=>bn c o (v _ _ z) (cB z w)
 have W:e7 m p K d q Q H C bm b G g i j z [f] (gx ((aq z).map D)):=⟨n,am,w,v.none bs,bt,⟨_,bv,λan R=>bb.mp R▸n.ext.aP (am.aP al),S⟩,B⟩
 have X:f3 z f [f] (gx ((aq z).map D)):=⟨by simp,bb.mpr S,λan R=>bb.mp R▸(mJ z f).here,Qg z F,λan dx h=>(Qh h).elim⟩
 let ca:VLx:=λap as CA=>X5 λa0 x a e r=>A5 (as=[Y (.ref g),Y (.ref ad),Y (.ref b),Y (.bl r),a0]) (e7 m p K d q Q H x CA b G g i j z a e) (f3 z f a e) (r=ao->Fg m p K d CA b z f) (ap=if r=I then 3000-(a.length+eF a e)+1 else 0);exists ca,⟨_,O,C,_,_,I,S,W,X,(λh=>by cases h),S⟩,?_;rintro ap as CA ⟨a0,x,a,e,r,rfl,W,X,cd,rfl⟩;exists _,S,_,S,?_;cases r with
 |false=>exact b1 ⟨_,S,bi b CA W.ext (cd S)⟩
 |true=>
 refine cf ⟨_,(λdK CA h=>h),?_⟩;exists _,S,b,G,_,S,W.obj,S,H,x,b,G,g,i,j,z,f,a,e,S,W,X,l,λdL ce=>?_;have a1:=W.on ce
 exists _,S,b,G,_,S,a1.obj,S,H,x,b,G,g,i,j,z,f,a,e,S,a1,X,l,λdT ch L3 a2 ci cl=>?_;exists _,S,b,G,_,S,a2.obj,S,H,ch,b,G,g,i,j,z,f,L3,e,S,a2,ci,l,λdX a3 k V y cn=>?_;exists _,S,b,G,_,S,V.obj,S,H,a3,b,G,g,i,j,z,f,L3,k,S,V,y,l,λd0 co=>?_;have s:=V.on co
 have d1:=y.bound F l;exists _,S,_,_,S,S,_,?_,Y (.int ((a.length+eF a e:Nat):Int)),a3,L3,k,decide (a.length+eF a e<L3.length+eF L3 k),?_,s,y,λcr=>?_,S
 .by_cases c:a.length+eF a e<L3.length+eF L3 k
  .rw [ai (cq c),ai S];lia
  .rw [N (by rw [bU c];decide),ai S];lia
 .have:decide (((L3.length+eF L3 k:Nat):Int)>((a.length+eF a e:Nat):Int))=decide (a.length+eF a e<L3.length+eF L3 k):=by rw [hb];lia
  rw [<-this];rfl
 .obtain⟨cs,ct,c0,c1,c2⟩:=P4 F l X y cl cn (of_decide_eq_false cr);let⟨c3,c4,c5,c6⟩:=s.ol;exists G,g,i,j,c3,L3,k,c0,s.obj,s.tb.ext _ _ c4,c5,c6,s.tb.at,cs,ct,c1,c2
end Cf
namespace L3
def lV:Int:=0xFCA86420
variable{sc:bZ}{t:ak}{m:aw}{p:au}{s5:J->ak->Prop}
theorem Qj{z:Int->ak->Prop}(D:sc.units<cK)(G:∀M,z lV {t with toks:=M}):aI (aM m p) sc (pyHash .none) z s5 t:=
 PySem.W.pyHash_slot (T:="NoneType") S F.slot_NoneType_hash F.entry_NoneType_hash (F.args_NoneType_hash_1 _) (T4 _) (.inr D) (aH (bu (aH (wpAny_mkInt (bu ⟨_,_,S,G _⟩)))))
variable{GM:Array g6}{d:Z}{B:Nat}
def find_none{o:aL}{N:Option Nat->ak->Prop}(T:t.heap.get? d=Y o)(U:o.data=.dict GM B)(b:∀G∈GM.toList,G.hash≠lV)(c:N O t):aI (aM m p) sc (dictFind d .none lV) N s5 t:=by
 have z:T5 GM.size (λi=>GM[i]?.map (·.hash)) lV=[]:=by
  unfold T5;rw [SO];intro i _ D;dsimp only at D;cases a:GM[i]? with
  |none=>rw [a]at D;cases D
  |some G=>
   rw [a]at D;exact b G (RO.mpr (Array.mem_of_getElem? a)) (by simpa using D)
 unfold dictFind
 try with_reducible refine nM ?_
 refine aH (j6 T U ?_);dsimp only;rw [z];unfold dictWalkPlain;rw [uH];exact bu c
variable{v0:List (List Key×Z×J)}{IO:J->ak->Prop}
def Qk(b:sc.in1.units<cK)(c:(d==er)=ao)(D:t.heap.DictOfH (tk m p) d v0)(z:∀G∈v0,(tk m p).hash G.1≠lV)(e:∀U,s5 (.bool ao) {t with toks:=U}):aI (aM m p) sc (fD .In .none (.ref d)) s5 IO t:=by
 refine aH ?_;unfold contains
 try with_reducible refine nM ?_
 refine aH (uK D.typeIs HE.lookup ?_);rw [N (by rw [T4];exact d5)];refine aH (wpAny_callSpecialUnlessNone?_slot (name:=dO "__contains__") D.typeIs HE (rG HE D.typeIs entry_dict_contains ?_ (args_dict_contains _ _)));show aI _ _ (dictGet d .none>>=_) _ _ t
 let⟨o,j,k,f,_,g,h,_⟩:=D;refine aH ?_;unfold dictGet
 try with_reducible refine nM ?_
 refine aH (Qj b λU=>aH (find_none f g (λl a=>?_) (bu ?_)))
 .rw [h]at a;let⟨G,i,rfl⟩:=bH.mp a;exact z G i
 .exact aH (wpAny_pendingKey_other c (bu ⟨_,S,pN (bu (e _))⟩))
inductive Ql (z:aw) (w:au) (K:af) (H:U) (a:Z) (y:V) (A:Bool):Prop
 |mk(b:_)(_:H a=Y (dX z w a b))(_:b9 K H b)(_:((∃k D,y=.ref D/\ax K H D (k.map kV)/\A=(cm b k).isSome)\/(y=.bw/\(∀x∈b,(tk z w).hash x.1≠lV)/\A=ao)))
inductive Qm (A:aw) (w:au) (K:af) (D:VK) (y:V) (x:V) (z:U):Prop
 |mk(a r:_)(_:x=.ref a)(_:Ql A w K z a y r)(_:D (.bl r) z)
def Qn(A:aw)(D:au)(K:af)(G M:TE):TE:=λz H N=>G z H λy S=>M z S λT U=>Qm A D K N y T U
variable{h:Cx}{ss xL:TE}
def Qo{i o:a8}(U:aw)(a:au)(K:af)(b:h.A.units+1<cK)(m:PE h i ss)(n:PE h o xL)(p:h.prog=U:=by rfl)(hw:h.w=a:=by rfl)(q:h.K=K:=by rfl):PC h .In i o (Qn U a K ss xL):=by
 subst p hw q;intro c r d H as s t;refine aN (m c r d H _ s t) λe v ⟨y,w,x,f,B⟩=>aN (n c v d w _ x B) λu a0 ⟨g,z,A,C,E,a1,F,⟨L,j,k,P⟩,l⟩=>?_;subst F;obtain rfl:u=cp E:=C;rcases P with⟨Q,R,D,G,M⟩|⟨D,G,M⟩
 .subst D M;cases (show e=cp R from f);exact Bj b A j k G λa2 V=>⟨.bl (cm L Q).isSome,z,V,S,l⟩
 .subst D M;cases (show e=kQ from f);let⟨a3,X,a4,ab,ad⟩:=jI A j k;refine Qk (show h.A.in1.units<cK from b) X ad (λg al=>?_) λa5=>⟨.bl ao,z,A.tok _,S,l⟩
  let⟨am,an,ap,_⟩:=ab.mem g al;rw [<-ap];exact G am an
end L3
namespace Cf
abbrev Fh:a7:=top 77
variable{rc:List Pr}{pp:bW}{m:aw}{p:au}
theorem Qp(U:pp.map (·.1)=rc.map pk)(M:∀z∈rc,z.1<5/\z.2<31):∀D∈pp,(tk m p).hash D.1≠lV:=λD a=>by
 have:D.1∈rc.map pk:=U▸dY a;let⟨z,N,b⟩:=bH.mp this;have c:∀z∈yo,yn z≠lV:=by decide+kernel
 rw [<-b];exact c z (yp (M z N).1 (M z N).2)
def Fi(z:List V)(A:Nat):gH z O (Y ((A:Nat):Int))=z.take A:=by
 unfold gH;rw [HT.sk,show HT.gj z.length 0 O=0 from rfl,SR];rw [List.drop_zero];by_cases c:A<=z.length
 .rw [ik c]
 .rw [n0 (by lia),j4 (aR _),j4 (by lia)]
def Fj(z:List V)(A:Nat):gH z (Y ((A:Nat):Int)) O=z.drop A:=by
 unfold gH;rw [HT.sk,show HT.gj z.length z.length O=z.length from rfl];by_cases c:A<=z.length
 .rw [ik c];exact j4 (l6▸aR _)
 .rw [n0 (by cutsat),zY (aR _),zY (by cutsat),rr]
variable{pc:Ex}{d q Q:Z}{K:af}
def cg.nd{H:U}(A:cg K d q H Q pc):∃a N T b c D,∃M:List NR,H Q=Y (.ins d a (Ec N T b c D))/\H N=Y (.lst (cJ (bq pc)))/\H T=Y (.lst (M.map λA=>V.ref A.a))/\M.length=size pc/\ ∀(e:Nat) (A:NR),M[e]?=Y A->(∃j,H A.a=Y (.ins q j (eV A.i.aK A.i.word A.i.parent A.lp (((bq pc).length:Int)-A.sp.1) (((bq pc).length:Int)-A.sp.2))))/\(df pc 0)[e]?=Y A.sp:=by
 let⟨a,N,T,b,c,D,k,l,⟨M,m,n,o,p⟩,_⟩:=A.ex;exists a,N,T,b,c,D,M,k,l,m,?_,λe A i=>⟨(n A (cG i)).1,by rw [<-p,bh,i];rfl⟩;have:=bD cN o
 rw [z,eT]at this;exact this
inductive Fl (K:af) (D M S:Z) (T:List V) (H:U) (a:VK) (b:XK):Prop
 |mk(p lt e x:_)(t:aj)(_:T=[.ref p,.int (ag x:Nat),.ref lt])(_:cg K D M H p e)(_:x∈aG e)(_:H lt=Y (.lst (cJ t)))(_:t.length<=2000)(_:(rQ e (ag x) t=O->∀z,Ext H z->b (.ref S) O z))(_:∀A y,rQ e (ag x) t=Y A->size A+size x=size e+size y->aW 0 A=aW 0 (cQ (ag x) y e)->∀N z,Ext H z->cg K D M z N A->a (.ref N) z)
variable{L:aa->Option J}{P:aD}{pi:Z}{o0:bc}
def Qq(ce:a9 K "changed_program" "changed_program" Fh pi o0)(a:eE K d q)(ch:q_ 8 "read_expression" ["text"] (x8 q Q))(ci:iu m p K L P (bA m p) 9 "Program" d ["self","text"] (tR K d q Q)):k_ 11 pi o0 ["program","label","text"] (Fl K d q Q):=by
 refine ce.ew ["program","label","text","node"] λem eq es ev H ex fa fd ab cl cn _ sz=>?_;let⟨F,ad,h,i,U,rfl,al,s,am,fl,an,co⟩:=cl;exists _,ar (cM (gI ch (ab.mo 8) dw (aJ 2))) (ar (bj 3 cn (cc dk (aF 0) (T 1) (λ_ _=>S))) (ay (aQ (iv ci ab dw (A (hg lu (hg lu (qw qy (aF 0) sl (oj (aF 3))) (T 2)) (qw qy (aF 0) (oj (aF 3)) sl)) aC))))),?_;have j:=al.ok
 let⟨D,N,E⟩:=xp j s;exists _,S,ad,U,S,am,by lia,?_;cases ap:hH (bY [] (U.map norm))with
 |none=>exactλcr cs=>an (Na j s (MY.mp ap)) cr cs
 |some ct=>
 let⟨c0,fm⟩:=ct;have c1:runM (bY [] (U.map norm))=Y c0:=by rw [<-xl,ap];rfl
 let⟨as,c2⟩:=Nb j s E c1;intro w fn fr t _ _ _ _ _;let⟨b,a0,c3,fs,fT,f0,a1,g,a2,c4,c5,c6⟩:=(al.ext t).nd;have c7:ag i<a1.length:=by rw [c5];exact j.lt s
 obtain⟨e,a3⟩:∃e,a1[ag i]?=Y e:=⟨_,gd c7⟩
 let⟨⟨a4,R⟩,a5⟩:=c6 _ _ a3;have bd:e.sp=((bq i).length+N.length,N.length):=by rw [E.span]at a5;exact(aS a5).symm
 have be:(bq h).length=D.length+((bq i).length+N.length):=by rw [E.text,br,br]
 have c8:((bq h).length:Int)-e.sp.1=((D.length:Nat):Int):=by rw [bd,be];lia
 have c9:((bq h).length:Int)-e.sp.2=((D.length+(bq i).length:Nat):Int):=by rw [bd,be];lia
 have f1:=E5 h j.told;have f2:=j.bL
 rw [c8,c9]at R;exists _,S,F,d,b,_,_,S,g,a.p.c,a.p.nodes,S,_,S,c3,_,_,_,S,S,av.of c4,e1 (by rw [bh,a3];rfl),?_;exists _,S,F,d,b,_,_,S,g,a.p.c,a.text,S,_,S,e.a,q,a4,_,_,S,R,a.n.cl,a.n.begin_,S,_,S,a0,_,S,av.of a2,λk db=>?_;have bi:∀{o},Ext w (upd w k o):=Ext.one db
 have dd:gH (cJ (bq h)) O (Y ((D.length:Nat):Int))=cJ D:=by rw [Fi,E.text];unfold cJ;rw [aT,T2 (by rw [z];exact aR _),j4 (by rw [z];exact aR _)]
 have dl:gH (cJ (bq h)) (Y ((D.length+(bq i).length:Nat):Int)) O=cJ N:=by rw [Fj,E.text,<-ck];unfold cJ;rw [aT,List.drop_left' (by rw [z,br])]
 have x:∀u:aj,(cJ u).length=u.length:=λu=>z _;have bk:∀u v:aj,cJ u++cJ v=cJ (u++v):=λu v=>aT.symm
 rw [dd];exists _,S,k,ad,_,_,S,S,M,bi _ _ (t _ _ am),by rw [x,x];lia,λn dp=>?_;rw [bk];have B:∀{o},Ext w (upd (upd w k (.lst (cJ D))) n o):=bi.new dp
 exists _,S,F,d,b,_,_,S,B _ _ g,a.p.c,a.text,S,_,S,e.a,q,a4,_,_,S,B _ _ R,a.n.cl,a.n.end_,S,_,S,a0,_,S,av.of (B _ _ a2),λC bl=>?_;rw [dl];exists n,C,_,_,S,S,(Ext.one bl) _ _ M,M,by rw [x,x,br];lia,λG ds=>?_;rw [bk,ck];have bm:Ext w (upd (upd (upd (upd w k (.lst (cJ D))) n (.lst (cJ (D++U)))) C (.lst (cJ N))) G (.lst (cJ (D++(U++N))))):=(B.new bl).new ds
 have dx:upd (upd (upd (upd w k (.lst (cJ D))) n (.lst (cJ (D++U)))) C (.lst (cJ N))) G (.lst (cJ (D++(U++N)))) G=Y (.lst (cJ (D++(U++N)))):=M;generalize upd (upd (upd (upd w k (.lst (cJ D))) n (.lst (cJ (D++U)))) C (.lst (cJ N))) G (.lst (cJ (D++(U++N))))=V at*;intro f W bn dK dL;have bs:Ext V (upd (upd V W (.own f)) f (.ins d W [])):=(Ext.one dK).new ((ah dL.symm).trans bn)
 have bt:∀{l},bN f (upd (upd V W (.own f)) f (.ins d W [])) l->Ext H l:=λr c o bv=>r c o (bs _ _ (bm _ _ (t _ _ bv))) (cB (bm _ _ (t _ _ bv)) bn);exists f,W,G,D++(U++N),S,M,bs _ _ dx,by rw [br,br];lia,λdT l r=>?_,λca cd l r dX=>⟨S,?_⟩
 .exact an (as.trans dT) l (bt r)
 .obtain⟨y,d0,d1⟩:=c2 ca cd;exact co ca y (as.trans cd) d0 d1 f l (bt r) dX
abbrev Fn:a7:=top 78
def gA(z D G:Ex)(A:Nat):Option Nat:=if A<size z then eu (e0 z D (ag G)) A else O
set_option tactic.hygienic true
variable{or:Tb}{wr:Pred}
def Qr{f x:Ex}(D:bG pc){new:Tb}(M:bM pc or wr):hq (gA pc f x) or new=hq (eu (e0 pc f (ag x))) or new:=by
 unfold hq;congr 1;refine gE λy b=>?_;have N:=hI (M.nodup D) (show(y.1,y.2)∈or from b)
 let⟨o,c,e⟩:=M.key (kE N);let⟨p,g,h,_⟩:=pa D c;have T:∀A,A<size pc->gA pc f x A=eu (e0 pc f (ag x)) A:=λA i=>ai i
 have j:fj (gA pc f x) y.1=fj (eu (e0 pc f (ag x))) y.1:=by unfold fj;rw [T _ (by rw [e,<-h];exact D.lt g)]
 unfold jO;rw [j];cases fj (eu (e0 pc f (ag x))) y.1 with
 |none=>rfl
 |some q=>
  dsimp only;congr 1;refine gE λk l=>?_;let⟨r,m,rfl⟩:=M.sub N k l;unfold fX;split
  .rfl
  .rename_i n;unfold fj;rw [T];rcases i5.mp m with rfl|⟨A,y,s,rfl,a⟩|⟨A,x,y,rfl,a⟩|⟨A,d,rfl,a⟩
   .exact absurd rfl n
   .exact D.lt a
   .exact D.lt a
   .exact D.lt a
set_option tactic.hygienic false
inductive Fo (K:af) (A D:Z) (M:List V) (H:U) (N:VK) (S:XK):Prop
 |mk(po pn e f x y:_)(_:M=[.ref po,.ref pn,.int (ag x:Nat)])(_:cg K A D H po e)(_:cg K A D H pn f)(_:x∈aG e)(_:size f+size x=size e+size y)(_:∀d z,Ext H z->pB z d (gA e f x)->N (.ref d) z)
def Qs{u:Z}(ci:a9 K "moved_labels" "moved_labels" Fn q o0)(h:eE K d u)(bd:L "len"=O)(cl:L "enumerate"=O):f_ 1 q o0 ["old","new","label"] (Fo K d u):=by
 refine ci.go ["old","new","label","more","moved","other","node"] λem eq es ev H ex fa fd fl cn x be sz=>?_;let⟨B,bi,G,f,a,y,rfl,bk,co,W,cr,cs⟩:=cn;exists _,ar (bj 3 x (hg vF (cR el (by rfl) bd dE (A (aF 1) aC)) (cR el (by rfl) bd dE (A (aF 0) aC)))) (ar (bj 4 x wk) (ar (d3 dZ S (sD S cl (A (aF 0) aC)) (lj S (gT (bX 5 x) (gT (bX 6 x) lh))) (ay (bK (bS sf (T 5) (T 2) (bV _)) (ay (sC be (T 4) (T 5) (T 5) S)) (ay (bK (bS IW (aF 6) (fP (cc dk (aF 0) (T 2) (λ_ _=>S)) S) (bV _)) (ay (sC be (T 4) (T 5) (hg se (T 5) (T 3)) S)) bQ))))) (ay (aQ (T 4))))),?_;have C:=bk.ok
 let⟨fm,ct,bl⟩:=xp C W;let⟨c0,c1,c2,fn,_,_,c3,c4,c5,c6,_⟩:=co.node (gW f);let⟨X,fr,ab,fs,fT,f0,ad,al,f1,E,F,bm⟩:=bk.nd;have c7:ag a<ad.length:=F▸C.lt W
 obtain⟨n,bn⟩:∃n,ad[ag a]?=Y n:=⟨_,gd c7⟩
 let⟨⟨c8,c9⟩,bs⟩:=bm _ _ bn;have db:n.sp.2=ct.length:=by rw [bl.span]at bs;rw [<-aS bs]
 have f2:=C.bL;exists _,S,bi,d,c0,c1,_,S,c3,h.p.c,h.p.nodes,c4,c2,_,S,.inl (av.of c5),_,S,B,d,X,_,_,S,al,h.p.c,h.p.nodes,S,ab,_,S,.inl (av.of E),_,_,S,S,?_;rw [z,z,c6,F];intro a4 am;have an:∀{o},Ext H (upd H a4 o):=Ext.one am
 exists _,S,B,d,X,_,_,S,an _ _ al,h.p.c,h.p.nodes,S,ab,_,S,av.of (an _ _ E),?_;let dd:VLx:=λD r l=>X3 λap as i=>A5 (r=[Y (.ref B),Y (.ref bi),Y (.int (ag a:Nat)),Y (.int ((size f:Int)-(size G:Int))),Y (.ref a4),ap,as]) (Ext H l) (l a4=Y (.dK i)) (i.length<=D) (∀b:Nat,cU i (.inl (b:Int))=(if b<D then gA G f a b else O).map λg=>V.int (g:Nat))
 refine yc (xs:=ad.map λn=>V.ref n.a) dd ?_ ?_ ?_ ?_
 .exact⟨O,O,[],S,an,M,aR _,λb=>by rw [N (k8 _)];rfl⟩
 .rintro D r l _ ⟨_,_,_,_,t,_⟩;exact av.of (t _ _ E)
 .rintro D v r l Q bt ⟨ap,as,i,rfl,t,a0,dl,R⟩ bv;rw [bh]at bt;let⟨s,ca,rfl⟩:=cv.mp bt;let⟨⟨dp,ds⟩,dx⟩:=bm _ _ ca;have dK:D<size G:=F▸(cF.mp ca).1
  have a5:Ext H (upd l Q (.tup [.int (D:Nat),.ref s.a])):=t.new bv;have a1:upd l Q (.tup [.int (D:Nat),.ref s.a]) a4=Y (.dK i):=(Ext.one bv) _ _ a0
  exists Q,_,S,ax.of M,S,_,_,S,_,_,S,S,?_;generalize upd l Q (.tup [.int (D:Nat),.ref s.a])=f4 at*;have cd:∀{g:Nat},gA G f a D=Y g->∀b:Nat,cU (putK i (.inl (D:Int)) (V.int (g:Nat))) (.inl (b:Int))=(if b<D+1 then gA G f a b else O).map λg=>V.int (g:Nat):=λ{g} a2 b=>by
   rw [J5,R];by_cases c:b=D
   .rw [ai (by rw [c]),ai (by lia),c,a2];rfl
   .rw [N (λce=>c (by injection ce with ce;lia))];by_cases j:b<D
    .rw [ai j,ai (by lia)]
    .rw [N j,N (by lia)]
  have dL:gA G f a D=O->∀b:Nat,cU i (.inl (b:Int))=(if b<D+1 then gA G f a b else O).map λg=>V.int (g:Nat):=λa2 b=>by
   rw [R];by_cases c:b=D
   .rw [N (by lia),ai (by lia),c,a2]
   .by_cases j:b<D
    .rw [ai j,ai (by lia)]
    .rw [N j,N (by lia)]
  have e:=(Nc C W cr) D;have dT:gA G f a D=eu (e0 G f (ag a)) D:=ai dK
  rw [<-dT]at e;unfold xq at e;exists _,S,_,S,_,_,S,S,_,S,?_;by_cases ch:D<ag a
  .rw [cq (show((D:Nat):Int)<((ag a:Nat):Int)by lia)];rw [ai ch]at e;have a3:gA G f a D=Y D:=by
    cases w:gA G f a D with
    |none=>rw [w]at e;cases e
    |some g=>rw [w]at e;have:((g:Nat):Int)=((D:Nat):Int):=aS e;rw [show g=D by lia]
   refine cf ⟨_,S,_,S,_,S,a4,_,S,mx.k (k:=.inl (D:Int)) a1 (by lia),_,_,_,S,a5.upd am,M,?_,cd a3⟩;have:=sy i (.inl (D:Int)) (V.int (D:Nat))
   lia
  .rw [bU (show¬((D:Nat):Int)<((ag a:Nat):Int)by lia)];rw [N ch]at e;refine b1 ⟨_,S,s.a,u,dp,_,_,S,a5 _ _ ds,h.n.cl,h.n.begin_,S,_,S,B,d,X,_,_,S,a5 _ _ al,h.p.c,h.p.nodes,S,_,S,ab,_,_,_,S,S,av.of (a5 _ _ E),e1 (by rw [bh,bn];rfl),n.a,u,c8,_,_,S,a5 _ _ c9,h.n.cl,h.n.end_,S,_,_,S,S,_,S,?_⟩;have dX:=bl.back D s.sp dx (by lia)
   have d0:decide (((bq G).length:Int)-s.sp.1>=((bq G).length:Int)-n.sp.2)=decide (ag a+size a<=D):=by
    rw [hb,<-dX,db]
    lia
   rw [d0];by_cases j:ag a+size a<=D
   .rw [cq j];rw [ai j]at e;cases w:gA G f a D with
    |none=>rw [w]at e;cases e
    |some g=>
     rw [w]at e;have d1:=(aS e).symm
     refine cf ⟨_,S,_,S,_,_,S,S,_,S,_,S,a4,_,S,mx.k (k:=.inl (D:Int)) a1 (by lia),_,_,_,S,a5.upd am,M,?_,?_⟩
     .exact cu (sy _ _ _) (by lia)
     .rw [d1];exact cd w
   .rw [bU j];rw [N j]at e;have a3:gA G f a D=O:=by
     cases w:gA G f a D with
     |none=>rfl
     |some g=>rw [w]at e;cases e
    exact b1 ⟨_,_,_,S,a5,a1,by lia,dL a3⟩
 .rintro r l ⟨ap,as,i,rfl,t,a0,dl,R⟩;exists _,S,cs a4 l t ⟨i,a0,λb=>?_⟩;rw [R,z,F];by_cases c:b<size G
  .rw [ai c]
  .rw [N c,show gA G f a b=O from N c]
abbrev Fp:a7:=top 81
structure Lk(K:af)(d:Z)(H z:U):Prop where
 bt:bN d H z
 sq:∀A D,ax K H A D->ax K z A D
theorem Lk.lock{H:U}{u o:HO}(D:H d=Y u)(M:NT u):Lk K d H (upd H d o):=⟨λN o S c=>(ah c).trans S,λN T=>ny λv A=>by rw [D]at A;cases A;exact M⟩
variable{r sK:U}
theorem Lk.on{H:U}(M:Lk K d H r)(N:Ext r sK):Lk K d H sK:=⟨M.bt.ext N,λb S T=>N.aP (M.sq b S T)⟩
theorem Lk.done{H:U}{u:HO}(N:Lk K d H r)(S:H d=Y u):Ext H (upd r d u):=λD o T=>by
 by_cases c:D=d
 .rwa [c,M,<-S,<-c]
 .rw [ah c];exact N.bt D o T c
theorem Lk.put{H:U}{o:HO}(M:Lk K q H r)(S:H d=O)(T:cX (r d)\/r d=O):Lk K q H (upd r d o):=⟨λb u N c=>(ah (cB N S)).trans (M.bt b u N c),λb a z=>bF T (M.sq b a z)⟩
def pC(K:af)(H:U)(v:V):Option Pr->Prop
 |none=>v=.bw
 |some p=>∃z,v=.ref z/\ax K H z (b4 p)
def pC.sq{H:U}{v:V}{o:Option Pr}(N:∀z D,ax K H z D->ax K r z D)(M:pC K H v o):pC K r v o:=by
 cases o with
 |none=>exact M
 |some p=>let⟨z,S,T⟩:=M;exists z,S,N _ _ T
inductive Fq (m:aw) (p:au) (K:af) (M:List V) (H:U) (N:VK) (S:XK):Prop
 |mk(to tn d b old new a:_)(_:M=[.ref to,.ref tn,.ref d])(_:TabAt m p K b to old)(_:b8 m p K b H tn new)(_:pB H d a)(_:(old.map (·.1)).Nodup)(_:(∀y∈old,y.2.length<=31))(_:(∀y∈old,∀z,fj a y.1=Y z->∃A,ba new z=Y A/\∀u∈A,u.1<5/\u.2<31))(_:∀D,Ext H D->N (.int (hq a old new:Nat)) D)
def Qt(g2:a9 K "how_many_kept" "how_many_kept" Fp d o0)(g3:L "len"=O)(hd:g_ 1 "moved_two" ["two","moved"] (yP K))(he:g_ 2 "moved_sort" ["sort","moved"] (EZ K)):f_ 3 d o0 ["old_table","new_table","moved"] (Fq m p K):=by
 refine g2.go ["old_table","new_table","moved","kept","place","becomes","sorts","sort"] λlv lw l0 G H e mg mk dK x q F sz=>?_;let⟨f,bv,an,mo,w,n,a,rfl,cs,r,⟨dL,Q,dT⟩,d0,hf,hi,hm⟩:=x;have hz:=dK.mo 1
 exists _,ar (bj 3 q cL) (ar (my (d3 dZ S (lB (T 0)) (bX 4 q) (ar (bj 5 q (bI hd hz (A (T 4) (aJ 2)))) (ay (bK (bS IX (T 5) vr S) (ar (my (sv (i:=6) (own:=[("sort",7)]) S q S rfl (sx S rfl rfl rfl) (lB (Er m p K F (T 0) (T 4) (λ_ _=>S))) (e2 S) (λG H ap as a0=>bX 7 q) (λG H ap as a0=>hB) (λG H ap as a0=>bI he dK (A (T 7) (aJ 2))))) (ay (z8 (i:=3) q S (Or.inl S) (cR el (by rfl) g3 dE (A (fS (own:=[("sort",7)]) S q (dC (T 6)) (e2 S) (λG H ap as a0=>bX 7 q) (λG H ap as a0=>kv (i0 (Qo m p K F (T 7) (pb m p K F (T 1) (T 5) (λ_ _=>S))) S)) (λG H ap as a0=>T 7)) aC)) IS (.inl S)))) bQ))))) (ay (aQ (T 3)))),?_;let⟨B,a1,d1,ca,mp,h0⟩:=cs;have R:=r.ext _ _ a1
 exists f,_,R,trivial,λcd=>?_;exists _,S,f,cd,B,S,M,?_;have h1:=bO ca
 let W:VLx:=λi ce X=>X4 λct c0 ch a2=>A3 (ce=[Y (.ref f),Y (.ref bv),Y (.ref an),Y (.int (hq a (w.take i) n:Nat)),ct,c0,ch,a2]) (X f=Y (.bP cd (dX m p f B))) (Lk K f H X);refine yQ (aX:=B) W ?_ ?_ ?_ ?_
 .exact⟨O,O,O,O,S,M,Lk.lock R t6⟩
 .rintro i ce X _ ⟨_,_,_,_,_,x,_⟩;exact x
 .rintro i s ce X c1 ⟨ct,c0,ch,a2,rfl,ci,ab⟩;let⟨y,em,eq,D,es,g,a3,h2,ev⟩:=eA ca c1;have c2:=cG em
  have ex:=cG c1;have fa:ax K X s.2.1 (b4 y.1):=by have:=ab.sq _ _ (r.ext.aP (d1 s ex));rw [eq]at this;exact this
  have id:∀{a4},Lk K f H a4->pB a4 an a:=λc3=>⟨dL,c3.bt _ _ Q (cW Q R (by intro j;cases j)),dT⟩
  have fd:hq a (w.take (i+1)) n=hq a (w.take i) n+jO a n y:=by
   unfold hq;rw [dq,em,aT,vd];show _+(jO a n y+0)=_
   lia
  exists _,S,_,S,s.2.1,y.1,an,a,S,fa,id ab,?_;cases c4:fj a y.1 with
  |none=>
   have ii:jO a n y=0:=by unfold jO;rw [c4]
   exists _,S,S,_,S,b1 ⟨Y (.ref s.2.1),Y .bw,ch,a2,?_,ci,ab⟩;rw [fd,ii];rfl
  |some dx=>
  intro c5 a5 c6 im;let⟨bd,fl,io⟩:=hi y c2 dx c4;let⟨is,c7,it,ix,jp,kk,fm,kp,ks,fn,ms,_⟩:=r.yR fl;have ad:=ab.on c6
  have fr:=c6 _ _ ci;have kt:=r.ext _ _ a3
  have cl:D≠f:=by rintro rfl;exact h0 (by rw [<-es];exact dY ex)
  have cn:=ad.bt _ _ kt cl;have kw:c7≠f:=by rintro rfl;rw [fm]at a1;cases a1
  have mt:c7≠D:=by rintro rfl;rw [fm]at a3;cases a3
  have kP:bv≠f:=by rintro rfl;rw [r.new]at a1;cases a1
  have mA:bv≠D:=by rintro rfl;rw [r.new]at a3;cases a3
  have kV:Y (V.ref D)=cm B s.1:=by
   let⟨mC,be,C⟩:=gv ca (hI d0 (show(y.1,y.2)∈w from c2));have k0:(B.map (·.1)).Nodup:=by rw [yh ca];exact iD (λ_ _=>lP) d0
   rw [yF k0 c1,es]
  exists _,S,S,_,S,cf ⟨D,_,cn,trivial,λc8=>?_⟩;have c9:Lk K D a5 (upd a5 D (.bP c8 (dX m p D g))):=Lk.lock cn t6
  exists _,S,_,S,f,.ref D,S,⟨B,s.1,s.2.1,.inr ⟨cd,(ah cl.symm).trans fr⟩,λk1 k2=>c9.sq _ _ (ad.sq _ _ (r.ext.aP (d1 k1 k2))),S,c9.sq _ _ (by rw [eq];exact c6.aP fa),kV⟩,D,c8,g,S,M,λl bi=>?_;have bk:D≠l:=by rintro rfl;rw [M]at bi;cases bi
  have db:a5 l=O:=by rw [ah bk.symm]at bi;exact bi
  have k3:g.length=y.2.length:=by have:=bD cN ev;rwa [z,z]at this
  have mF:=hf y c2;have k5:∀{a4},Lk K D a5 a4->Lk K f H (upd a4 D (dX m p D g)):=λc3=>ad.on (c3.done cn)
  let W:VCx:=λh b=>A3 (∃e,b l=Y (.lst e)/\e.length=h/\cE (pC K b) e ((y.2.take h).map (fX a))) (b D=Y (.bP c8 (dX m p D g))) (Lk K D a5 b);refine ra (aX:=g) W ?_ ?_ ?_ ?_
  .exact⟨⟨[],M,S,.nil⟩,(ah bk).trans M,c9.put db (.inr bi)⟩
  .rintro h b _ ⟨_,x,_⟩;exact x
  .rintro h j b fs ⟨⟨e,bl,dd,bm⟩,bn,t⟩;have fT:(g.map (·.1))[h]?=Y j.1:=by rw [bh,fs];rfl
   rw [ev,bh]at fT;let⟨al,f0,la⟩:=cv.mp fT;have lb:ax K b j.2.1 (b4 al):=by have:=t.sq _ _ (ad.sq _ _ (r.ext.aP (h2 j (cG fs))));rw [<-la]at this;exact this
   have mG:=(cF.mp f0).1;have lc:pB b an a:=⟨dL,t.bt _ _ (ad.bt _ _ Q (cW Q R (by intro j;cases j))) (cW (ad.bt _ _ Q (cW Q R (by intro j;cases j))) cn (by intro j;cases j)),dT⟩
   have ld:(y.2.take (h+1)).map (fX a)=(y.2.take h).map (fX a)++[fX a al]:=by rw [dq,f0,aT];rfl
   exists S,?_;unfold hk;dsimp only [];rw [ai S];exists _,S,_,S,j.2.1,al,an,a,S,lb,lc,?_;dsimp only [W];rw [ld];cases mL:fX a al with
   |none=>
    have am:cX (b l)\/b l=O:=.inl (by rw [bl];exact trivial);exists e,bl,by lia,⟨e++[.bw],M,by rw [br,dd];rfl,fY (Paired.cb bm λ_ _ dx=>dx.sq λE bs=>bF am) (show pC K _ V.bw O from rfl)⟩,(ah bk).trans bn,t.put db am
   |some mM=>
    intro f1 f2 co le;have f4:=co _ _ bl
    have am:cX (f2 l)\/f2 l=O:=.inl (by rw [f4];exact trivial);exists e,f4,by lia,⟨e++[.ref f1],M,by rw [br,dd];rfl,fY (Paired.cb bm λ_ _ dx=>dx.sq λE bs x=>bF am (co.aP x)) ⟨f1,S,bF am le⟩⟩,(ah bk).trans (co _ _ bn),(t.on co).put db am
  .rintro b ⟨⟨e,bl,dd,bm⟩,bn,t⟩;rw [k3,dB]at bm;exists bn,?_;have f8:=k5 t
   have ga:∀E bs,ax K b E bs->ax K (upd b D (dX m p D g)) E bs:=λE bs=>ny λu F=>by rw [bn]at F;cases F;exact t7
   have lf:upd b D (dX m p D g) f=Y (.bP cd (dX m p f B)):=(ah cl.symm).trans (t.bt _ _ fr cl.symm);have ge:upd b D (dX m p D g) l=Y (.lst e):=(ah bk.symm).trans bl
   have gl:cE (pC K (upd b D (dX m p D g))) e (y.2.map (fX a)):=Paired.cb bm λ_ _ dx=>dx.sq ga;have li:ax K (upd b D (dX m p D g)) c5 (b4 dx):=ga _ _ (t.sq _ _ im)
   generalize upd b D (dX m p D g)=dl at*;exists _,S,_,S,l,S,⟨_,av.of ge⟩,λdp go=>?_;have lm:∀{o},Ext dl (upd dl dp o):=Ext.one go
   have ln:e.length=y.2.length:=by rw [bO gl,z]
   let W:VCx:=λh bt=>(∃k,bt dp=Y (.lst k)/\k.length=((y.2.map (fX a)).take h).countP λo=>o.any λG=>decide (G∈bd))/\Ext dl bt;refine hC (xs:=e) W ?_ ?_ ?_ ?_
   .exact⟨⟨[],M,S⟩,lm⟩
   .rintro h bt _ ⟨_,ds⟩;exact av.of (ds _ _ ge)
   .rintro h v bt lo ⟨⟨k,be,C⟩,ds⟩;let⟨o,cs,gt⟩:=eA gl lo;have cr:=f8.on ds
    have mN:k.length<=31:=by
     rw [C];refine cu T3 ?_;rw [dU,z]
     lia
    have g1:((y.2.map (fX a)).take (h+1)).countP (λo=>o.any λG=>decide (G∈bd))=((y.2.map (fX a)).take h).countP (λo=>o.any λG=>decide (G∈bd))+if(o.any λG=>decide (G∈bd))=I then 1 else 0:=by
     rw [dq,cs,Tx];congr 1;show Ht _ [o]=_
     rw [List.countP_singleton]
    exists S,_,S,_,S,_,S,bv,_,S,⟨is,pk dx,c5,cr.bt _ _ ix kP,jp.same cr.sq,S,ds.aP li,kk.symm⟩,c7,o.any (λG=>decide (G∈bd)),S,⟨it,cr.bt _ _ kp kw,ks.same cr.sq,?_⟩,_,S,?_
    .cases o with
     |none=>exact .inr ⟨gt,Qp fn io,S⟩
     |some al=>
      let⟨E,lp,ls⟩:=gt;exact .inl ⟨pk al,E,lp,ds.aP ls,by rw [kJ fn];rfl⟩
    .refine ec (λc=>?_) (λc=>?_)
     .refine⟨_,S,k,be,by lia,⟨k++[v],M,?_⟩,ds.upd go⟩;rw [g1,ai c,br,C];rfl
     .refine⟨⟨k,be,?_⟩,ds⟩;rw [g1,N c,C];rfl
   .rintro bt ⟨⟨k,be,C⟩,ds⟩;rw [ln,<-z (f:=fX a),dB]at C;have lt:jO a n y=k.length:=by
     unfold jO;rw [c4];dsimp only;rw [fl,C];rfl
    exists dp,_,S,.inl (av.of be),_,_,S,S,Y (.ref s.2.1),Y (.ref c5),Y (.ref l),a2,?_,ds _ _ lf,f8.on ds;rw [fd,lt];have:((hq a (w.take i) n:Nat):Int)+((k.length:Nat):Int)=((hq a (w.take i) n+k.length:Nat):Int):=by lia
    rw [<-this];rfl
 .rintro ce X ⟨ct,c0,ch,a2,rfl,ci,ab⟩;rw [h1,dB];exists ci,_,S,hm _ (ab.done R)
abbrev Fs:a7:=top 82
def chg(z A D:Ex):Vacfaf.Changes:=k6 (e0 z A (ag D)) (d8 z) (d8 A)
inductive Ft (K:af) (D M:Z) (N:List V) (H:U) (S:VK) (T:XK):Prop
 |mk(po pn e f x y:_)(_:N=[.ref po,.ref pn,.int (ag x:Nat)])(_:cg K D M H po e)(_:cg K D M H pn f)(_:x∈aG e)(_:size f+size x=size e+size y)(_:aW 0 f=aW 0 (cQ (ag x) y e))(_:∀z A,Ext H A->H z=O->A z=Y (.lst ([(chg e f x).kept,(chg e f x).gone,(chg e f x).came].map λn:Nat=>V.int (n:Nat)))->S (.ref z) A)
def Qu(a1:a9 K "kept_gone_and_new" "kept_gone_and_new" Fs d o0)(E:g_ 5 "least_table" ["program"] (tU m p K q Q))(a2:g_ 3 "how_many_kept" ["old_table","new_table","moved"] (Fq m p K))(a3:g_ 1 "moved_labels" ["old","new","label"] (Fo K q Q)) (F:g_ 1 "how_many_facts" ["table"] (yu m p K)):f_ 6 d o0 ["old","new","label"] (Ft K q Q):=by
 refine a1.go ["old","new","label","old_table","new_table","kept"] λc1 c2 c3 c4 H c5 c6 c7 g a4 o _ _=>?_;let⟨N,w,b,d,c,y,rfl,n,C,r,a5,R,bd⟩:=a4;have s:=g.mo 1
 exists _,ar (bj 3 o (bI E g (aJ 0))) (ar (bj 4 o (bI E g (aJ 1))) (ar (bj 5 o (bI a2 (g.mo 3) (A (T 3) (A (T 4) (A (bI a3 s (A (T 0) (A (T 1) (aJ 2)))) aC))))) (ay (aQ (de (A (T 5) (A (hg vF (bI F s (aJ 3)) (T 5)) (A (hg vF (bI F s (aJ 4)) (T 5)) aC)))))))),?_;have U:=n.ok
 have G:=C.ok;exists _,S,N,b,S,n,λV be h e a=>?_;exists _,S,w,d,S,C.ext e.ext,λW c8 i j k=>?_;have X:=e.ext.trans j.ext
 exists _,S,_,S,_,S,_,S,_,S,N,w,b,d,c,y,S,n.ext X,C.ext X,r,a5,λbi c9 t bk=>?_;have db:h.length<=90:=by
  have:=bD cN a.keys;rw [z,z]at this;have bl:=places_len b
  have bm:=U.bL
  lia
 have dd:i.length<=90:=by
  have:=bD cN k.keys;rw [z,z]at this;have bl:=places_len d
  have bm:=G.bL
  lia
 exists V,W,bi,be,h,i,_,S,e.at,j.on t,bk,a.nodup U,λl B=>(a.len U (hI (a.nodup U) (show(l.1,l.2)∈h from B))).1,λl B dl ab=>?_,λdp ad=>?_
 .obtain⟨al,am,bn⟩:=a.key (dY (f:=(·.1)) B);let⟨u,bs,bt,_⟩:=pa U am;have bv:fj (gA b d c) l.1=fj (eu (e0 b d (ag c))) (D al):=by
   unfold fj;rw [bn,show gA b d c (D al).2=_ from ai (bt▸U.lt bs)]
  rw [bv,xx]at ab;let⟨ca,cd,rfl⟩:=cv.mp ab;let⟨ce,ch,_,ci,_⟩:=k.row ca (E6 U r G R am cd);exact⟨ce,ch,λv cl=>by let⟨ds,cn,rfl⟩:=ci v cl;exact yr G cn⟩
 .obtain⟨co,cr,cs⟩:=P6 U r G R a k;have an:=j.ext.trans (t.trans ad)
  exists _,S,_,S,V,h,S,e.at.ext an,a.nodup U,by lia,λdx ap=>⟨_,S,_,_,S,S,?_⟩;exists _,S,W,i,S,j.at.ext ((t.trans ad).trans ap),k.nodup G,by lia,λdK ct=>⟨_,S,_,_,S,S,(by show 3<=aU;decide),λc0 as=>?_⟩;have a0:=e.ext.trans (an.trans (ap.trans ct))
  refine bd c0 _ (a0.new as) (a0.none as) ?_;rw [M,Qr (f:=d) (x:=c) (new:=i) U a]
  skip
  rw [cr,cs,co];rfl
def rn(z:List Pr):(ct z).length=2*z.length+1:=by
 unfold ct;rw [dn];congr 1;induction z with
 |nil=>rfl
 |cons a b c=>rw [b3,br,c];show 2+_=2*(b.length+1);lia
def nI(z:List Nat):List Int:=z.map zS
variable{wp:Int}{Wr:Nat->mh}
theorem Fu(G:0<=wp/\wp<4):z1 wp Wr=Wr wp.toNat:=N (by rintro(D|D);lia;exact absurd D (by show¬(4:Int)<=wp;lia))
theorem Fv(D:¬(0<=wp/\wp<4)):z1 wp Wr=.error 2:=ai (by by_cases c:wp<0;exact .inl c;exact .inr (show(4:Int)<=wp by lia))
variable{Da:nZ}
def pD(D:bG Da.prog)(U:0<=wp/\wp<(size Da.prog:Int)):∃A∈aG Da.prog,wp=(ag A:Nat)/\∀G,rY Da wp G=G A:=by let⟨A,M,T⟩:=D.node (l:=wp.toNat) (by lia);exists A,M,by lia,λG=>?_;unfold rY;rw [N (by lia),D.cY.nodeAt,<-T,D.cY.get M];rfl
def pF(A:bG Da.prog){D:ae->mh}(G:¬(0<=wp/\wp<(size Da.prog:Int))):rY Da wp D=.error 3:=by
 unfold rY;by_cases c:wp<0
 .rw [ai c]
 .rw [N c,A.cY.nodeAt,GG (by show size Da.prog<=_;lia)];rfl
variable{sB At:Type}
theorem Fw{G M:sB->List At}:∀{A:List sB},(∀z∈A,G z=M z)->A.flatMap G=A.flatMap M
 |[],_=>rfl
 |a::c,b=>by rw [b3,b3,b a bE,Fw λz T=>b z (bC _ T)]
def Qv(z:List Info)(c:Fm->Bool):(cz z c).length<=z.length:=by grind [cz]
section
variable {e:ae} (G:bG e)
include G
def Fx(A:Nat){z:ae}(D:z∈aG e):nI (Hr (nQ (me e A) (b5 z)))=ct (((bp e).filter (gq e A (.node (ag z)))).map a6):=by unfold nI;rw [told_set,tm];unfold b5;rw [wM G.cY.places _ (gk D)]
def Fy(M:Nat):nI ((rS e (me e M)).length::(rS e (me e M)).flatMap λA=>[A.site,A.fn])=ct (hJ (infos O e) λc=>eU (((bp e).filter (gq e M (.node c))).map a6)):=by
 have N:∀D:List Tw,nI (D.length::D.flatMap λA=>[A.site,A.fn])=ct (D.map λA=>((A.site,A.fn):Pr)):=by
  intro D;unfold nI ct;rw [aZ,z];congr 1;induction D with
  |nil=>rfl
  |cons A M a=>rw [b3,aT,a];rfl
 rw [N,tm,CS G]
def Qw(z:Nat):(hJ (infos O e) λc=>eU (((bp e).filter (gq e z (.node c))).map a6)).length=(rS e (me e z)).length:=by grind [tm,CS]
def Fz{M:aA->cw->Bool}{z:Tb}(T:bM e z (gr e M)):(hJ (infos O e) λc=>eU (((bp e).map a6).filter λA=>decide (A∈(ba z (0,c)).getD [])))=hJ (infos O e) λc=>eU (((bp e).filter (M (.node c))).map a6):=by
 unfold hJ;refine Fw λU d=>?_;let⟨A,N,f,D⟩:=(tD G _).mp d
 have D:=d6 D;cases A with
 |app g b a=>
  have h:dG (infos O e) U=ag b:=f▸G.part N (r:=[a]) S;let⟨i,j,k,_⟩:=xr G T (show G9 (ag b)∈aq e from jK N (by simp [kids]))
  rw [h];dsimp only;rw [show ba z (0,ag b)=Y i from j,zP,k]
 |var g y=>grind [aB]
 |_=>cases D
theorem FA{D:Pred}{A:Tb}(M:bM e A D):∀c,c<size e->∃z,ba A (0,c)=Y z:=λc N=>by
 let⟨a,T,rfl⟩:=G.node N;let⟨z,U,_⟩:=M.row _ (gk T)
 exists z,U
def Qx(A:Nat->List Nat)(N:∀c,(A c).length<=31):(hJ (infos O e) A).length<=930:=by
 unfold hJ;have S:(cz (infos O e) λD=>decide (D=.call)).length<=30:=by have:=Qv (infos O e) λD=>decide (D=.call);rw [eT]at this;exact cu this G.bL
 have T:∀z:List Nat,(z.flatMap λz=>(A (dG (infos O e) z)).map λM=>((z,M):Pr)).length<=z.length*31:=by
  intro z;induction z with
  |nil=>grind
  |cons a b d=>
   grind
 grind
end
set_option tactic.hygienic true
variable{B:Nat}
def Qy{c:k7}(z:fF Da c=.error B):B=1\/B=2\/B=3\/B=4\/B=5:=by
 have N:∀{T:Type} {U:Option T} {a:Nat} {D:T->mh},Vacfaf.given U a D=.error B->B=a\/∃y,D y=.error B:=λ{T U a D} z=>by
  cases U with
  |none=>cases z;exact .inl S
  |some y=>exact .inr ⟨y,z⟩
 have M:∀{G:Int} {D:ae->mh},rY Da G D=.error B->B=3\/∃y,D y=.error B:=λ{G D} z=>by
  unfold rY at z;split at z
  .cases z;exact .inl S
  .exact N z
 have d:∀{G:Int} {D:Nat->mh},z1 G D=.error B->B=2\/∃y,D y=.error B:=λ{G D} z=>by
  unfold z1 at z;split at z
  .cases z;exact .inl S
  .exact .inr ⟨_,z⟩
 unfold fF at z;cases c<;>dsimp only at z
 case program e=>rcases N z with z|⟨y,z⟩;cutsat;cases z
 case set k G=>rcases d z with z|⟨y,z⟩;cutsat;rcases M z with z|⟨y,z⟩;cutsat;cases z
 case arrows k=>rcases d z with z|⟨y,z⟩;cutsat;cases z
 case class_ G=>rcases M z with z|⟨y,z⟩;cutsat;cases z
 case ask G=>rcases M z with z|⟨y,z⟩;cutsat;cases z
 case funs G=>rcases M z with z|⟨y,z⟩;cutsat;cases y<;>cases z<;>cutsat
 case looked G=>rcases M z with z|⟨y,z⟩;cutsat;cases z
 case change G e=>rcases M z with z|⟨y,z⟩;cutsat;rcases N z with z|⟨y,z⟩;cutsat;cases z
 case undo=>split at z<;>cases z;cutsat
 all_goals cases z
set_option tactic.hygienic false
abbrev eg(i:Nat):a7:=inClass (top 104) i
structure g0(K:af)(z:Z):Prop where
 cl:fc K z
 program:dF K z "program"
 kept:dF K z "kept"
def dc(z lk:Z):List (aa×V):=[("program",.ref z),("kept",.ref lk)]
def hN(z:List Nat):List V:=z.map λA=>V.int (A:Nat)
def t9(z:List Nat):hN z=(nI z).map V.int:=by unfold hN nI;rw [d7];rfl
structure eG(K:af)(M A D:Z)(H:U)(a:Z)(z:nZ):Prop where
 ex:X4 λN p lk G=>A5 (H a=Y (.ins M N (dc p lk))) (cg K A D H p z.prog) (H lk=Y (.lst (G.map V.ref))) (cE (cg K A D H) G z.past) (z.past.length<=8)
variable{H:U}
def eG.ext(z:Ext H r)(A:eG K d q Q H pi Da):eG K d q Q r pi Da:=by let⟨D,M,lk,N,S,T,U,b,c⟩:=A.ex;exists D,M,lk,N,z _ _ S,T.ext z,z _ _ U,Paired.cb b λ_ _ C=>C.ext z,c
variable{FS:List (aa×V)}{s2 v4 a:Z}
def eG.but(z:bN d H r)(D:H d=Y (.ins s2 v4 FS))(N:FS.length<5)(b:a≠d)(c:eG K q Q pi H a Da):eG K q Q pi r a Da:=by let⟨A,e,lk,f,g,h,S,i,j⟩:=c.ex;exists A,e,lk,f,z _ _ g b,h.but z D N,z _ _ S (cW S D (by intro k;cases k)),Paired.cb i λ_ _ l=>l.but z D N,j
def f6(K:af)(CL C CN:Z)(A:Nat->Z)(H:U)(a:Z)(D:VK)(M:XK):mh->Prop
 |.ok (c,b)=>∀z r,bN a H r->eG K CL C CN r a c->r z=Y (.lst (hN b))->b.length<=5000->D (.ref z) r
 |.error n=>∀r,Ext H r->M (.ref (A n)) O r
variable{IR:VK}{wv:Nat->Z}{Ch:XK}
theorem f6.tell{l:List Nat}(S:f6 K q Q pi wv H s2 IR Ch (Vacfaf.tell Da l))(T:eG K q Q pi H s2 Da)(D:Ext H r)(U:l.length<=5000)(b:r d=Y (.lst ((nI l).map V.int))):IR (.ref d) r:=
 S d r D.but (T.ext D) (by rwa [t9]) U
inductive jU (K:af) (q Q pi:Z) (z:Nat->Z) (c:k7) (A:List V) (H:U) (D:VK) (M:XK):Prop
 |mk(d Da:_)(_:A=[.ref d])(_:eG K q Q pi H d Da)(_:f6 K q Q pi z H d D M (fF Da c))
inductive jV (K:af) (q Q pi:Z) (A:Nat->Z) (c:Int->k7) (D:List V) (H:U) (M:VK) (N:XK):Prop
 |mk(d Da z:_)(_:D=[.ref d,.int z])(_:eG K q Q pi H d Da)(_:f6 K q Q pi A H d M N (fF Da (c z)))
inductive FC (K:af) (q Q pi:Z) (A:Nat->Z) (c:Int->Int->k7) (D:List V) (H:U) (M:VK) (N:XK):Prop
 |mk(d Da y z:_)(_:D=[.ref d,.int y,.int z])(_:eG K q Q pi H d Da)(_:f6 K q Q pi A H d M N (fF Da (c y z)))
inductive nA (K:af) (q Q pi A:Z) (D:List V) (H:U) (M:VK) (N:XK):Prop
 |mk(d Da:_)(z:Int)(_:D=[.ref d,.int z])(_:eG K q Q pi H d Da)(_:(0<=z/\z<(size Da.prog:Int)->M .bw H))(_:(¬(0<=z/\z<(size Da.prog:Int))->N (.ref A) O H))
def Qz(G:a9 K "check_node" "Ladder.check_node" (eg 14) pi o0)(N:g0 K q)(e:L "NoNode"=Y (.ref d))(f:gP K d fU "Exception.__new__"=I)(g:h_ 1 Q "has_node" ["self","label"] (Ed K Q s2)):k_ 2 pi o0 ["self","label"] (nA K q Q s2 d):=by
 refine G.ew ["self","label"] λs D r t H u v x T h _ _ _=>?_;let⟨v4,Da,A,rfl,i,j,k⟩:=h;exists _,ay (bK (r7 (kn (eL (E:=E0) (aF 0) g T cx (aJ 1)))) (ay (jH j8 (by decide) f S e T.hd)) bQ),?_;dsimp;let⟨l,U,lk,y,C,b,_⟩:=i.ex;let⟨n,B,z,w,R,V,o,_⟩:=b.ex;exists _,S,v4,q,l,_,_,S,C,N.cl,N.program,S,U,n,_,S,o,S,_,S,U,Da.prog,A,S,b,_,S,?_;by_cases c:0<=A/\A<(size Da.prog:Int)
 .rw [cq c];exact b1 (j c)
 .rw [bU c];exact cf (k c)
def QA{Xn:Nat->Z}{c:bc}(n:a9 K "tell_text" "Ladder.tell_text" (eg 2) pi c)(D:g0 K d)(N:eE K q s2)(w:L "len"=O):k_ 1 pi c ["self"] (jU K d q s2 Xn .show_):=by
 refine n.ew ["self"] λv x y B H E F C s G _ _ sz=>?_;let⟨Q,Da,rfl,a,r⟩:=G;exists _,ay (aQ (hg lu (de (A (cR el (by rfl) w dE (A (fP (aF 0) S) aC)) aC)) (fP (aF 0) S))),?_;dsimp;let⟨e,f,lk,R,g,U,_⟩:=a.ex;let⟨h,i,V,W,X,ab,j,k,_⟩:=U.ex;have ad:=E5 _ U.ok.told
 have al:=U.ok.bL;have l:(cJ (bq Da.prog)).length=(bq Da.prog).length:=z _
 exists _,S,Q,d,e,_,_,S,g,D.cl,D.program,S,f,q,h,_,_,S,j,N.p.c,N.text,S,i,_,S,.inl (av.of k),eN,λb t=>?_;have T:∀{o},Ext H (upd H b o):=Ext.one t
 exists _,S,Q,d,e,_,_,S,T _ _ g,D.cl,D.program,S,f,q,h,_,_,S,T _ _ j,N.p.c,N.text,S,b,i,_,_,S,S,M,T _ _ k,by rw [l];show 1+_<=_;lia,λam u=>?_;refine f6.tell r a (T.new u) ?_ ?_
 .show((bq Da.prog).map _).length+1<=_;rw [z]
  lia
 .rw [M,l];unfold nI Vacfaa.toldText cJ;rw [aZ,aZ,d7,d7];rfl
variable{wS:dD}
def QB{Xn:Nat->Z}(B:a9 K "tell_set" "Ladder.tell_set" (eg 3) s2 o0)(b:g0 K d)(F:L "NODE_PLACE"=Y (.int 0 wS))(w:q_ 1 "check_rung" ["rung"] (yN (Xn 2)))(G:r_ 2 d "check_node" ["self","label"] (nA K d Q pi (Xn 3)))(R:g_ 7 "table_of_rung" ["program","rung"] (t4 m p K Q pi)) (V:g_ 1 "sorts_at" ["program","table","place"] (tJ m p K Q)) (W:g_ 1 "counted_twos" ["twos"] (pA K)):k_ 8 s2 o0 ["self","rung","label"] (FC K d Q pi Xn .set):=by
 refine B.ew ["self","rung","label","table"] λbn bs bt bv H ca cd ce f X ab _ _=>?_;let⟨q,Da,y,ad,rfl,g,D⟩:=X;have h:=f.mo 1
 exists _,ar (cM (gI w h dw (aJ 1))) (ar (cM (eL (T 0) G (f.mo 2) dw (aJ 2))) (ar (bj 3 ab (bI R f (A (aF 0) (aJ 1)))) (ay (aQ (bI W h (A (bI V h (A (aF 0) (A (T 3) (A (b6 (A (b7 F) (aJ 2))) aC)))) aC)))))),?_;let⟨i,C,lk,ch,j,k,_⟩:=g.ex;have U:=k.ok
 have ci:=U.bL;exists _,S,y,S,?_;unfold fF at D;dsimp only at D;by_cases c:0<=y/\y<4
 .rw [ai c];rw [Fu c]at D;exists _,S,q,i,_,S,j,S,_,S,q,Da,ad,S,g,λl=>?_,λl=>?_
  .obtain⟨r,a,al,am⟩:=pD U l;rw [am]at D;have an:y=((y.toNat:Nat):Int):=by lia
   exists _,S,q,d,i,_,_,S,j,b.cl,b.program,S,_,S,C,Da.prog,y.toNat,by rw [<-an];rfl,k,λap t as s a0=>?_;let⟨a1,cl,cn,co,a2,cr,a3,_,_,_,a4,_⟩:=(k.ext s.ext).ex;let⟨a5,bd,be,cs⟩:=xr U a0 (gk a);exists _,S,q,d,i,_,_,S,s.ext _ _ j,b.cl,b.program,S,_,S,_,S,cD,λu bi=>?_;have e:∀{o},Ext t (upd t u o):=Ext.one bi
   have ct:=lK Da.prog;exists C,ap,u,a2,_,as,(0,ag r),a5,S,⟨a1,_,e _ _ a3,S⟩,a4.ext e,by rw [z];lia,s.at.ext e,al▸ax.of M,bd,λbk c0 bl c1 v _=>?_;rw [be]at v;have c2:(((bp Da.prog).filter (gq Da.prog y.toNat (.node (ag r)))).map a6).length<=31:=by rw [z];exact cu (iX _ _) (by lia)
   exists bk,_,S,v,by lia,λc3 c4 bm c5 x=>?_;rw [<-Fx U y.toNat a]at x;refine f6.tell D g (((s.ext.trans e).trans bl).trans bm) ?_ x;have:=bD cN (Fx U y.toNat a)
   unfold nI at this;rw [z,rn]at this
   lia
  .rw [pF U l]at D;exact D H (Ext.refl H)
 .rw [N c];rw [Fv c]at D;exact D H (Ext.refl H)
def QC(D:bG pc)(M:Pl->cw->Bool)(c:Nat):(eU (((bp pc).filter (M (.node c))).map a6)).length<=31:=by
 have N:=lK pc;have S:=D.bL
 unfold eU;refine cu (iU _ _) ?_;rw [z];exact cu (iX _ _) (by lia)
variable{Xn:Nat->Z}
def QD(r:a9 K "tell_arrows" "Ladder.tell_arrows" (eg 4) pi o0)(U:g0 K d)(s:q_ 1 "check_rung" ["rung"] (yN (Xn 2)))(t:g_ 7 "table_of_rung" ["program","rung"] (t4 m p K q Q)) (u:g_ 3 "arrows_of" ["program","table"] (yw m p K q Q)) (v:g_ 1 "counted_twos" ["twos"] (pA K)):k_ 8 pi o0 ["self","rung"] (jV K d q Q Xn .arrows):=by
 refine r.ew ["self","rung"] λV W X ab H ad al am a x an _ _=>?_;let⟨g,D,y,rfl,h,M⟩:=x;have i:=a.mo 1
 have j:=a.mo 3;exists _,ar (cM (gI s i dw (aJ 1))) (ay (aQ (bI v i (A (bI u j (A (aF 0) (A (bI t a (A (aF 0) (aJ 1))) aC))) aC)))),?_;let⟨k,l,lk,ap,e,b,_⟩:=h.ex;have T:=b.ok
 exists _,S,y,S,?_;unfold fF at M;dsimp only at M;by_cases c:0<=y/\y<4
 .rw [ai c];rw [Fu c]at M;have B:y=((y.toNat:Nat):Int):=by lia
  exists _,S,g,d,k,_,_,S,e,U.cl,U.program,S,_,S,g,d,k,_,_,S,e,U.cl,U.program,S,_,S,l,D.prog,y.toNat,by rw [<-B];rfl,b,λE as n C o=>?_;exists l,D.prog,E,n,S,b.ext C.ext,C.at,FA T o,λF a0 w a1 f=>?_;have G:(hJ (infos O D.prog) λc=>eU (hr D.prog ((ba n (0,c)).getD [])))=hJ (infos O D.prog) λc=>eU (((bp D.prog).filter (gq D.prog y.toNat (.node c))).map a6):=Fz T o
  rw [G]at f;have a2:=Qx T _ (QC T (gq D.prog y.toNat))
  exists F,_,S,f,by lia,λj a3 R a4 CL=>?_;rw [<-Fy T y.toNat]at CL;refine f6.tell M h ((C.ext.trans w).trans R) ?_ CL;have:=bD cN (Fy T y.toNat)
  unfold nI at this;rw [z,rn]at this
  lia
 .rw [N c];rw [Fv c]at M;exact M H (Ext.refl H)
def QE(B:a9 K "tell_class" "Ladder.tell_class" (eg 6) pi o0)(b:g0 K d)(F:L "NODE_PLACE"=Y (.int 0 wS))(w:r_ 2 d "check_node" ["self","label"] (nA K d q Q (Xn 3)))(G:g_ 5 "last_classes" ["program"] (t2 m p K q Q)) (R:g_ 1 "members" ["program","classes","place"] (yH m p K q Q)) (V:g_ 1 "counted_twos" ["twos"] (pA K)):k_ 6 pi o0 ["self","label"] (jV K d q Q Xn .class_):=by
 refine B.ew ["self","label"] λa5 bd be bi H bk bl bm e W _ _ _=>?_;let⟨c,N,X,rfl,f,U⟩:=W;have n:=e.mo 1
 exists _,ar (cM (eL (T 0) w (e.mo 2) dw (aJ 1))) (ay (aQ (bI V n (A (bI R n (A (aF 0) (A (bI G e (A (aF 0) aC)) (A (b6 (A (b7 F) (aJ 1))) aC)))) aC)))),?_;let⟨g,E,lk,bn,h,i,_⟩:=f.ex;have a:=i.ok
 unfold fF at U;dsimp only at U;exists _,S,c,g,_,S,h,S,_,S,c,N,X,S,f,λj=>?_,λj=>?_
 .obtain⟨C,ab,ad,al⟩:=pD a j;rw [al]at U;have k:b5 C∈aq N.prog:=gk ab
  exists _,S,c,d,g,_,_,S,h,b.cl,b.program,S,_,S,c,d,g,_,_,S,h,b.cl,b.program,S,E,N.prog,S,i,λam r an s bs ap t u=>?_;exists _,S,cD,λv as=>?_;have l:∀{o},Ext r (upd r v o):=Ext.one as
  exists E,N.prog,am,an,v,b5 C,S,i.ext (s.trans l),ap.ext l,k,ad▸ax.of M,λa0 bt a1 bv ⟨a2,a3,x⟩=>?_;rw [xv a t u k]at x;have ca:((cH (ha N.prog) (b5 C)).map D).length<=90:=by
   rw [<-xv a t u k,z];have:=places_len N.prog
   have:=a.bL;exact cu (iX _ _) (by lia)
  exists a0,_,S,⟨a2,av.of a3,x⟩,by lia,λcd ce a4 ch y=>?_;rw [<-tq]at y;refine f6.tell U f (((s.trans l).trans a1).trans a4) ?_ y;have:=bD cN (tq (cH (ha N.prog) (b5 C)))
  rw [z,rn]at this
  lia
 .rw [pF a j]at U;exact U H (Ext.refl H)
def QF(r:a9 K "tell_classes" "Ladder.tell_classes" (eg 7) pi o0)(U:g0 K d)(s:L "len"=O)(t:L "max"=O)(u:g_ 5 "last_classes" ["program"] (t2 m p K q Q)) (v:g_ 2 "class_sizes" ["program","classes"] (EG m p K q Q)):k_ 6 pi o0 ["self"] (jU K d q Q Xn .classes):=by
 refine r.ew ["self","sizes"] λan ap as a0 H a1 a2 a3 i x B _ _=>?_;let⟨j,N,rfl,k,a⟩:=x;exists _,ar (bj 1 B (bI v (i.mo 2) (A (aF 0) (A (bI u i (A (aF 0) aC)) aC)))) (ay (aQ (de (A (cR el (by rfl) s dE (aJ 1)) (A (cR (JW S) (by rfl) t (by decide+kernel) (aJ 1)) aC))))),?_;let⟨l,D,lk,a4,g,b,_⟩:=k.ex;unfold fF at a;dsimp only at a;exists _,S,j,d,l,_,_,S,g,U.cl,U.program,S,_,S,j,d,l,_,_,S,g,U.cl,U.program,S,D,N.prog,S,b,λE a5 T n bd F C w=>?_;exists D,N.prog,E,T,S,b.ext n,F,λo be G bi h=>?_;have e:=Nq b.ok C w
 have CL:=gk (gW N.prog);have bk:=List.length_pos_of_mem (dY (f:=λD=>((aq N.prog).filter λf=>decide (T f=T D)).length) (dz.mpr ⟨C.hK _ CL,cq (C.rep _ CL)⟩:_∈(aq N.prog).filter λD=>decide (T D=D)))
 generalize ((aq N.prog).filter λD=>decide (T D=D)).map (λD=>((aq N.prog).filter λf=>decide (T f=T D)).length)=sz at*;have R:sz.length=(ha N.prog).length:=by rw [e.length_eq,z]
 exists _,S,o,_,S,.inl (av.of h),_,S,o,nI sz,S,av.of (by rw [h];show Y (HO.lst (hN sz))=_;rw [t9]),by unfold nI;rwa [z],λbl V W=>⟨cD,λbm X=>?_⟩;let⟨ab,ad,rfl⟩:=bH.mp V;have al:((ha N.prog).map λc=>c.length).foldl max 0=ab:=by
  refine MN (e.mem_iff.mp ad) λy am=>?_;have:=W (zS y) (dY (e.mem_iff.mpr am))
  exact Int.ofNat_le.mp this
 rw [al]at a;refine f6.tell a k ((n.trans G).new X) (by show 2<=5000;decide) ?_;rw [M,z,R];rfl
def QG(M:bG pc)(S:bM pc or wr):or.length<=90:=by
 have:=bD cN S.keys;rw [z,z]at this;have T:=places_len pc
 have U:=M.bL
 lia
def FD(z:Ex)(A:Nat):List Nat:=[(me z A).length,(rS z (me z A)).length]
def jo(z:Ex)(i:Nat):List Nat:=(eX i).flatMap (FD z)
def FE(z:Ex)(i:Nat):jo z (i+1)=jo z i++FD z i:=by unfold jo;rw [qe,k4];congr 1
def FF(z:Ex)(i:Nat):(jo z i).length=2*i:=by
 induction i with
 |zero=>rfl
 |succ i a=>rw [FE,br,a];show _+2=_;lia
def QH(a2:a9 K "tell_counts" "Ladder.tell_counts" (eg 5) s2 o0)(k:g0 K q)(a3:L "len"=O)(a4:L "RUNGS"=Y (.ref d))(ab:∀H,ax K H d [.int 0,.int 1,.int 2,.int 3])(a5:g_ 7 "table_of_rung" ["program","rung"] (t4 m p K Q pi)) (bd:g_ 3 "arrows_of" ["program","table"] (yw m p K Q pi)) (be:g_ 1 "how_many_facts" ["table"] (yu m p K)):k_ 8 s2 o0 ["self"] (jU K q Q pi Xn .counts):=by
 refine a2.ew ["self","counts","rung","table"] λcd ce ch ci H cl cn co r bi s _ sz=>?_;let⟨t,D,rfl,ad,u⟩:=bi;exists _,ar (bj 1 s (de aC)) (ar (d3 z0 S (IF (ek (v:=.ref d) S a4 S)) (bX 2 s) (ar (bj 3 s (bI a5 r (A (aF 0) (aJ 2)))) (ar (cM (fe fu f9 gF fQ (T 1) (A (bI be (r.mo 1) (aJ 3)) aC))) (ay (cM (fe fu f9 gF fQ (T 1) (A (cR el (by rfl) a3 dE (A (bI bd (r.mo 3) (A (aF 0) (aJ 3))) aC)) aC))))))) (ay (aQ (T 1)))),?_;let⟨al,am,lk,cr,an,x,_⟩:=ad.ex;have e:=x.ok
 unfold fF at u;dsimp only at u;exists cP _,λN y=>?_;have bk:∀{o},Ext H (upd H N o):=Ext.one y
 exists d,S,⟨_,ab _⟩,?_;let bl:VLx:=λi C f=>X2 λB E=>A3 (C=[Y (.ref t),Y (.ref N),B,E]) (f N=Y (.lst (hN (jo D.prog i)))) (Ext H f)
 refine IL (xs:=[.int 0,.int 1,.int 2,.int 3]) bl ?_ ?_ ?_ ?_
 .exact⟨O,O,S,M,bk⟩
 .rintro i C f _ _;exact ab _
 .rintro i v C f j ⟨B,E,rfl,n,g⟩;have bm:i<4/\v=.int (i:Nat):=by
   match i,j with
   |0,j=>exists by decide,(aS j).symm
   |1,j=>exists by decide,(aS j).symm
   |2,j=>exists by decide,(aS j).symm
   |3,j=>exists by decide,(aS j).symm
  let⟨cs,rfl⟩:=bm;exists _,S,t,q,al,_,_,S,g _ _ an,k.cl,k.program,S,_,S,am,D.prog,i,S,x.ext g,λw ct a W h=>?_;have ap:=W.ext _ _ n
  have c0:=FF D.prog i;have bn:ez a=(me D.prog i).length:=by rw [tm];exact xt e h
  exists _,S,.inl ⟨S,_,av.of ap⟩,_,S,w,a,S,W.at,h.nodup e,by have:=QG e h;lia,λX G=>?_;exists N,_,_,S,S,G _ _ ap,by unfold hN;rw [z];lia,?_;have R:Ext H (upd X N (.lst (hN (jo D.prog i)++[.int (ez a:Nat)]))):=((g.trans W.ext).trans G).upd y
  have bs:TabAt m p K (upd X N (.lst (hN (jo D.prog i)++[.int (ez a:Nat)]))) w a:=((W.on G).both (b:=N) (.inl ⟨_,n,λ_=>⟨(λV=>by cases V),λ_ V=>by cases V⟩⟩)).at
  have as:upd X N (.lst (hN (jo D.prog i)++[.int (ez a:Nat)])) N=Y (.lst (hN (jo D.prog i)++[.int (ez a:Nat)])):=M;generalize upd X N (.lst (hN (jo D.prog i)++[.int (ez a:Nat)]))=c1 at*;exists _,S,.inl ⟨S,_,av.of as⟩,_,S,t,q,al,_,_,S,R _ _ an,k.cl,k.program,S,_,S,am,D.prog,w,a,S,x.ext R,bs,FA e h,λbt c2 a0 c3 ⟨c4,bv,a1⟩=>?_;have ca:(hJ (infos O D.prog) λc=>eU (hr D.prog ((ba a (0,c)).getD [])))=hJ (infos O D.prog) λc=>eU (((bp D.prog).filter (gq D.prog i (.node c))).map a6):=Fz e h
  rw [ca]at a1;exists bt,_,S,.inl bv,N,_,_,S,S,a0 _ _ as,by rw [br];unfold hN;rw [z];show _+1<_;lia,_,_,S,?_,(R.trans a0).upd y;rw [M,FE,z,bO a1,Qw e i,bn];unfold hN;rw [aT,ck];rfl
 .rintro C f ⟨B,E,rfl,n,g⟩;exists _,S,?_;exact f6.tell (l:=jo D.prog 4) u ad g (by rw [FF];decide) (by rw [<-t9];exact n)
def QI(j:a9 K "tell_size" "Ladder.tell_size" (eg 13) Q o0)(N:g0 K q)(D:eE K d pi)(T:L "len"=O):k_ 1 Q o0 ["self"] (jU K q d pi Xn .size):=by
 refine j.ew ["self","program"] λe R V W H X ab ad al k l _ _=>?_;let⟨f,w,rfl,g,U⟩:=k;exists _,ar (bj 1 l (aF 0)) (ay (aQ (de (A (cR el (by rfl) T dE (A (aF 1) aC)) (A (cR el (by rfl) T dE (A (aF 1) aC)) (A (cR el (by rfl) T dE (A (aF 1) aC)) (A (cR el (by rfl) T dE (A (aF 0) aC)) aC))))))),?_;let⟨h,a,lk,am,i,n,o,G,_⟩:=g.ex;let⟨b,an,CL,ap,r,s,c,_,⟨t,u,_,v,_⟩,_,⟨as,x,y⟩,a0,B,E⟩:=n.ex;unfold fF at U;dsimp only at U;exists _,S,f,q,h,_,_,S,i,N.cl,N.program,S,?_;exists _,S,a,d,b,_,_,S,c,D.p.c,D.p.nodes,S,CL,_,S,.inl (av.of u),_,S,a,d,b,_,_,S,c,D.p.c,D.p.places,S,s,_,S,.inl B,_,S,a,d,b,_,_,S,c,D.p.c,D.p.sorts,S,r,_,S,.inl x,_,S,f,q,h,_,_,S,i,N.cl,N.kept,S,lk,_,S,.inl (av.of o),(by show 4<=aU;decide),λa1 F=>?_;refine f6.tell U g (Ext.one F) (by show 4<=5000;decide) ?_;have C:t.length=(bJ w.prog).length:=by have:=bD cN v;rw [z,eT]at this;rw [this,gX]
 rw [M,z,z,z,z,C,bO E,bO y,bO G,z,z];rfl
def QJ(ad:a9 K "tell_asked" "Ladder.tell_asked" (eg 8) s2 o0)(c:g0 K d)(C:kN K Q)(al:L "len"=O)(an:L "NODE_PLACE"=Y (.int 0 wS))(ap:r_ 2 d "check_node" ["self","label"] (nA K d q pi (Xn 3)))(as:g_ 6 "ask_alone" ["program","place"] (t8 m p K Q q pi)) (a0:g_ 1 "sorts_at" ["program","table","place"] (tJ m p K q)) (a1:g_ 1 "counted_twos" ["twos"] (pA K)):k_ 7 s2 o0 ["self","label"] (jV K d q pi Xn .ask):=by
 refine ad.ew ["self","label","place","asked"] λc5 c6 c7 c8 H c9 db dd g a2 t _ sz=>?_;let⟨e,U,h,rfl,i,N⟩:=a2;have u:=g.mo 1
 exists _,ar (cM (eL (T 0) ap (g.mo 2) dw (aJ 1))) (ar (bj 2 t (b6 (A (b7 an) (aJ 1)))) (ar (bj 3 t (bI as g (A (aF 0) (aJ 2)))) (ay (aQ (hg lu (bI a1 u (A (bI a0 u (A (aF 0) (A (aF 3) (aJ 2)))) aC)) (de (A (cR oB (by rfl) al dE (A (aF 3) aC)) aC))))))),?_;let⟨j,v,lk,dl,k,l,_⟩:=i.ex;have r:=l.ok
 have dp:=r.bL;unfold fF at N;dsimp only at N;exists _,S,e,j,_,S,k,S,_,S,e,U,h,S,i,λn=>?_,λn=>?_
 .obtain⟨a,a3,a4,a5⟩:=pD r n;rw [a5]at N;have bd:=gk a3
  exists _,S,cD,λb be=>?_;have s:∀{o},Ext H (upd H b o):=Ext.one be
  have x:ax K (upd H b (.tup [.int 0,.int h])) b (b4 (D (b5 a))):=by rw [a4];exact ax.of M
  exists _,S,e,d,j,_,_,S,s _ _ k,c.cl,c.program,S,_,S,v,b,U.prog,b5 a,S,l.ext s,bd,x,λy ds B bi=>?_;let⟨E,dx,bk,bl,F,bm,bn,bs,w,bt,bv,ca,cd,dK,ce,ch,G⟩:=bi.ex;have CL:=(s (o:=.tup [.int 0,.int h])).trans B
  let⟨ci,dL,dT,dX,cl,d0,cn,_,_,_,co,_⟩:=(l.ext CL).ex;have d1:=lK U.prog
  exists _,S,e,d,j,_,_,S,CL _ _ k,c.cl,c.program,S,_,S,y,Q,E,_,_,S,w,C.cl,C.found,S,_,S,v,bl,b,cl,_,bn,D (b5 a),bs,S,⟨ci,_,cn,S⟩,co,by rw [z];lia,cd,B.aP x,ch,λcr em cs eq R _=>?_;rw [G]at R;have es:((ke U.prog (b5 a)).map a6).length<=31:=by rw [<-G];exact cu (iX _ _) (by rw [z];lia)
  exists cr,_,S,R,by lia,λct V c0 ev W=>?_;rw [<-told_set]at W;have f:=cs.trans c0
  exists _,S,y,Q,E,_,_,S,f _ _ w,C.cl,C.looked,S,bk,F,S,f _ _ bt,f.keys bv,eN,λX c1=>?_;have c2:=bD cN (told_set (ke U.prog (b5 a)))
  rw [z,rn]at c2;have ab:∀{o},Ext V (upd V X o):=Ext.one c1
  exists ct,X,_,_,S,S,ab _ _ W,M,by rw [z,z];show _+1<=_;lia,λex c3=>?_;refine f6.tell N i ((CL.trans (f.trans ab)).new c3) (by rw [br];show _+1<=_;lia) ?_;have c4:F.length=bm.length:=by have:=bD cN ca;rwa [z,z,z]at this
  rw [M,c4,ce];unfold nI;rw [aT,aT];rfl
 .rw [pF r n]at N;exact N H (Ext.refl H)
def QK(bm:a9 K "tell_funs" "Ladder.tell_funs" (eg 9) s2 o0)(w:g0 K d)(k:kN K pi)(R:L "len"=O)(bn:L "NoCall"=Y (.ref (Xn 5)))(bs:gP K (Xn 5) fU "Exception.__new__"=I)(bt:r_ 2 d "check_node" ["self","label"] (nA K d q Q (Xn 3)))(bv:h_ 1 q "is_call" ["self","label"] (Ee K q Q)) (ca:h_ 1 q "first_part_of" ["self","label"] (tS K q Q)) (cd:g_ 6 "ask_alone" ["program","place"] (t8 m p K pi q Q)) (ce:g_ 2 "functions_at" ["program","table","place"] (yv m p K q Q)):k_ 7 s2 o0 ["self","label"] (jV K d q Q Xn .funs):=by
 refine bm.ew ["self","label","place","asked","funs"] λdT dX d0 d1 H em ch ci l cl G _ sz=>?_;let⟨a,N,cn,rfl,CL,D⟩:=cl;have X:=l.mo 1
 have ab:=l.mo 2;exists _,ar (cM (eL (T 0) bt ab dw (aJ 1))) (ar (bK (r7 (kn (eL (E:=E0) (aF 0) bv X cx (aJ 1)))) (ay (jH j8 (by decide) bs S bn l.hd)) bQ) (ar (bj 2 G (eL (E:=E0) (aF 0) ca X cx (aJ 1))) (ar (bj 3 G (bI cd l (A (aF 0) (aJ 2)))) (ar (bj 4 G (bI ce ab (A (aF 0) (A (aF 3) (aJ 2))))) (ay (aQ (hg lu (hg lu (de (A (cR el (by rfl) R dE (aJ 4)) aC)) (T 4)) (de (A (cR oB (by rfl) R dE (A (aF 3) aC)) aC))))))))),?_;let⟨h,e,lk,eq,i,f,_⟩:=CL.ex;let⟨ad,es,ev,ex,fa,fd,al,_⟩:=f.ex;have r:=f.ok
 have fl:=r.bL;unfold fF at D;dsimp only at D;exists _,S,a,h,_,S,i,S,_,S,a,N,cn,S,CL,λs=>?_,λs=>?_
 .obtain⟨b,t,am,co⟩:=pD r s;rw [co]at D;exists _,S,a,d,h,_,_,S,i,w.cl,w.program,S,e,ad,_,S,al,S,_,S,e,N.prog,b,by rw [am];rfl,f,t,_,S,?_;by_cases c:aB b=.call
  .rw [cq c];obtain⟨j,U,g,rfl⟩:∃j U g,b=.app j U g:=by
    cases b with
    |app j U g=>exists _,_,_,S
    |var fm y=>simp only [aB]at c;split at c<;>cases c
    |_=>cases c
   dsimp only at D;have cr:b5 U∈aq N.prog:=jK t (by simp [kids])
   refine b1 ⟨_,S,a,d,h,_,_,S,i,w.cl,w.program,S,e,ad,_,S,al,S,_,S,e,N.prog,.app j U g,U,[g],by rw [am];rfl,f,t,S,λan fn u fr ap=>?_⟩;exists _,S,a,d,h,_,_,S,u _ _ i,w.cl,w.program,S,_,S,e,an,N.prog,b5 U,S,f.ext u,cr,ap,λas fT a0 cs=>?_;let⟨a1,f0,ct,c0,a2,c1,c2,a3,a4,c3,c4,c5,c6,f1,c7,c8,a5⟩:=cs.ex;have v:=u.trans a0
   exists _,S,a,d,h,_,_,S,v _ _ i,w.cl,w.program,S,_,S,as,pi,a1,_,_,S,a4,k.cl,k.found,S,_,S,e,N.prog,c0,c2,an,_,a3,S,f.ext v,c6,a0.aP ap,c8,λbd C c9 f2 x=>?_;have db:hr N.prog a3=(ke N.prog (b5 U)).map a6:=a5
   rw [db,CQ]at x;have f4:=lK N.prog
   have be:((ke N.prog (b5 U)).map a6).length<=31:=by rw [<-a5];exact cu (iX _ _) (by rw [z];lia)
   have f8:((ke N.prog (b5 U)).filterMap λa=>match a with
    |.fn D=>Y D
    |_=>O).length<=31:=by
    rw [z]at be;exact cu (iU _ _) be
   generalize ((ke N.prog (b5 U)).filterMap λa=>match a with
    |.fn D=>Y D
    |_=>O)=fs at*
   exists _,S,bd,_,S,.inl (av.of x),eN,λB dd=>?_;have bi:∀{o},Ext C (upd C B o):=Ext.one dd
   exists _,S,B,bd,_,_,S,S,M,bi _ _ x,by rw [z];show 1+_<=_;lia,λbk dl=>?_;have dp:∀{o},Ext C (upd (upd C B (.lst [.int ((fs.map λb=>V.int (b:Nat)).length:Nat)])) bk o):=bi.new dl
   have n:=c9.trans (dp (o:=.lst ([.int ((fs.map λb=>V.int (b:Nat)).length:Nat)]++fs.map λb=>V.int (b:Nat))));exists _,S,as,pi,a1,_,_,S,n _ _ a4,k.cl,k.looked,S,ct,a2,S,n _ _ c3,n.keys c4,eN,λds bl=>?_;exists bk,ds,_,_,S,S,(Ext.one bl) _ _ M,M,by rw [br,z];show 1+_+1<=_;lia,λga dx=>?_;refine f6.tell D CL (((v.trans n).new bl).new dx) (by rw [br];show fs.length+1+1<=_;lia) ?_;have dK:a2.length=c1.length:=by have:=bD cN c5;rwa [z,z,z]at this
   rw [M,dK,c7,z];unfold nI Vacfaa.toldNats;rw [aT,aT,aZ,aZ,d7];rfl
  .rw [bU c];have ge:D=D:=rfl
   have dL:f6 K d q Q Xn H a ch ci (.error 5):=by
    cases b with
    |app j U g=>exact absurd rfl c
    |_=>exact D
   exact cf (dL H (Ext.refl H))
 .rw [pF r s]at D;exact D H (Ext.refl H)
def QL(bt:a9 K "tell_looked" "Ladder.tell_looked" (eg 10) s2 o0)(n:g0 K q)(am:kN K pi)(an:eE K d Q)(ca:L "NODE_PLACE"=Y (.int 0 wS))(cd:r_ 2 q "check_node" ["self","label"] (nA K q d Q (Xn 3)))(ce:g_ 6 "ask_alone" ["program","place"] (t8 m p K pi d Q)) (ch:g_ 1 "counted_twos" ["twos"] (pA K)):k_ 7 s2 o0 ["self","label"] (jV K q d Q Xn .looked):=by
 refine bt.ew ["self","label","asked","place"] λd1 em eq es H ev ex fa s l t x sz=>?_;let⟨CN,b,y,rfl,B,j⟩:=l;exists _,ar (cM (eL (T 0) cd (s.mo 2) dw (aJ 1))) (ar (bj 2 t (bI ce s (A (aF 0) (A (b6 (A (b7 ca) (aJ 1))) aC)))) (ay (aQ (bI ch (s.mo 1) (A (fS (own:=[("place",3)]) S t (dC (fP (aF 0) S)) (e2 S) (λb H d ap as=>bX 3 t) (λb H d ap as=>kv (i0 (Dk m p K x (T 3) (xI K (T 2) S)) S)) (λb H d ap as=>T 3)) aC))))),?_;let⟨E,a0,lk,fd,F,w,_⟩:=B.ex;have C:=w.ok
 unfold fF at j;dsimp only at j;exists _,S,CN,E,_,S,F,S,_,S,CN,b,y,S,B,λR=>?_,λR=>?_
 .obtain⟨a,ci,cl,cn⟩:=pD C R;rw [cn]at j;have co:=gk ci
  exists _,S,CN,q,E,_,_,S,F,n.cl,n.program,S,_,S,cD,λCA cr=>?_;have a1:∀{o},Ext H (upd H CA o):=Ext.one cr
  have cs:ax K (upd H CA (.tup [.int 0,.int y])) CA (b4 (D (b5 a))):=cl▸ax.of M;exists a0,CA,b.prog,b5 a,S,w.ext a1,co,cs,λct c0 c1 c2=>?_;let⟨c3,fl,c4,fm,c5,g,fn,fr,c6,c7,c8,c9,fs,db,fT,f0,f1⟩:=c2.ex;have W:=(a1 (o:=.tup [.int 0,.int y])).trans c1
  let⟨dd,dl,dp,ds,dx,dK,a2,a3⟩:=(w.ext W).places;exists _,S,CN,q,E,_,_,S,W _ _ F,n.cl,n.program,S,a0,d,dd,dl,_,S,dx,an.p.c,an.p.places,dK,dp,S,⟨_,a2⟩,λr a4=>?_;have a5:=nt C
  let bd:VCx:=λi e=>(∃f,e r=Y (.lst (f.map V.ref))/\fJ K e f ((((aq b.prog).map D).take i).filter λa=>decide (a∈g.map D))/\f.length<=i)/\Ext c0 e;refine hC (xs:=ds.map V.ref) bd ?_ ?_ ?_ ?_
  .exact⟨⟨[],M,.nil,aR _⟩,Ext.one a4⟩
  .rintro i e dL ⟨_,dT⟩;exact dT.ef a2
  .rintro i v e be ⟨⟨f,CL,k,X⟩,G⟩;rw [bh]at be;let⟨c,dX,rfl⟩:=cv.mp be;let⟨h,bi,bk⟩:=eA a3 dX;have dL:=(cF.mp bi).1
   exists S,_,S,_,S,ct,pi,c3,_,_,S,G _ _ c6,am.cl,am.looked,S,c4,_,S,⟨c5,pk h,c,G _ _ c7,G.keys c8,S,G.aP bk,S⟩,_,S,?_;rw [kJ c9];have bl:((((aq b.prog).map D).take (i+1)).filter λa=>decide (a∈g.map D))=((((aq b.prog).map D).take i).filter λa=>decide (a∈g.map D))++(if decide (h∈g.map D)=I then [h]else []):=by
    rw [dq,bi,nT];congr 1;show TX _ [h]=_
    rw [ig,vg]
   dsimp only [bd];rw [bl];refine ec (λab=>?_) (λab=>?_)
   .rw [ai ab];have bm:cX (e r)\/e r=O:=.inl (CL▸trivial)
    exists _,S,_,CL,by rw [z];lia,⟨f++[c],?_,fY (Paired.cb k λ_ _=>bF bm) (bF bm (G.aP bk)),br▸qi X 1⟩,G.upd a4;rw [M,aT];rfl
   .rw [N ab,b0];exists ⟨f,CL,k,HA X⟩,G
  .rintro e ⟨⟨f,CL,k,X⟩,G⟩;rw [z,bO a3,dB,rL]at k;have bn:(aq b.prog).filter ((λa=>decide (a∈g.map D))∘D)=ju b.prog (b5 a):=by
    rw [<-db];refine kY λh _=>?_;show decide (D h∈g.map D)=decide (h∈g)
    rw [hb,bH];exists λ⟨u,x,l⟩=>d4 l▸x,λl=>⟨_,l,S⟩
   rw [bn]at k;have bl:((ju b.prog (b5 a)).map D).length<=90:=by rw [<-bn,z];refine cu (iX _ _) ?_;rw [z]at a5;exact a5
   exists r,_,S,⟨f,av.of CL,k⟩,by lia,λf2 f4 d0 f8 bs=>?_;rw [<-tq]at bs;refine f6.tell j B ((W.trans G).trans d0) ?_ bs;have:=bD cN (tq (ju b.prog (b5 a)))
   rw [z,rn]at this
   lia
 .rw [pF C R]at j;exact j H (Ext.refl H)
def FG:hT [48]=Y (.num 0 0):=by decide+kernel
def cg.len{H:U}(a:cg K q Q H d pc):∃N A D T,H d=Y (.ins q N A)/\A.lookup ("nodes":aa)=Y (.ref D)/\H D=Y (.lst T)/\T.length=(bJ pc).length:=by let⟨N,A,D,f,_,_,b,c,M,e,_⟩:=a.node (gW pc);exact⟨N,A,D,_,b,c,M,by rw [z,e,gX]⟩
inductive FH (K:af) (d q Q:Z) (A:List V) (H:U) (D:VK) (M:XK):Prop
 |mk(a b:_)(_:A=[.ref a])(_:H a=Y (.ins d b []))(_:∀z,bN a H z->eG K d q Q z a Hy->D .bw z)
def QM(u:a9 K "__init__" "Ladder.__init__" (eg 0) Q o0)(a:g0 K d)(v:L "ord"=O)(x:iu m p K L P (bA m p) 9 "Program" q ["self","text"] (tR K q pi s2)):k_ 11 Q o0 ["self"] (FH K d q pi):=by
 refine u.ew ["self"] λab ad al am H an ap as y b _ _ _=>?_;let⟨z,D,rfl,B,E⟩:=b;exists _,ar (dQ (T 0) (iv x y dw (A (de (A (cR Ah (by rfl) v (by decide+kernel) (A dP aC)) aC)) aC)) S) (ay (dQ (T 0) (de aC) S)),?_;exists _,S,S,eN,λi F N j k w C=>?_;have l:Ext H (upd H i (.lst (cJ [48]))):=Ext.one F
 have g:=((Ext.one (o:=.own N) w).new (o:=.ins q j []) ((ah C.symm).trans k))
 exists N,j,i,[48],S,M,g _ _ M,by decide,(λb=>by rw [FG]at b;cases b),λU n G R V=>⟨S,?_⟩;rw [FG]at n;obtain rfl:=aS n;have h:Ext H G:=λc o U=>R c o (g _ _ (l _ _ U)) (cB (l _ _ U) k)
 have t:=h _ _ B;exists _,S,z,d,D,_,S,t,a.cl,a.program,by decide,?_;have W:bN z G (upd G z (.ins d D (aO "program" (.ref N) []))):=(bN.refl z G).gZ
 exists cP _,λe f=>?_;have r:e≠z:=by rintro rfl;rw [M]at f;cases f
 exists _,S,z,d,D,_,S,(ah r.symm).trans M,a.cl,a.kept,(by show 1<1000;decide),?_;have s:=((W.ext (Ext.one (o:=.lst []) f)).gZ (o:=.ins d D (dc N e)))
 refine E _ (λc o U X=>s c o (h _ _ U) X) ⟨D,N,e,[],M,V.but s t (by decide),(ah r).trans M,.nil,cP _⟩
inductive FI (K:af) (d q Q:Z) (wv:Nat->Z) (z:List V) (H:U) (A:VK) (D:XK):Prop
 |mk(a lt s:_)(t:aj)(_:z=[.ref a,.ref lt])(_:eG K d q Q H a s)(_:H lt=Y (.lst (cJ t)))(_:t.length<=2000)(_:f6 K d q Q wv H a A D (fF s (.program t)))
def QN(x:a9 K "replace_program" "Ladder.replace_program" (eg 1) pi o0)(G:g0 K d)(k:eE K q Q)(y:L "len"=O)(B:iu m p K L P (bA m p) 9 "Program" q ["self","text"] (tR K q Q (Xn 1))):k_ 11 pi o0 ["self","text"] (FI K d q Q Xn):=by
 refine x.ew ["self","text"] λbi bk bl bm H bn bs bt E F _ _ _=>?_;let⟨z,C,bv,w,rfl,R,V,ca,e⟩:=F;exists _,ar (dQ (T 0) (iv B E dw (aJ 1)) S) (ar (dQ (T 0) (de aC) S) (ay (aQ (de (A (cR el (by rfl) y dE (A (fP (aF 0) S) aC)) aC))))),?_;let⟨D,cd,lk,ce,W,_⟩:=R.ex;unfold fF at e;dsimp only at e;exists _,S,λN n h X ab=>?_;have i:=((Ext.one (o:=.own N) X).new (o:=.ins q n []) ((ah ab.symm).trans h))
 exists N,n,C,w,S,M,i _ _ V,by lia,λad a j=>?_,λb al a j am=>⟨S,?_⟩
 .rw [ad]at e;exact e a λc o b=>j c o (i _ _ b) (cB b h)
 .rw [al]at e;have l:Ext H a:=λc o b=>j c o (i _ _ b) (cB b h)
  have CL:=l _ _ W;exists _,S,z,d,D,_,S,CL,G.cl,G.program,(by show 2<1000;decide),?_;have an:bN z a (upd a z (.ins d D (dc N lk))):=(bN.refl z a).gZ
  exists cP _,λU f=>?_;have f:=f
  have r:U≠z:=by rintro rfl;rw [M]at f;cases f
  exists _,S,z,d,D,_,S,(ah r.symm).trans M,G.cl,G.kept,(by show 2<1000;decide),?_;have s:=((an.ext (Ext.one (o:=.lst []) f)).gZ (o:=.ins d D (dc N U)))
  have t:=am.but s CL (by show 2<5;decide);have u:upd (upd (upd a z (.ins d D (dc N lk))) U (.lst [])) z (.ins d D (dc N U)) z=Y (.ins d D (dc N U)):=M
  have ap:upd (upd (upd a z (.ins d D (dc N lk))) U (.lst [])) z (.ins d D (dc N U)) U=Y (.lst []):=(ah r).trans M;let⟨as,a0,a1,ch,a2,a3,a4,a5⟩:=t.len;exists _,S,z,d,D,_,_,S,u,G.cl,G.program,S,N,q,as,a0,_,S,a2,k.p.c,k.p.nodes,a3,a1,_,S,.inl (av.of a4),eN,λv bd=>?_;have g:∀{o},Ext (upd (upd (upd a z (.ins d D (dc N lk))) U (.lst [])) z (.ins d D (dc N U))) (upd (upd (upd (upd a z (.ins d D (dc N lk))) U (.lst [])) z (.ins d D (dc N U))) v o):=Ext.one bd
  refine e v _ (λc o b be=>g _ _ (s c o (l _ _ b) be)) ⟨D,N,U,[],g _ _ u,t.ext g,g _ _ ap,.nil,cP _⟩ ?_ (by show 1<=5000;decide);rw [M,a5];rfl
def QO{G:sB->At->Prop}(z:Nat){M:List sB}{N:List At}(S:cE G M N):cE G (M.take z) (N.take z):=by
 induction S generalizing z with
 |nil=>rw [rr,rr];exact .nil
 |cons a c b=>exact match z with
  |0=>.nil
  |z+1=>.cons a (b z)
inductive FJ (K:af) (d q Q:Z) (wv:Nat->Z) (A:List V) (H:U) (D:VK) (M:XK):Prop
 |mk(a lt s z:_)(t:aj)(_:A=[.ref a,.int z,.ref lt])(_:eG K d q Q H a s)(_:H lt=Y (.lst (cJ t)))(_:t.length<=2000)(_:f6 K d q Q wv H a D M (fF s (.change z t)))
def QP(be:a9 K "change_program" "Ladder.change_program" (eg 11) pi o0)(e:g0 K d)(ab:eE K q Q)(bi:L "len"=O)(bl:L "MOST_KEPT"=Y (.int 8 wS))(bm:r_ 2 d "check_node" ["self","label"] (nA K d q Q (Xn 3)))(bn:q_ 11 "changed_program" ["program","label","text"] (Fl K q Q (Xn 1))) (bs:g_ 6 "kept_gone_and_new" ["old","new","label"] (Ft K q Q)):k_ 12 pi o0 ["self","label","text"] (FJ K d q Q Xn):=by
 refine be.ew ["self","label","text","before"] λev ex fa fd H fl fm fn t bt bv _ sz=>?_;let⟨D,ca,g,i,cd,rfl,ad,ce,ch,h⟩:=bt;have ci:=t.mo 2
 have cl:=t.mo 6;exists _,ar (cM (eL (T 0) bm ci dw (aJ 1))) (ar (bj 3 bv (aF 0)) (ar (dQ (T 0) (gI bn t dw (A (T 3) (A (T 1) (aJ 2)))) S) (ar (dQ (T 0) (qw qy (hg lu (de (aJ 3)) (aF 0)) sl (oj (b7 bl))) S) (ay (aQ (hg lu (de (A (cR el (by rfl) bi dE (A (fP (aF 0) S) aC)) aC)) (bI bs cl (A (T 3) (A (aF 0) (aJ 1)))))))))),?_;let⟨N,a,lk,b,u,v,cn,al,co⟩:=ad.ex;have am:=v.ok
 unfold fF at h;dsimp only at h;exists _,S,D,N,_,S,u,S,_,S,D,g,i,S,ad,λx=>?_,λx=>?_
 .obtain⟨k,an,ap,cr⟩:=pD am x;rw [cr]at h;exists _,S,D,d,N,_,_,S,u,e.cl,e.program,S,?_;exists _,S,_,S,_,S,a,ca,g.prog,k,cd,by rw [ap];rfl,v,an,ce,ch,λcs ct c0=>?_,λCL y c1 c2 c3 U G l c4=>?_
  .rw [cs]at h;exact h ct c0
  .rw [c1]at h;have W:=l _ _ u
   have as:=l _ _ cn;exists _,S,D,d,N,_,S,W,e.cl,e.program,(by show 2<1000;decide),?_;have a0:bN D G (upd G D (.ins d N (dc U lk))):=(bN.refl D G).gZ
   have B:upd G D (.ins d N (dc U lk)) D=Y (.ins d N (dc U lk)):=M;exists _,S,eN,λj E=>?_;have E:upd G D (.ins d N (dc U lk)) j=O:=E
   have F:∀{o},Ext (upd G D (.ins d N (dc U lk))) (upd (upd G D (.ins d N (dc U lk))) j o):=Ext.one E;have c5:=a0 _ _ as (cW as W (by intro i;cases i))
   have fr:b.length<=8:=by rw [bO al];exact co
   exists _,S,D,d,N,_,_,S,F _ _ B,e.cl,e.kept,S,j,lk,_,_,S,S,M,F _ _ c5,by rw [z];show 1+_<=_;lia,λn c6=>?_;have a1:∀{o},Ext (upd G D (.ins d N (dc U lk))) (upd (upd (upd G D (.ins d N (dc U lk))) j (.lst [.ref a])) n o):=F.new c6
   exists _,S,n,_,S,av.of M,λf a2=>?_;have c7:gH ([V.ref a]++b.map V.ref) O (Y 8)=((a::b).take 8).map V.ref:=by show gH ((a::b).map V.ref) O (Y ((8:Nat):Int))=_;rw [Fi,TV]
   rw [c7];have a3:∀{o},Ext (upd G D (.ins d N (dc U lk))) (upd (upd (upd (upd G D (.ins d N (dc U lk))) j (.lst [.ref a])) n (.lst ([.ref a]++b.map V.ref))) f o):=a1.new a2
   exists _,S,D,d,N,_,S,a3 _ _ B,e.cl,e.kept,(by show 2<1000;decide),?_;have c8:f≠D:=(cB (a1 _ _ B) a2).symm
   have r:=(a0.ext (a3 (o:=.lst (((a::b).take 8).map V.ref)))).gZ (o:=.ins d N (dc U f));have w:upd (upd (upd (upd (upd G D (.ins d N (dc U lk))) j (.lst [.ref a])) n (.lst ([.ref a]++b.map V.ref))) f (.lst (((a::b).take 8).map V.ref))) D (.ins d N (dc U f)) D=Y (.ins d N (dc U f)):=M
   have c9:upd (upd (upd (upd (upd G D (.ins d N (dc U lk))) j (.lst [.ref a])) n (.lst ([.ref a]++b.map V.ref))) f (.lst (((a::b).take 8).map V.ref))) D (.ins d N (dc U f)) f=Y (.lst (((a::b).take 8).map V.ref)):=(ah c8).trans M;have C:=c4.but r W (by show 2<5;decide)
   have a4:=(v.ext l).but r W (by show 2<5;decide);have db:cE (cg K q Q _) b g.past:=Paired.cb al λ_ _ i=>(i.ext l).but r W (by show 2<5;decide)
   let⟨dd,dl,dp,a5,ds,dx,dK,dL⟩:=C.len;exists _,S,D,d,N,_,_,S,w,e.cl,e.program,S,U,q,dd,dl,_,S,ds,ab.p.c,ab.p.nodes,dx,dp,_,S,.inl (av.of dK),eN,λdT dX=>?_;have s:=Ext.one (o:=.lst [.int (a5.length:Nat)]) dX
   exists _,S,_,S,D,d,N,_,_,S,s _ _ w,e.cl,e.program,S,_,S,a,U,g.prog,CL,k,y,by rw [ap];rfl,a4.ext s,C.ext s,an,c2,c3,λd0 fs bd fT d1=>?_;exists dT,d0,_,_,S,S,bd _ _ M,d1,by rw [z];show 1+3<=_;lia,λem eq=>?_;have X:=(s.trans bd).new (o:=.lst ([.int (a5.length:Nat)]++[(chg g.prog CL k).kept,(chg g.prog CL k).gone,(chg g.prog CL k).came].map λR:Nat=>V.int (R:Nat))) eq
   refine h em _ (λc o es R=>X _ _ (r c o (l _ _ es) R)) ⟨N,U,f,(a::b).take 8,X _ _ w,C.ext X,X _ _ c9,Paired.cb (QO 8 (.cons a4 db)) λ_ _ i=>i.ext X,?_⟩ ?_ (by show 4<=5000;decide)
   .show((g.prog::g.past).take 8).length<=8;rw [dU]
    lia
   .rw [M,dL];rfl
 .rw [pF am x]at h;exact h H (Ext.refl H)
def QQ(v:a9 K "undo_change" "Ladder.undo_change" (eg 12) Q o0)(N:g0 K d)(n:eE K q pi)(x:L "len"=O)(y:L "NothingKept"=Y (.ref (Xn 4)))(B:gP K (Xn 4) fU "Exception.__new__"=I):k_ 1 Q o0 ["self"] (jU K d q pi Xn .undo):=by
 refine v.ew ["self"] λbl bm bn bs H bt bv ca E G _ _ _=>?_;let⟨z,C,rfl,R,e⟩:=G;exists _,ar (bK (r7 (sg (aF 0) (λ_=>S))) (ay (jH j8 (by decide) B S y E.hd)) bQ) (ar (dQ (T 0) (cc dk (aF 0) cL (λ_ _=>S)) S) (ar (dQ (T 0) (qw qy (aF 0) (oj cL) sl) S) (ay (aQ (de (A (cR el (by rfl) x dE (A (fP (aF 0) S) aC)) aC)))))),?_;let⟨D,cd,lk,U,b,X,f,w,g⟩:=R.ex;let⟨ce,ab⟩:=C;unfold fF at e;dsimp only at e X w g;exists _,S,z,d,D,_,_,S,b,N.cl,N.kept,S,_,.inl ⟨_,av.of f,S⟩,?_;cases w with
 |nil=>exact cf (e H (Ext.refl H))
 | @cons a ch U ab ad al=>
 refine b1 ⟨_,S,z,d,D,_,_,S,b,N.cl,N.kept,S,lk,_,_,_,S,S,av.of f,e1 (j:=0) S,_,S,z,d,D,_,S,b,N.cl,N.program,(by show 2<1000;decide),?_⟩;have CL:bN z H (upd H z (.ins d D (dc a lk))):=(bN.refl z H).gZ
 have h:upd H z (.ins d D (dc a lk)) z=Y (.ins d D (dc a lk)):=M;have am:=CL _ _ f (cW f b (by intro i;cases i))
 exists _,S,z,d,D,_,_,S,h,N.cl,N.kept,S,_,S,lk,_,S,av.of am,λu c=>?_;have c:upd H z (.ins d D (dc a lk)) u=O:=c
 have an:gH ((a::U).map V.ref) (Y 1) O=U.map V.ref:=Fj _ 1;rw [an];have r:∀{o},Ext (upd H z (.ins d D (dc a lk))) (upd (upd H z (.ins d D (dc a lk))) u o):=Ext.one c
 exists _,S,z,d,D,_,S,r _ _ h,N.cl,N.kept,(by show 2<1000;decide),?_;have ap:u≠z:=by rintro rfl;rw [h]at c;cases c
 have k:=(CL.ext (r (o:=.lst (U.map V.ref)))).gZ (o:=.ins d D (dc a u));have s:upd (upd (upd H z (.ins d D (dc a lk))) u (.lst (U.map V.ref))) z (.ins d D (dc a u)) z=Y (.ins d D (dc a u)):=M
 have as:upd (upd (upd H z (.ins d D (dc a lk))) u (.lst (U.map V.ref))) z (.ins d D (dc a u)) u=Y (.lst (U.map V.ref)):=(ah ap).trans M;have t:=ad.but k b (by show 2<5;decide)
 let⟨a0,a1,a2,a3,a4,a5,bd,be⟩:=t.len;exists _,S,z,d,D,_,_,S,s,N.cl,N.program,S,a,q,a0,a1,_,S,a4,n.p.c,n.p.nodes,a5,a2,_,S,.inl (av.of bd),eN,λbi bk=>?_;have l:=Ext.one (o:=.lst [.int (a3.length:Nat)]) bk
 refine e bi _ (k.ext l) ⟨D,a,u,U,l _ _ s,t.ext l,l _ _ as,Paired.cb al λ_ _ i=>(i.but k b (by show 2<5;decide)).ext l,?_⟩ ?_ (by show 1<=5000;decide)
 .rw [dn]at g;exact uJ g
 .rw [M,be];rfl
abbrev FK:a7:=top 107
variable{ST VR:Prop}
def ua{c:Bool}(D:c=ao)(G:ST):if c=I then VR else ST:=by subst D;exact b1 G
def ro{c:Bool}(D:c=I)(G:ST):if c=I then ST else VR:=by subst D;exact cf G
variable{h:Cx}{wP:a7}
theorem QR:PS h wP (λ_ _ _=>False):=λ_ _ _ _ _ _ D=>D.elim
def yV(z A:Z)(H D:U):Prop:=∀c o,H c=Y o->c≠z->c≠A->D c=Y o
variable{wf:List Int}{i:Nat}
theorem gz.but(D:bN a H r)(N:H a=Y (.ins s2 d FS))(S:q≠a)(A:gz K Q H q pi wf i):gz K Q r q pi wf i:=
 ⟨let⟨d,T⟩:=A.1;⟨d,D _ _ T S⟩,D.ef N A.2.1,A.2.2⟩
variable{BT:Z}
def yW(A:eG K Q pi s2 H d Da)(D:gz K v4 H q BT wf i):d≠q:=by let⟨S,T,lk,U,M,_⟩:=A.ex;let⟨⟨c,N⟩,_⟩:=D;refine cW M N λz=>?_;injection z with _ _ z;injection z with z _;injection z with z _;exact absurd z (by decide+kernel)
def yX(K:af)(CL C CN CR:Z)(Xn:Nat->Z)(H:U)(a b ln:Z)(l:List Int)(i:Nat)(s:nZ)(Q:VK)(E:XK):mh->Prop
 |.ok (c,n)=>∀z r,yV a b H r->eG K CL C CN r a c->gz K CR r b ln l i->r z=Y (.lst (hN n))->n.length<=5000->Q (.ref z) r
 |.error n=>∀r,yV a b H r->eG K CL C CN r a s->gz K CR r b ln l i->E (.ref (Xn n)) O r
def yX.ld{o:mh}(S:yX K d q Q s2 wv H a pi v4 wf i Da IR Ch o)(T:bN pi H sK)(z:eG K d q Q sK a Da)(A:gz K s2 sK pi v4 wf i):f6 K d q Q wv sK a IR Ch o:=by
 have U:=yW z A;let⟨n,p,lk,b,C,_⟩:=z.ex;cases o with
 |ok y=>exactλg r e h j k=>S g r (λc o D f M=>e c o (T c o D M) f) h (A.but e C U.symm) j k
 |error m=>exactλr N=>S r (λc o D f M=>N c o (T c o D M)) (z.ext N) (A.but (N.but (a:=a)) C U.symm)
structure FN(L:aa->Option J):Prop where
 c0:∃z,L "PROGRAM_CALL"=Y (.int 0 z)
 c1:∃z,L "SHOW_CALL"=Y (.int 1 z)
 c2:∃z,L "SET_CALL"=Y (.int 2 z)
 c3:∃z,L "ARROWS_CALL"=Y (.int 3 z)
 c4:∃z,L "COUNTS_CALL"=Y (.int 4 z)
 c5:∃z,L "CLASS_CALL"=Y (.int 5 z)
 c6:∃z,L "CLASSES_CALL"=Y (.int 6 z)
 c7:∃z,L "ASK_CALL"=Y (.int 7 z)
 c8:∃z,L "FUNS_CALL"=Y (.int 8 z)
 c9:∃z,L "LOOKED_CALL"=Y (.int 9 z)
 QS:∃z,L "CHANGE_CALL"=Y (.int 10 z)
 QT:∃z,L "UNDO_CALL"=Y (.int 11 z)
 QU:∃z,L "SIZE_CALL"=Y (.int 12 z)
inductive FO (K:af) (Q pi s2 v4:Z) (wv:Nat->Z) (z:List V) (H:U) (IR:VK) (Ch:XK):Prop
 |mk(d q BT wf i Da c r:_)(_:z=[.ref d,.ref q])(_:eG K Q pi s2 H d Da)(_:gz K v4 H q BT wf i)(_:q5 (wf.drop i) c r)(_:yX K Q pi s2 v4 wv H d q BT wf (wf.length-r.length) Da IR Ch (fF Da c))
variable{Pi:List Int}
def pG(D:wf.drop i=wp::Pi):wf[i]?=Y wp/\wf.drop (i+1)=Pi/\i+1+Pi.length=wf.length:=by
 have M:(wf.drop i)[0]?=Y wp:=by rw [D];rfl
 rw [HC,j9]at M;have N:(wf.drop i).drop 1=Pi:=by rw [D];rfl
 rw [HD]at N;have T:=bD cN D
 rw [l6,dn]at T;exact⟨M,N,by lia⟩
structure QV(m:aw)(p:au)(K:af)(L:aa->Option J)(P:aD)(d q Q pi:Z)(wv:Nat->Z):Prop where
 num:h_ 1 pi "take_number" ["self"] (yM K pi)
 txt:h_ 2 pi "take_text" ["self"] (EU K pi)
 m0:r_ 11 d "replace_program" ["self","text"] (FI K d q Q wv)
 m1:r_ 1 d "tell_text" ["self"] (jU K d q Q wv .show_)
 m2:r_ 8 d "tell_set" ["self","rung","label"] (FC K d q Q wv .set)
 m3:r_ 8 d "tell_arrows" ["self","rung"] (jV K d q Q wv .arrows)
 m4:r_ 8 d "tell_counts" ["self"] (jU K d q Q wv .counts)
 m5:r_ 6 d "tell_class" ["self","label"] (jV K d q Q wv .class_)
 m6:r_ 6 d "tell_classes" ["self"] (jU K d q Q wv .classes)
 m7:r_ 7 d "tell_asked" ["self","label"] (jV K d q Q wv .ask)
 m8:r_ 7 d "tell_funs" ["self","label"] (jV K d q Q wv .funs)
 m9:r_ 7 d "tell_looked" ["self","label"] (jV K d q Q wv .looked)
 QW:r_ 12 d "change_program" ["self","label","text"] (FJ K d q Q wv)
 QX:r_ 1 d "undo_change" ["self"] (jU K d q Q wv .undo)
 QY:r_ 1 d "tell_size" ["self"] (jU K d q Q wv .size)
set_option tactic.hygienic true
def QZ(bm:a9 K "carry_out" "carry_out" FK d o0)(b:FN L)(D:QV m p K L P q Q pi s2 wv):k_ 13 d o0 ["ladder","row"] (FO K q Q pi s2 wv):=by
 let⟨db,bn⟩:=b.c0;let⟨dd,bs⟩:=b.c1;let⟨dl,bt⟩:=b.c2;let⟨dp,bv⟩:=b.c3;let⟨ds,ca⟩:=b.c4;let⟨dx,cd⟩:=b.c5;let⟨dK,ce⟩:=b.c6;let⟨dL,ch⟩:=b.c7;let⟨dT,ci⟩:=b.c8;let⟨dX,cl⟩:=b.c9;let⟨d0,cn⟩:=b.QS;let⟨d1,co⟩:=b.QT;let⟨em,cr⟩:=b.QU;refine bm.ew ["ladder","row","call","rung","label"] λeq es ev fa H fd fl fm CL cs V _ _=>?_;let⟨k,U,bd,M,i,B,c,C,rfl,be,W,N,l⟩:=cs;have f:=CL.mo 1
 have bi:=CL.mo 2;have bk:=CL.mo 6
 have X:=CL.mo 7;have ab:=CL.mo 8
 exists _,ar (bj 2 V (dR (E:=E0) (T 1) D.num f cx)) (ar (bK (bS cT (T 2) (b7 bn) (bV _)) (ay (aQ (eL (T 0) D.m0 (CL.mo 11) dw (A (dR (E:=E0) (T 1) D.txt bi cx) aC)))) bQ) (ar (bK (bS cT (T 2) (b7 bs) (bV _)) (ay (aQ (dR (T 0) D.m1 f dw))) bQ) (ar (bK (bS cT (T 2) (b7 bt) (bV _)) (ar (bj 3 V (dR (E:=E0) (T 1) D.num f cx)) (ay (aQ (eL (T 0) D.m2 ab dw (A (T 3) (A (dR (E:=E0) (T 1) D.num f cx) aC)))))) bQ) (ar (bK (bS cT (T 2) (b7 bv) (bV _)) (ay (aQ (eL (T 0) D.m3 ab dw (A (dR (E:=E0) (T 1) D.num f cx) aC)))) bQ) (ar (bK (bS cT (T 2) (b7 ca) (bV _)) (ay (aQ (dR (T 0) D.m4 ab dw))) bQ) (ar (bK (bS cT (T 2) (b7 cd) (bV _)) (ay (aQ (eL (T 0) D.m5 bk dw (A (dR (E:=E0) (T 1) D.num f cx) aC)))) bQ) (ar (bK (bS cT (T 2) (b7 ce) (bV _)) (ay (aQ (dR (T 0) D.m6 bk dw))) bQ) (ar (bK (bS cT (T 2) (b7 ch) (bV _)) (ay (aQ (eL (T 0) D.m7 X dw (A (dR (E:=E0) (T 1) D.num f cx) aC)))) bQ) (ar (bK (bS cT (T 2) (b7 ci) (bV _)) (ay (aQ (eL (T 0) D.m8 X dw (A (dR (E:=E0) (T 1) D.num f cx) aC)))) bQ) (ar (bK (bS cT (T 2) (b7 cl) (bV _)) (ay (aQ (eL (T 0) D.m9 X dw (A (dR (E:=E0) (T 1) D.num f cx) aC)))) bQ) (ar (bK (bS cT (T 2) (b7 cn) (bV _)) (ar (bj 4 V (dR (E:=E0) (T 1) D.num f cx)) (ay (aQ (eL (T 0) D.QW CL dw (A (T 4) (A (dR (E:=E0) (T 1) D.txt bi cx) aC)))))) bQ) (ar (bK (bS cT (T 2) (b7 co) (bV _)) (ay (aQ (dR (T 0) D.QX f dw))) bQ) (ar (bK (bS cT (T 2) (b7 cr) (bV _)) (ay (aQ (dR (T 0) D.QY f dw))) bQ) (ay QR)))))))))))))),?_;let⟨⟨ct,bl⟩,_⟩:=id W;have g:=yW be W
 have h:(nv bd i).length<5:=by show 2<5;decide
 obtain⟨fn,fr,r⟩:∃j c0,M.drop i=j::c0:=by cases c<;>first|exact⟨_,_,N⟩|exists _,_,N.1
 exists _,S,U,ct,_,S,bl,S,U,bd,M,i,_,S,W,(pG r).1,λfs s x fT=>?_;have a5:=be.but x bl h g
 let⟨_,w,c1⟩:=pG r;let⟨ad,f0,lk,f1,al,_⟩:=a5.ex;let⟨⟨G,n⟩,_⟩:=id s;have g:=yW a5 s
 cases c
 case program a=>
  obtain⟨N,am⟩:M.drop i=0::(a.length:Int)::(gs a++C)/\a.length<=2000:=N;cases r.symm.trans N;have c2:i+1+1+a.length+C.length=M.length:=by rw [<-c1,dn,br,show(gs a).length=a.length from z _];cutsat
  rw [show M.length-C.length=i+1+1+a.length by cutsat]at l;exists _,S,S,_,S,ro S ⟨_,S,k,ad,_,S,al,S,_,S,U,G,_,S,n,S,U,bd,M,i+1,a,C,S,s,w,λu an o e ap _ _ as=>⟨k,u,B,a,S,a5.but e n h g,as,am,l.ld (x.trans e) (a5.but e n h g) o⟩⟩
 case set y j=>
  obtain⟨N,_,_⟩:M.drop i=2::y::j::C/\inR y/\inR j:=N;cases r.symm.trans N
  iterate 2 exists _,S,S,_,S,ua S ?_
  let⟨F,R,a0⟩:=pG w;let⟨c3,f2,f4⟩:=pG R;rw [show M.length-C.length=i+1+1+1 by cutsat]at l;exists _,S,S,_,S,ro S ⟨_,S,U,G,_,S,n,S,U,bd,M,i+1,y,S,s,F,λan o e ap=>?_⟩;have L2:=a5.but e n h g
  let⟨a1,c4,c5,c6,a2,_⟩:=L2.ex;let⟨⟨a3,t⟩,_⟩:=id o;exists _,S,k,a1,_,S,a2,S,_,S,_,S,U,a3,_,S,t,S,U,bd,M,i+1+1,j,S,o,c3,λc7 a4 v c8=>⟨k,B,y,j,S,L2.but v t h g,l.ld ((x.trans e).trans v) (L2.but v t h g) a4⟩
 case change j a=>
  obtain⟨N,_,am⟩:M.drop i=10::j::(a.length:Int)::(gs a++C)/\inR j/\a.length<=2000:=N;cases r.symm.trans N
  iterate 10 exists _,S,S,_,S,ua S ?_
  let⟨F,R,a0⟩:=pG w;have c2:i+1+1+1+a.length+C.length=M.length:=by rw [<-a0,dn,br,show(gs a).length=a.length from z _];cutsat
  rw [show M.length-C.length=i+1+1+1+a.length by cutsat]at l;exists _,S,S,_,S,ro S ⟨_,S,U,G,_,S,n,S,U,bd,M,i+1,j,S,s,F,λan o e ap=>?_⟩;have L2:=a5.but e n h g
  let⟨a1,c4,c5,c6,a2,_⟩:=L2.ex;let⟨⟨a3,t⟩,_⟩:=id o;exists _,S,k,a1,_,S,a2,S,_,S,_,S,U,a3,_,S,t,S,U,bd,M,i+1+1,a,C,S,o,R,λu c7 a4 v c8 _ _ as=>⟨k,u,B,j,a,S,L2.but v t h g,as,am,l.ld ((x.trans e).trans v) (L2.but v t h g) a4⟩
 all_goals first
  |have N:=N
   let⟨rfl,c9⟩:=p5 (r.symm.trans N);rw [show M.length-C.length=i+1 by rw [<-c9];cutsat]at l
   repeat first
    |exists _,rfl,rfl,_,rfl,ro rfl ⟨_,rfl,k,ad,_,rfl,al,rfl,k,B,rfl,a5,l.ld x a5 s⟩
    |exists _,rfl,rfl,_,rfl,ua rfl ?_
  |obtain⟨N,_⟩:M.drop i=_::_::C/\_:=N
   cases r.symm.trans N;let⟨F,R,a0⟩:=pG w;rw [show M.length-C.length=i+1+1 by cutsat]at l
   repeat first
    |exists _,rfl,rfl,_,rfl,ro rfl ⟨_,rfl,k,ad,_,rfl,al,rfl,_,rfl,U,G,_,rfl,n,rfl,U,bd,M,i+1,_,rfl,s,F,λan o e ap=>⟨k,B,_,rfl,a5.but e n h g,l.ld (x.trans e) (a5.but e n h g) o⟩⟩
    |exists _,rfl,rfl,_,rfl,ua rfl ?_
set_option tactic.hygienic false
abbrev FP:a7:=top 108
structure yY(K:af)(G:aa->Option J)(z:Nat->Z):Prop where
 x1:G "NoProgram"=Y (.ref (z 1))
 x2:G "NoRung"=Y (.ref (z 2))
 x3:G "NoNode"=Y (.ref (z 3))
 x4:G "NothingKept"=Y (.ref (z 4))
 x5:G "NoCall"=Y (.ref (z 5))
 fV:∀n,n∈[1,2,3,4,5]->gP K (z n) fU "Exception.__new__"=I/\mroIn K (z n)=I
 nd:[z 1,z 2,z 3,z 4,z 5].Nodup
 n1:∃A,G "NO_PROGRAM"=Y (.int (-1) A)
 n2:∃A,G "NO_RUNG"=Y (.int (-2) A)
 n3:∃A,G "NO_NODE"=Y (.int (-3) A)
 n4:∃A,G "NOTHING_KEPT"=Y (.int (-4) A)
 n5:∃A,G "NO_CALL"=Y (.int (-5) A)
inductive FQ (K:af) (d q Q pi:Z) (D:List V) (H:U) (M:VK) (N:XK):Prop
 |mk(a b ln l i s c r:_)(_:D=[.ref a,.ref b])(_:eG K d q Q H a s)(_:gz K pi H b ln l i)(_:q5 (l.drop i) c r)(_:∀A z,yV a b H z->eG K d q Q z a (iW s c).1->gz K pi z b ln l (l.length-r.length)->z A=Y (.lst ((toldOf (iW s c).2).map V.int))->(toldOf (iW s c).2).length<=5000->M (.ref A) z)
def Q0(r:a9 K "answer_or_refusal" "answer_or_refusal" FP d o0)(D:yY K L wv)(s:q_ 13 "carry_out" ["ladder","row"] (FO K q Q pi s2 wv)):f_ 14 d o0 ["ladder","row"] (FQ K q Q pi s2):=by
 let⟨c0,t⟩:=D.n1;let⟨c1,B⟩:=D.n2;let⟨c2,E⟩:=D.n3;let⟨c3,F⟩:=D.n4;let⟨c4,w⟩:=D.n5;let⟨G,R⟩:=D.fV 1 (by decide);let⟨V,W⟩:=D.fV 2 (by decide);let⟨X,ab⟩:=D.fV 3 (by decide);let⟨ad,al⟩:=D.fV 4 (by decide);let⟨am,an⟩:=D.fV 5 (by decide);refine r.go ["ladder","row"] λc5 c6 c7 c8 H c9 ap as a0 k _ _ _=>?_;let⟨a1,a2,a3,a4,i,a,c,a5,rfl,bd,be,bi,b⟩:=k;exists _,ay (K8 S rfl (λn db as bk=>ay (aQ (gI s a0 bk (A (T 0) (aJ 1))))) (PH.cons S D.x1 G R (by decide) (λg n=>ay (aQ (de (A (ek (v:=.int (-1)) S t ⟨_,S⟩) aC)))) (PH.cons S D.x2 V W (by decide) (λg n=>ay (aQ (de (A (ek (v:=.int (-2)) S B ⟨_,S⟩) aC)))) (PH.cons S D.x3 X ab (by decide) (λg n=>ay (aQ (de (A (ek (v:=.int (-3)) S E ⟨_,S⟩) aC)))) (PH.cons S D.x4 ad al (by decide) (λg n=>ay (aQ (de (A (ek (v:=.int (-4)) S F ⟨_,S⟩) aC)))) (PH.cons S D.x5 am an (by decide) (λg n=>ay (aQ (de (A (ek (v:=.int (-5)) S w ⟨_,S⟩) aC)))) PH.nil)))))),?_;dsimp;exists _,S,_,S,a1,a2,a3,a4,i,a,c,a5,S,bd,be,bi,?_;have bl:iW a c=match fF a c with
  |.ok x=>(x.1,.told x.2)
  |.error U=>(a,.refused U):=rfl
 rw [bl]at b;cases hd:fF a c with
 |ok y=>
  let⟨dd,U⟩:=y;rw [hd]at b;intro bm h l C e bn dl;refine b bm h l C e ?_ ?_
  .rw [bn,t9];rfl
  .show(nI U).length<=5000;unfold nI;rwa [z]
 |error U=>
  rw [hd]at b;intro h l C e;exists wv U,S,?_;have Xn:=D.nd
  simp only [ej,bg,gR,g8,pZ]at Xn;let⟨⟨bs,bt,bv,ca⟩,⟨cd,ce,ch⟩,⟨ci,cl⟩,cn,_⟩:=Xn;have f:∀u,h u=O->ap (.ref u) (upd h u (.lst [.int (-(U:Int))])):=λu j=>b u _ (λc o co cr cs=>(Ext.one j) _ _ (l c o co cr cs)) (C.ext (Ext.one j)) ⟨let⟨ct,k⟩:=e.1;⟨ct,(Ext.one j) _ _ k⟩,(Ext.one j).ef e.2.1,e.2.2⟩ M (by show 1<=5000;decide)
  unfold catchR;rcases Qy hd with rfl|rfl|rfl|rfl|rfl
  .rw [ai S];exists eN,f
  .rw [N (eP bs)];unfold catchR;rw [ai S];exists eN,f
  .rw [N (eP bt)];unfold catchR;rw [N (eP cd)];unfold catchR;rw [ai S];exists eN,f
  .rw [N (eP bv)];unfold catchR;rw [N (eP ce)];unfold catchR;rw [N (eP ci)];unfold catchR;rw [ai S];exists eN,f
  .rw [N (eP ca)];unfold catchR;rw [N (eP ch)];unfold catchR;rw [N (eP cl)];unfold catchR;rw [N (eP cn)];unfold catchR;rw [ai S];exists eN,f
abbrev ub:a7:=top 109
def Q1{c:k7}(z:q5 wf c Pi):∃y G,wf=y::G/\∃M,wf=M++Pi:=by
 cases c with
 |program b=>exact⟨_,_,z.1,0::(b.length:Int)::gs b,by rw [z.1];rfl⟩
 |show_=>exists _,_,z,[1],z
 |set y a=>exists _,_,z.1,[2,y,a],z.1
 |arrows a=>exists _,_,z.1,[3,a],z.1
 |counts=>exists _,_,z,[4],z
 |class_ a=>exists _,_,z.1,[5,a],z.1
 |classes=>exists _,_,z,[6],z
 |ask a=>exists _,_,z.1,[7,a],z.1
 |funs a=>exists _,_,z.1,[8,a],z.1
 |looked a=>exists _,_,z.1,[9,a],z.1
 |change a b=>exact⟨_,_,z.1,10::a::(b.length:Int)::gs b,by rw [z.1];rfl⟩
 |undo=>exists _,_,z,[11],z
 |size=>exists _,_,z,[12],z
variable{Sc:aL}
def cg.off{H:U}{i:List Int}(N:bN d H r)(T:H d=Y (.bP Sc (.lst (i.map V.int))))(t:cg K Q pi H q pc):cg K Q pi r q pc:=by
 let⟨v,x,y,B,E,F,L,M,R,⟨W,X,ab,ad,al⟩,j,⟨am,an,k⟩,ap,as,l⟩:=t;have b:∀{c a},H c=Y (.lst a)->r c=Y (.lst a):=λz=>N _ _ z (cW z T (by intro A;cases A))
 have m:∀{c n o p},H c=Y (.ins n o p)->r c=Y (.ins n o p):=λz=>N _ _ z (cW z T (by intro A;cases A));have g:∀{c a},ax K H c a->ax K r c a:=λz=>by
  rcases z with(z|⟨u,z⟩)|z
  .exact .inl (.inl (N _ _ z (cW z T (by intro A;cases A))))
  .exact .inl (.inr ⟨u,N _ _ z (cW z T (by intro A;cases A))⟩)
  .exact .inr z
 have h:∀{c:Z} {e:List Z} {f:List Pr},av K H c (e.map V.ref)->fJ K H e f->f≠[]->av K r c (e.map V.ref):=λ{c e f} z a0 a1=>by
  rcases z with(z|⟨u,z⟩)|z
  .exact .inl (.inl (b z))
  .refine .inl (.inr ⟨u,N _ _ z (cW z T λA=>?_)⟩);injection A with _ A;injection A with A;cases a0 with
   |nil=>exact a1 S
   |cons _ _=>
    cases i with
    |nil=>cases A
    |cons _ _=>injection A with A _;cases A
  .exact .inr z
 have a2:(aq pc).map D≠[]:=λA=>by have:=dY (f:=D) (gk (gW pc));rw [A]at this;cases this
 exists v,x,y,B,E,F,L,m M,b R,⟨W,b X,λa3 a4=>let⟨⟨a5,bd⟩,be⟩:=ab a3 a4;⟨⟨a5,m bd⟩,b be⟩,ad,al⟩,N _ _ j (cW j T (by intro A;cases A)),⟨am,h an k (by unfold bp;intro A;cases A),Paired.cb k λ_ _=>g⟩,ap,h as l a2,Paired.cb l λ_ _=>g
def eG.off{H:U}{c:aL}(z:bN d H r)(A:H d=Y (.bP c (.lst (wf.map V.int))))(e:eG K Q pi s2 H q Da):eG K Q pi s2 r q Da:=by let⟨f,g,lk,h,a,i,b,j,k⟩:=e.ex;exists f,g,lk,h,z _ _ a (cW a A (by intro D;cases D)),i.off z A,z _ _ b (cW b A (by intro D;cases D)),Paired.cb j λ_ _ l=>l.off z A,k
theorem Q2:Passes (bA m p) h E0:=λ_ _ _ _ _ _ _ A=>by let⟨_,_,_,_,_,_,_,_,_,_,_,_,D⟩:=A;exact D.elim
inductive uc (K:af) (A:List V) (H:U) (D:VK) (M:XK):Prop
 |mk(ln l:_)(_:A=[.ref ln])(_:av K H ln (l.map V.int))(_:l.length<=17000)(_:Hx l=I)(_:∀(z:U) (p:Z),z p=Y (.lst ((vl l).map V.int))->D (.ref p) z)
def Q3(c0:a9 K "answers" "answers" ub s2 o0)(c1:L "len"=O)(c2:iu m p K L P (bA m p) 11 "Ladder" q ["self"] (FH K q Q pi))(c3:iu m p K L P aE 1 "Row" d ["self","numbers"] (EW d))(c4:h_ 1 d "has_more" ["self"] (ES K d))(c5:g_ 14 "answer_or_refusal" ["ladder","row"] (FQ K q Q pi d)):f_ 15 s2 o0 ["calls"] (uc K):=by
 refine c0.go ["calls","ladder","row","told","answer"] λf1 f2 f4 f8 H ga ge gl B a w _ _=>?_;let⟨C,b,rfl,CN,go,c6,c7⟩:=a;have sz:(200000:Nat)<aU:=by decide
 have c8:=B.mo 1;have c9:=B.mo 2
 have db:=B.mo 12;exists _,ar (bj 1 w (Lo (E:=E0) c2 db Q2)) (ar (bj 2 w (iv (E:=E0) c3 c9 cx (aJ 0))) (ar (bj 3 w (de aC)) (ar (oe dZ (kn (dR (E:=E0) (T 2) c4 c8 cx)) (ar (my (bj 4 w (bI c5 B (A (T 1) (aJ 2))))) (ar (cM (fe fu f9 gF fQ (T 3) (A (cR el (by rfl) c1 dE (aJ 4)) aC))) (ay (cM (fe fu zf HB vZ (T 3) (aJ 4))))))) (ay (aQ (T 3)))))),?_;let⟨f,dd,gt,dl,g1⟩:=NH c6;intro CR W a1 dp ds;have dx:Ext H (upd (upd H W (.own CR)) CR (.ins q W [])):=(Ext.one dp).new ((ah ds.symm).trans a1)
 exists CR,W,S,M,λn dK a2=>⟨S,?_⟩;have a3:Ext H n:=λc o s=>dK c o (dx _ _ s) (cB s a1)
 exists _,S,λN e a4 a5 bd=>?_;have g2:Ext n (upd (upd n e (.own N)) N (.ins d e [])):=(Ext.one a5).new ((ah bd.symm).trans a4)
 exists N,e,C,S,M,S,?_;have G:Ext n (upd (upd (upd n e (.own N)) N (.ins d e [])) N (.ins d e (nv C 0))):=by rw [gS];exact(Ext.one a5).new ((ah bd.symm).trans a4)
 have be:upd (upd (upd n e (.own N)) N (.ins d e [])) N (.ins d e (nv C 0)) N=Y (.ins d e (nv C 0)):=M;generalize upd (upd (upd n e (.own N)) N (.ins d e [])) N (.ins d e (nv C 0))=bi at*;exists cP _,λD t=>?_;have X:∀{o},Ext bi (upd bi D o):=Ext.one t
 have dL:∀{g r:U},av K g C (b.map V.int)->bN D g r->av K r C (b.map V.int):=by
  rcases CN with CN|CN
  .have bk:C≠D:=by
    rcases(a3.trans G).rd CN with a|⟨u,a⟩
    .exact cB a t
    .exact cB a t
   intro g r a v;rcases a with(a|⟨u,a⟩)|a
   .exact .inl (.inl (v _ _ a bk))
   .exact .inl (.inr ⟨u,v _ _ a bk⟩)
   .exact .inr a
  .exactλ_ _=>.inr CN
 have dT:∀(g:U) o bl,bN D (upd g D o) (upd g D bl):=λg o bl c u s ab=>by rw [ah ab]at s⊢;exact s
 have bm:∀{g r:U} {i:Nat},gz K d g N C b i->bN D g r->N≠D->gz K d r N C b i:=λh v ab=>⟨let⟨dX,a⟩:=h.1;⟨dX,v _ _ a ab⟩,dL h.2.1 v,h.2.2⟩
 have d0:CR≠D:=let⟨_,_,_,_,l,_,_,_,_⟩:=a2.ex;cB (G _ _ l) t
 have bn:N≠D:=cB be t;let d1:VLx:=λbs bt k=>X5 λbv i CL f j=>A8 (bt=[Y (.ref C),Y (.ref CR),Y (.ref N),Y (.ref D),bv]) (eG K q Q pi (upd k D (.ins 0 0 [])) CR CL) (gz K d k N C b i) (k D=Y (.lst (j.map V.int))) (Calls (b.drop i) f) (j++tE CL f=vl b) (j.length+5001*f.length<=150030) (bs=f.length)
 exists d1,⟨_,O,0,Hy,f,[],S,by rw [gS];exact a2.ext (G.trans X),⟨⟨e,X _ _ be⟩,((a3.trans G).trans X).ef CN,cP _,by lia⟩,M,dd,dl.symm,by show 0+_<=_;lia,S⟩,?_;rintro bs bt k ⟨bv,i,CL,f,j,rfl,em,ad,hw,ca,cd,eq,rfl⟩;let⟨⟨es,ev⟩,_⟩:=id ad;exists _,S,N,es,_,S,ev,S,N,C,b,i,S,ad,_,S,?_;generalize x:b.drop i=ld at ca;cases ca with
 |nil=>
  have al:¬i<b.length:=λl=>by
   have:=bD cN x;rw [l6]at this;simp only [iP]at this
   lia
  rw [bU al];refine b1 ⟨_,S,c7 k D ?_⟩;rw [hw,<-cd];show _=Y (HO.lst ((j++[]).map V.int))
  rw [b0]
 | @cons _ c h f ce ex=>
  let⟨y,g3,fa,ch,ci⟩:=Q1 ce;have al:i<b.length:=by
   have:=bD cN (x.trans fa);rw [l6,dn]at this
   lia
  rw [cq al];refine cf ⟨_,(λhd he a=>a),?_⟩;exists D,_,hw,trivial,λcl=>?_;have fd:bN D k (upd k D (.bP cl (.lst (j.map V.int)))):=(bN.refl D k).gZ
  have cn:=em.but (dT k _ (.bP cl (.lst (j.map V.int)))) M (by decide) d0;have co:=bm ad fd bn
  let⟨_,_,_,_,fl,_⟩:=cn.ex;let⟨⟨_,fm⟩,_⟩:=id co;exists _,S,_,S,CR,N,C,b,i,CL,c,h,S,cn,co,by rw [x];exact ce,λR am fn fr fs an hf=>?_;have ap:=fn _ _ M (cW M fl (by intro l;cases l)) (cW M fm (by intro l;cases l))
  have cr:R≠D:=cW an ap (by intro l;cases l);have hi:j.length<=150030:=by lia
  exists ap,?_;exists _,S,.inl ⟨S,_,av.of M⟩,_,S,R,_,S,.inl (av.of ((ah cr).trans an)),D,_,_,S,S,M,by rw [z];lia,?_;rw [gS];exists _,S,.inl ⟨S,_,av.of M⟩,_,S,D,R,_,_,S,S,M,(ah cr).trans an,by rw [br,z,z];show j.length+1+_<=_;lia,?_;rw [gS];have cs:∀o,bN D am (upd am D o):=λo=>(bN.refl D am).gZ
  have fT:b.drop (b.length-h.length)=h:=by
   have ct:(b.drop i).drop ch.length=h:=by rw [x,ci,List.drop_left]
   rw [HD]at ct;have f0:=bD cN (x.trans ci)
   rw [l6,br]at f0;rw [show b.length-h.length=i+ch.length by lia];exact ct
  exists f.length,by show _<f.length+1;lia,Y (.ref R),b.length-h.length,(iW CL c).1,f,j++((toldOf (iW CL c).2).length:Int)::toldOf (iW CL c).2,S,by rw [gS];exact fr.off (cs _) ap,bm fs (cs _) bn,?_,by rw [fT];exact ex,?_,?_,S
  .rw [M,z,aT,aZ,ck];rfl
  .rw [<-cd];rw [ck];rfl
  .rw [br,dn];rw [dn]at eq
   lia
def GF(K:af)(G:aa->Option J)(x:aa)(st:a7)(ps:List aa):Prop:=∃z A,a9 K x x st z A/\Binds K A ps []/\G x=Y (.ref z)
def MF(K:af)(C:Z)(m q:aa)(st:a7)(ps:List aa):Prop:=∃z A,a9 K m q st z A/\Binds K A ps []/\Meth K C m z
def NF(K:af)(G:aa->Option J)(x:aa)(C:Z)(q:aa)(st:a7)(ps:List aa):Prop:=∃z A,a9 K "__init__" q st z A/\Binds K A ps []/\Mk K C z/\G x=Y (.ref C)
structure Q4(L:aa->Option J):Prop where
 Q5:L "len"=O
 Q6:L "min"=O
 FR:L "ord"=O
 FT:L "range"=O
 Q7:L "enumerate"=O
 FU:L "list"=O
 FV:L "dict"=O
 FW:L "sum"=O
 Q8:L "max"=O
variable{op:aa}{s4:List aa}{Fa:gi}{AC:Sp}
theorem GF.to(T:GF K L op wP s4)(D:aw)(M:au)(N:aD)(U:∀z A,a9 K op op wP z A->aV D M K L N Fa B z A s4 AC):bz D M K L N Fa B op s4 AC:=let⟨z,A,S,a,b⟩:=T;⟨z,A,U z A S,a,b,S.kp⟩
variable{GE:aa}
theorem MF.to(c:fc K d)(S:MF K d op GE wP s4)(D:aw)(M:au)(G:aa->Option J)(N:aD)(T:∀z A,a9 K op GE wP z A->aV D M K G N Fa B z A s4 AC):cC D M K G N Fa B d op s4 AC:=let⟨z,A,U,a,b⟩:=S;⟨⟨z,A,T z A U,a,b⟩,c⟩
theorem NF.to(S:NF K L op d GE wP s4)(D:aw)(M:au)(N:aD)(T:∀z A,a9 K "__init__" GE wP z A->aV D M K L N Fa B z A s4 AC):iu D M K L N Fa B op d s4 AC:=let⟨z,A,U,a,b,c⟩:=S;⟨⟨z,A,T z A U,a,b⟩,c⟩
variable{Hp KK:Z}
def join{K:af}{o f1:Z}(a:yY K L wv)(g3:FN L)(h:Gs L)(f2:Gk L)(c:kH K q)(N:eE K Q s2)(f:kN K o)(rw:rm K pi)(S:g0 K d)(e:Q4 L) (E:L "PARTS"=Y (.ref v4)) (F:KD K m p v4 gK) (f4:L "BINDERS"=Y (.ref BT)) (f8:∀H,ax K H BT [.str "fun",.str "let"]) (bi:L "NUMBERS"=Y (.ref Hp)) (bk:∀H,ax K H Hp (b4 (0,0))) (ga:L "KIND_OF_MAKER"=Y (.ref KK)) (ge:KD K m p KK lT) (gl:L "RUNGS"=Y (.ref f1)) (go:∀H,ax K H f1 [.int 0,.int 1,.int 2,.int 3])(hd:∃U,L "MOST_DIGITS"=Y (.int 2 U)) (he:∃U,L "MOST_LETTERS"=Y (.int 4 U)) (hf:∃U,L "MOST_NODES"=Y (.int 30 U)) (hi:∃U,L "MOST_AROUND"=Y (.int 8 U)) (hm:∃U,L "MOST_KEPT"=Y (.int 8 U)) (hz:∃U,L "EVERYTHING"=Y (.int 0 U)) (h0:∃U,L "BY_KINDS"=Y (.int 1 U)) (h1:∃U,L "BOTH_WAYS"=Y (.int 2 U))(h2:∃U,L "SIGNS"=Y (.str " ()0123456789abcdefghijklmnopqrstuvwxyz" U)) (id:∃U,L "NO_SIGN"=Y (.str "?" U)) (ii:∃U,L "NUMBER"=Y (.str "a number" U)) (im:∃U,L "GIVEN"=Y (.str "in" U))(bl:GF K L "is_number" C1 ["word"])(A:GF K L "is_name" C2 ["word"])(bm:GF K L "signs_of" Dh ["text"])(bn:GF K L "words_of" C9 ["signs"])(P:GF K L "read_expression" DJ ["text"])(G:GF K L "labels_of" DT ["nodes","forms"])(bs:GF K L "binders_of" DV ["nodes"])(bt:GF K L "binder_of" DW ["nodes","label"])(bv:GF K L "sorts_of" DX ["nodes"])(ca:GF K L "places_of" DY ["nodes"])(D:GF K L "empty_table" Ef ["program"])(b:GF K L "own_table" Eg ["program"])(n:GF K L "ways_of" DQ ["program","table"])(cd:GF K L "standing_ways" Dq ["program","label"])(ce:GF K L "ways_by_facts" ya ["program","label","table"])(ch:GF K L "call_ways" DL ["program","label","table"])(R:GF K L "labels_at" Dm ["table","label","kind"])(ci:GF K L "places_that_steer" EI ["program","place"])(r:GF K L "ask_alone" Ff ["program","place"])(s:GF K L "last_classes" yK ["program"])(cn:GF K L "put_together" yC ["classes","kept","lost"])(V:GF K L "table_of_classes" yI ["program","classes"])(X:GF K L "members" yD ["program","classes","place"])(co:GF K L "class_sizes" yE ["program","classes"])(t:GF K L "table_of_rung" EH ["program","rung"])(cr:GF K L "everything_table" Eu ["program"])(cs:GF K L "kinds_table" Ew ["program"])(u:GF K L "least_table" Ej ["program"])(ab:GF K L "as_keys" Dj ["sorts"])(v:GF K L "sorts_at" Dl ["program","table","place"])(ad:GF K L "how_many_facts" Em ["table"])(al:GF K L "functions_at" En ["program","table","place"])(am:GF K L "arrows_of" Eo ["program","table"])(ct:GF K L "changed_program" Fh ["program","label","text"])(c0:GF K L "moved_labels" Fn ["old","new","label"])(an:GF K L "moved_two" EX ["two","moved"])(c1:GF K L "moved_sort" yO ["sort","moved"])(c2:GF K L "how_many_kept" Fp ["old_table","new_table","moved"])(c3:GF K L "kept_gone_and_new" Fs ["old","new","label"])(ap:GF K L "check_rung" EV ["rung"])(l:GF K L "counted_twos" ER ["twos"])(c4:GF K L "carry_out" FK ["ladder","row"])(c5:GF K L "answer_or_refusal" FP ["ladder","row"])(io:GF K L "answers" ub ["calls"])(as:MF K q "peek" "Reading.peek" Dd ["self"])(w:MF K q "take" "Reading.take" De ["self"])(a0:MF K q "pass_over" "Reading.pass_over" Df ["self","word"])(a1:MF K q "begin_node" "Reading.begin_node" DC ["self"])(c6:MF K q "read_head" "Reading.read_head" Dv ["self"])(c7:MF K q "read_bracketed_head" "Reading.read_bracketed_head" Dx ["self"])(c8:MF K q "read_on" "Reading.read_on" DD ["self"])(c9:MF K Q "has_node" "Program.has_node" D8 ["self","label"])(db:MF K Q "is_call" "Program.is_call" D9 ["self","label"])(a2:MF K Q "calls_within" "Program.calls_within" Ea ["self"])(first:MF K Q "first_part_of" "Program.first_part_of" Eb ["self","label"])(dd:MF K o "look_further" "Asking.look_further" yU ["self"])(dl:MF K o "find_facts" "Asking.find_facts" Fd ["self"])(dp:MF K o "how_much" "Asking.how_much" E8 ["self"])(ds:MF K pi "has_more" "Row.has_more" EM ["self"])(a3:MF K pi "take_number" "Row.take_number" EN ["self"])(dx:MF K pi "take_text" "Row.take_text" EO ["self"])(replace:MF K d "replace_program" "Ladder.replace_program" (eg 1) ["self","text"])(dK:MF K d "tell_text" "Ladder.tell_text" (eg 2) ["self"])(dL:MF K d "tell_set" "Ladder.tell_set" (eg 3) ["self","rung","label"])(dT:MF K d "tell_arrows" "Ladder.tell_arrows" (eg 4) ["self","rung"])(dX:MF K d "tell_counts" "Ladder.tell_counts" (eg 5) ["self"])(d0:MF K d "tell_class" "Ladder.tell_class" (eg 6) ["self","label"])(d1:MF K d "tell_classes" "Ladder.tell_classes" (eg 7) ["self"])(em:MF K d "tell_asked" "Ladder.tell_asked" (eg 8) ["self","label"])(eq:MF K d "tell_funs" "Ladder.tell_funs" (eg 9) ["self","label"])(es:MF K d "tell_looked" "Ladder.tell_looked" (eg 10) ["self","label"])(change:MF K d "change_program" "Ladder.change_program" (eg 11) ["self","label","text"])(ev:MF K d "undo_change" "Ladder.undo_change" (eg 12) ["self"])(ex:MF K d "tell_size" "Ladder.tell_size" (eg 13) ["self"])(i:MF K d "check_node" "Ladder.check_node" (eg 14) ["self","label"])(a4:NF K L "Node" s2 "Node.__init__" Dt ["self","form","word"])(fa:NF K L "Reading" q "Reading.__init__" DI ["self","words"])(x:NF K L "Program" Q "Program.__init__" D7 ["self","text"])(fd:NF K L "Asking" o "Asking.__init__" yS ["self","program","place"])(fl:NF K L "Row" pi "Row.__init__" EL ["self","numbers"])(fm:NF K L "Ladder" d "Ladder.__init__" (eg 0) ["self"]):∃y a5,L "answers"=Y (.ref y)/\a9 K "answers" "answers" ub y a5/\∀M:aD,aV m p K L M aE 15 y a5 ["calls"] (uc K):=by
 let⟨_,is⟩:=hd;let⟨_,it⟩:=he;let⟨_,ix⟩:=hf;let⟨_,jp⟩:=hi;let⟨_,kk⟩:=hm;let⟨_,kp⟩:=hz;let⟨_,ks⟩:=h0;let⟨_,kt⟩:=h1;let⟨_,kw⟩:=h2;let⟨_,kP⟩:=id;let⟨_,gt⟩:=ii;let⟨_,fn⟩:=im;let⟨_,g1⟩:=h.used;let⟨_,B⟩:=h.call;let⟨_,j⟩:=h.node;let⟨_,kV⟩:=h.name;let⟨_,k0⟩:=h.inside;let⟨_,g2⟩:=f2.fn;have T:=e.Q5
 have bd:=e.Q7;let⟨y,a5,z,k2,k1⟩:=io;exists y,a5,k1,z,λM=>?_;have bl:=bl.to m p M λ_ _ z=>NM z T is
 have A:=A.to m p M λ_ _ z=>NP z T it E F;have bm:=bm.to m p M λ_ _ z=>N2 z e.FR kw kP
 have bn:=bn.to m p M λ_ _ z=>NU z;have a4:=a4.to m p M λ_ _ z=>Oa z N.n
 have fa:=fa.to m p M λ_ _ z=>Ox z c;have as:=MF.to c.cl as m p L M λ_ _ z=>NW z c T
 have w:=MF.to c.cl w m p L M λ_ _ z=>NX z c T e.Q6 as;have a0:=MF.to c.cl a0 m p L M λ_ _ z=>NY z w a.x1 (a.fV 1 (by decide)).1
 have c7:=MF.to c.cl c7 m p L M λ_ _ z=>Of z c a.x1 (a.fV 1 (by decide)).1 E F f4 f8 B fn as w a0 a4 A;have c6:=MF.to c.cl c6 m p L M λ_ _ z=>Oi z c a.x1 (a.fV 1 (by decide)).1 gt fn g1 w c7 a4 A bl
 have a1:=MF.to c.cl a1 m p L M λ_ _ z=>Ol z c N.n a.x1 (a.fV 1 (by decide)).1 E F T ix jp c6;have c8:=MF.to c.cl c8 m p L M λ_ _ z=>Ou z c N.n E F T B a0 a1
 have P:=P.to m p M λ_ _ z=>Oy z c a.x1 (a.fV 1 (by decide)).1 T bm bn fa a1 c8;have G:=G.to m p M λ_ _ z=>OJ z N.n.cl N.n.aK bd
 have bt:=bt.to m p M λ_ _ z=>OK z N.n a.x1 (a.fV 1 (by decide)).1;have bs:=bs.to m p M λ_ _ z=>OO z g1 G bt
 have bv:=bv.to m p M λ_ _ z=>OR z N.n bd bi bk ga ge;have ca:=ca.to m p M λ_ _ z=>OZ z h T e.FT f4 f8 G
 have x:=x.to m p M λ_ _ z=>O0 z N e.FU P bs bv ca;have c9:=MF.to N.p.c c9 m p L M λ_ _ z=>O1 z N T
 have db:=MF.to N.p.c db m p L M λ_ _ z=>O2 z N B;have a2:=MF.to N.p.c a2 m p L M λ_ _ z=>O3 z N B G
 have first:=MF.to N.p.c first m p L M λ_ _ z=>O4 z N j
 have D:=D.to m p M λ_ _ z=>O5 z N;have b:=b.to m p M λ_ _ z=>Pa z N bd bi bk ga ge j gt fn D
 have R:=R.to m p M λ_ _ z=>N5 z j;have cd:=cd.to m p M λ_ _ z=>N9 z N.p h
 have ch:=ch.to m p M λ_ _ z=>Oz z N.p h g2 R;have ce:=ce.to m p M λ_ _ z=>OB z N.p h f2 R ch
 have n:=n.to m p M λ_ _ z=>OE z N.p T e.FT cd ce;have ab:=ab.to m p M λ_ _ z=>N3 z
 have v:=v.to m p M λ_ _ z=>N4 z N.p.c N.p.sorts;have u:=u.to m p M λ_ _ z=>Pc z N T b n
 have ad:=ad.to m p M λ_ _ z=>Ph z T e.FW;have al:=al.to m p M λ_ _ z=>Pj z N g2 v
 have am:=am.to m p M λ_ _ z=>Pk z N a2 first al
 have cr:=cr.to m p M λ_ _ z=>Pm z N ab;have cs:=cs.to m p M λ_ _ z=>Pn z N ab u
 have cn:=cn.to m p M λ_ _ z=>Pq z e.FU;have X:=X.to m p M λ_ _ z=>Pt z N
 have co:=co.to m p M λ_ _ z=>Pw z N T X;have V:=V.to m p M λ_ _ z=>PD z N e.FV b
 have s:=s.to m p M λ_ _ z=>PJ z N V n cn;have t:=t.to m p M λ_ _ z=>PK z kp ks kt cr cs V s u
 have ci:=ci.to m p M λ_ _ z=>PM z N j kV k0 B a2 first G
 have fd:=fd.to m p M λ_ _ z=>Qb z f D;have dp:=MF.to f.cl dp m p L M λ_ _ z=>Qc (C:=Q) (CN:=s2) z f T e.FW
 have dd:=MF.to f.cl dd m p L M λ_ _ z=>Qd z f e.FV ci n;have dl:=MF.to f.cl dl m p L M λ_ _ z=>Qe z f b n
 have r:=r.to m p M λ_ _ z=>Qi z f fd dp dd dl;have ct:=ct.to m p M λ_ _ z=>Qq z N P x
 have c0:=c0.to m p M λ_ _ z=>Qs z N T bd;have an:=an.to m p M λ_ _ z=>PZ z
 have c1:=c1.to m p M λ_ _ z=>P0 z bi bk an;have c2:=c2.to m p M λ_ _ z=>Qt z T an c1
 have c3:=c3.to m p M λ_ _ z=>Qu z u c2 c0 ad;have fl:=fl.to m p M λ_ _ z=>PX z rw
 have ds:=MF.to rw.cl ds m p L M λ_ _ z=>PN z rw T;have a3:=MF.to rw.cl a3 m p L M λ_ _ z=>PQ z rw
 have dx:=MF.to rw.cl dx m p L M λ_ _ z=>PV z rw a3;have ap:=ap.to m p M λ_ _ z=>PY z a.x2 (a.fV 2 (by decide)).1 gl go
 have l:=l.to m p M λ_ _ z=>PR z T;have fm:=fm.to m p M λ_ _ z=>QM z S e.FR x
 have i:=MF.to S.cl i m p L M λ_ _ z=>Qz z S a.x3 (a.fV 3 (by decide)).1 c9;have replace:=MF.to S.cl replace m p L M λ_ _ z=>QN (Xn:=wv) z S N T x
 have dK:=MF.to S.cl dK m p L M λ_ _ z=>QA (Xn:=wv) z S N T;have dL:=MF.to S.cl dL m p L M λ_ _ z=>QB (Xn:=wv) z S j ap i t v l
 have dT:=MF.to S.cl dT m p L M λ_ _ z=>QD (Xn:=wv) z S ap t am l;have dX:=MF.to S.cl dX m p L M λ_ _ z=>QH (Xn:=wv) z S T gl go t am ad
 have d0:=MF.to S.cl d0 m p L M λ_ _ z=>QE (Xn:=wv) z S j i s X l;have d1:=MF.to S.cl d1 m p L M λ_ _ z=>QF (Xn:=wv) z S T e.Q8 s co
 have em:=MF.to S.cl em m p L M λ_ _ z=>QJ (Xn:=wv) z S f T j i r v l;have eq:=MF.to S.cl eq m p L M λ_ _ z=>QK (Xn:=wv) z S f T a.x5 (a.fV 5 (by decide)).1 i db first r al
 have es:=MF.to S.cl es m p L M λ_ _ z=>QL (Xn:=wv) z S f N j i r l;have change:=MF.to S.cl change m p L M λ_ _ z=>QP (Xn:=wv) z S N T kk i ct c3
 have ev:=MF.to S.cl ev m p L M λ_ _ z=>QQ (Xn:=wv) z S N T a.x4 (a.fV 4 (by decide)).1;have ex:=MF.to S.cl ex m p L M λ_ _ z=>QI (Xn:=wv) z S N T
 have c4:=c4.to m p M λ_ _ z=>QZ z g3 ⟨a3,dx,replace,dK,dL,dT,dX,d0,d1,em,eq,es,change,ev,ex⟩;have c5:=c5.to m p M λ_ _ z=>Q0 z a c4
 exact Q3 z T fm fl ds c5
end Cf
namespace L2
open PySem.W (WData Codec OpenSpec Well WellAll ReadsW ReadsAllW)
mutual
inductive Dw (K:af) (H:U):V->eJ->Prop
 |bw:Dw K H .bw .none
 |bl (b:Bool):Dw K H (.bl b) (.bool b)
 |int (i:Int):Dw K H (.int i) (.int i)
 |str (x:aa):Dw K H (.str x) (.str x)
 |fO (b:Array UInt8):Dw K H (.fO b) (.bytes b.toList)
 |lst {a:Z} {xs:List V} {ds:List eJ}:av K H a xs->iH K H xs ds->Dw K H (.ref a) (.list ds)
 |tup {a:Z} {xs:List V} {ds:List eJ}:ax K H a xs->iH K H xs ds->Dw K H (.ref a) (.tuple ds)
inductive iH (K:af) (H:U):List V->List eJ->Prop
 |nil:iH K H [] []
 |cons {v:V} {c:List V} {d:eJ} {ds:List eJ}:Dw K H v d->iH K H c ds->iH K H (v::c) (d::ds)
end
theorem Q9{K:af}{H:U}:∀z:List Int,iH K H (z.map V.int) (z.map zx)
 |[]=>.nil
 |n::a=>.cons (.int n) (Q9 a)
theorem Ra{K:af}{H:U}:∀(A:List Int) (z:List V),iH K H z (A.map zx)->z=A.map V.int
 |[],z,a=>by cases a;rfl
 |n::b,z,a=>by
  cases a with
  |cons c d=>
   cases c;rw [Ra b _ d]<;>rfl
variable{P:aD}{d:Z}{t3:List V}{m:aw}{p:au}{K:af}{H:U}
def Rb(U:dv m p H P)(a:K.In P)(M:av K H d t3):∃(z:List J) (o:aL) (A:Nat),Vals t3 z/\P.get? d=Y o/\o.cls=.type "list"/\o.data=.seq z.toArray A:=by
 rcases M with M|⟨o,z,A,N,b,_,hd,_,T⟩
 .obtain⟨_,z,A,T,N⟩:=(show d2 m p H P d (.lst t3)from M.ok U)
  exists z,_,A,T,N,S,S
 .exact⟨z.toList,o,A,T,a _ _ N,b,by simp [hd]⟩
def Rc(a:dv m p H P)(b:K.In P)(M:ax K H d t3):∃(z:List J) (o:aL) (A:Nat),Vals t3 z/\P.get? d=Y o/\o.cls=.type "tuple"/\o.data=.seq z.toArray A:=by
 rcases M with M|⟨o,z,A,N,S,T,_,U⟩
 .obtain⟨_,z,U,o,N,S,A,T⟩:=(show d2 m p H P d (.tup t3)from M.ok a)
  exists z,o,A,U,N,S,T
 .exact⟨z.toList,o,A,U,b _ _ N,S,by simp [T]⟩
variable{R:T6}{cl:aa->Option Z}
mutual
theorem Dw.reads(bf:dv m p H P)(a:K.In P):∀(d:eJ) (v:V) (u:J),Dw K H v d->RelV v u->∃A,ReadsW R cl P u d A
 |.none,_,_,x,r=>by
  cases x
  cases r
  exists _,ReadsW.none
 |.bool b,_,_,x,r=>by
  cases x
  cases r
  exists _,ReadsW.bool b
 |.int i,_,_,x,r=>by
  cases x
  let⟨D,rfl⟩:=r
  exists _,ReadsW.int i D
 |.str s,_,_,x,r=>by
  cases x
  let⟨D,rfl⟩:=r
  exists _,ReadsW.str s D
 |.bytes b,_,_,x,r=>by
  cases x
  let⟨D,rfl⟩:=r
  exists _,ReadsW.bytes _ D
 |.list z,_,_,x,r=>by
  cases x with
  |lst c e=>
   cases r
   let⟨G,o,n,M,N,T,hd⟩:=Rb bf a c
   let⟨A,U⟩:=Dw.readsAll bf a z _ G e M
   exists _,ReadsW.list N T hd U
 |.tuple z,_,_,x,r=>by
  cases x with
  |tup c e=>
   cases r
   let⟨G,o,n,M,N,T,hd⟩:=Rc bf a c
   let⟨A,U⟩:=Dw.readsAll bf a z _ G e M
   exists _,ReadsW.tuple N T hd U
 |.float _,_,_,x,_=>by cases x
 |.dict _,_,_,x,_=>by cases x
 |.bytearray _,_,_,x,_=>by cases x
 |.set _,_,_,x,_=>by cases x
 |.frozenset _,_,_,x,_=>by cases x
 |.obj _ _,_,_,x,_=>by cases x
theorem Dw.readsAll(bf:dv m p H P)(a:K.In P):∀(z:List eJ) (f:List V) (g:List J),iH K H f z->Vals f g->∃A,ReadsAllW R cl P g z A
 |[],_,_,x,r=>by
  cases x
  cases r
  exists _,VM
 |d::z,_,_,x,r=>by
  cases x with
  |cons j k=>
   cases r with
   |cons l h=>
    let⟨A,w⟩:=Dw.reads bf a d _ _ j l
    let⟨bs,q⟩:=Dw.readsAll bf a z _ _ k h
    exists _,VN w q
end
mutual
def iI:eJ->Bool
 |.none=>I
 |.bool _=>I
 |.int _=>I
 |.str _=>I
 |.bytes _=>I
 |.list xs=>jW xs
 |.tuple xs=>jW xs
 |_=>ao
def jW:List eJ->Bool
 |[]=>I
 |x::r=>iI x&&jW r
end
variable{sB:Type}
theorem FX{z:sB->eJ}(D:∀G,iI (z G)=I):∀M:List sB,jW (M.map z)=I
 |[]=>rfl
 |x::a=>by show(iI (z x)&&jW (a.map z))=I;rw [D x,FX D a]<;>rfl
theorem lW:∀(c:Codec) (z:c.denote),iI (c.enc z)=I
 |.unit,_=>rfl
 |.bool,_=>rfl
 |.int _ _,_=>rfl
 |.nat _ _,_=>rfl
 |.u8,_=>rfl
 |.bytes _ _,_=>rfl
 |.text _ _ _ _,_=>rfl
 |.list _ _ c,z=>FX (λA=>lW c A) z
 |.pair c d,z=>by show(iI (c.enc z.1)&&(iI (d.enc z.2)&&I))=I;rw [lW c z.1,lW d z.2]<;>rfl
 |.triple c d a,z=>by show(iI (c.enc z.1)&&(iI (d.enc z.2.1)&&(iI (a.enc z.2.2)&&I)))=I;rw [lW c z.1,lW d z.2.1,lW a z.2.2]<;>rfl
 |.option c,O=>rfl
 |.option c,Y A=>lW c A
theorem FY:∀(A:List Codec) (z:z2 A),jW (rZ A z)=I
 |[],_=>rfl
 |c::A,z=>by show(iI (c.enc z.1)&&jW (rZ A z.2))=I;rw [lW c z.1,FY A z.2]<;>rfl
theorem yZ:∀{A:List eJ} {z:eJ},z∈A->z.weight<=T7 A
 |[],z,a=>absurd a (by simp)
 |x::b,z,a=>by
  show z.weight<=x.weight+1+T7 b;rcases bg.mp a with D|m
  .rw [D]
   lia
  .have G:=yZ m
   lia
def toV:J->V
 |.none=>.bw
 |.bool b=>.bl b
 |.int i _=>.int i
 |.str x _=>.str x
 |.bytes b _=>.fO b
 |.ref a=>.ref a
 |_=>.bw
def ia(z:List Z):J->Prop
 |.none=>True
 |.bool _=>True
 |.int _ _=>True
 |.str _ _=>True
 |.bytes _ _=>True
 |.ref a=>a∈z
 |_=>False
variable{v2 VT:List Z}
theorem ia.mono(M:∀z∈v2,z∈VT):∀{u:J},ia v2 u->ia VT u:=λ{u} G=>by
 cases u with
 |ref z=>exact M z G
 |none=>trivial
 |bool b=>trivial
 |int i a=>trivial
 |str c a=>trivial
 |bytes b a=>trivial
 |_=>exact g5 G
def Rf{u:J}(A:ia v2 u):RelV (toV u) u:=by
 cases u with
 |ref a=>rfl
 |none=>rfl
 |bool c=>rfl
 |int i b=>exists b,S
 |str d b=>exists b,S
 |bytes c b=>exists b,S
 |_=>exact g5 A
theorem pH:∀{z:List J},(∀u∈z,ia v2 u)->Vals (z.map toV) z
 |[],_=>.nil
 |u::b,a=>.cons (Rf (a u (bE ..))) (pH λD G=>a D (bC _ G))
def iJ(A:aD)(G:List Z)(D:Z):Prop:=∃z:List J,z.length<=aU/\(∀u∈z,ia G u)/\
 (A.get? D=Y {cls:=.type "list",data:=.seq z.toArray}\/A.get? D=Y {cls:=.type "tuple",data:=.seq z.toArray})
def iJ.mono(M:∀d∈v2,d∈VT)(N:iJ P v2 d):iJ P VT d:=by let⟨S,T,U,a⟩:=N;exists S,T,λu b=>(U u b).mono M,a
variable{SL:j7}
theorem ud:∀{z:List J} {A:List eJ},kW SL P z A->z.length=A.length
 |_,_,.nil=>rfl
 |_,_,.cons _ a=>by show _+1=_+1;rw [ud a]
variable{Re:List eJ}
def FZ{v:J}(N:Well SL P v (.list Re)):∃(G:Z) (M:List J),v=.ref G/\P.get? G=Y {cls:=.type "list",data:=.seq M.toArray}/\kW SL P M Re:=by
 cases N with
 |list a b=>exists _,_,S,a,b
def F0{v:J}(N:Well SL P v (.tuple Re)):∃(G:Z) (M:List J),v=.ref G/\P.get? G=Y {cls:=.type "tuple",data:=.seq M.toArray}/\kW SL P M Re:=by
 cases N with
 |tuple a b=>exists _,_,S,a,b
variable{t0:List J}
def F1{G:eJ}(T:kW SL P t0 (G::Re)):∃(v:J) (N:List J),t0=v::N/\Well SL P v G/\kW SL P N Re:=by
 cases T with
 |cons a b=>exists _,_,S,a,b
variable{B:Nat}
theorem F2(A:B<=1048576):B<=aU:=cu A (by decide)
mutual
theorem Rg:∀(d:eJ) (v:J),Well SL P v d->iI d=I->d.weight<=1048576->∃A:List Z,ia A v/\∀a∈A,iJ P A a
 |.none,_,x,_,_=>by
  cases x
  exists [],trivial,λa m=>absurd m (by simp)
 |.bool D,_,x,_,_=>by
  cases x
  exists [],trivial,λa m=>absurd m (by simp)
 |.int i,_,x,_,_=>by
  cases x
  exists [],trivial,λa m=>absurd m (by simp)
 |.str s,_,x,_,_=>by
  cases x
  exists [],trivial,λa m=>absurd m (by simp)
 |.bytes D,_,x,_,_=>by
  cases x
  exists [],trivial,λa m=>absurd m (by simp)
 |.list M,_,x,p,z=>by
  let⟨a,N,rfl,f,U⟩:=FZ x
  have b:=z
  let⟨A,g,j⟩:=ue M _ U p λd hd=>cu (yZ hd) b
  have k:∀D∈A,D∈a::A:=λD G=>bC _ G
  exists a::A,bE ..,λD G=>?_
  rcases bg.mp G with T|m
  .rw [T]
   exists N,F2 (ud U▸cu (T8 M) b),λu c=>(g u c).mono k,.inl f
  .exact(j D m).mono k
 |.tuple M,_,x,p,z=>by
  let⟨a,N,rfl,f,U⟩:=F0 x
  have b:=z
  let⟨A,g,j⟩:=ue M _ U p λd hd=>cu (yZ hd) b
  have k:∀D∈A,D∈a::A:=λD G=>bC _ G
  exists a::A,bE ..,λD G=>?_
  rcases bg.mp G with T|m
  .rw [T]
   exists N,F2 (ud U▸cu (T8 M) b),λu c=>(g u c).mono k,.inr f
  .exact(j D m).mono k
 |.float _,_,_,p,_=>ih (show ao=I from p)
 |.dict _,_,_,p,_=>ih (show ao=I from p)
 |.bytearray _,_,_,p,_=>ih (show ao=I from p)
 |.set _,_,_,p,_=>ih (show ao=I from p)
 |.frozenset _,_,_,p,_=>ih (show ao=I from p)
 |.obj _ _,_,_,p,_=>ih (show ao=I from p)
theorem ue:∀(M:List eJ) (N:List J),kW SL P N M->jW M=I->(∀d∈M,d.weight<=1048576)->∃A:List Z,(∀u∈N,ia A u)/\∀a∈A,iJ P A a
 |[],_,x,_,_=>by
  cases x
  exists [],λu m=>absurd m (by simp),λa m=>absurd m (by simp)
 |d::M,_,x,p,z=>by
  let⟨v,N,rfl,x1,x2⟩:=F1 x
  have l:=T9.mp p
  let⟨A,q,r⟩:=Rg d v x1 l.1 (z d (bE ..))
  let⟨e,t,w⟩:=ue M N x2 l.2 λT y=>z T (bC _ y)
  have n:∀D∈A,D∈A++e:=λD G=>bR.mpr (.inl G)
  have o:∀D∈e,D∈A++e:=λD G=>bR.mpr (.inr G)
  exists A++e,λu c=>?_,λD G=>?_
  .rcases bg.mp c with T|m
   .rw [T]
    exact q.mono n
   .exact(t u m).mono o
  .rcases bR.mp G with m|m
   .exact(r D m).mono n
   .exact(w D m).mono o
end
def uf(o:aL):Option HO:=match o.data with
 |.seq a _=>if(o.cls==pK "list")=I then Y (.bP o (.lst (a.toList.map toV)))else Y (.bP o (.tup (a.toList.map toV)))
 |_=>O
def f7(K:af)(A:aD)(D:List Z):U:=λz=>if z∈D then(if(K.lookup z).isNone=I then(A.get? z).bind uf else O)else O
def rp(H:U):Prop:=∀z,H z=O\/∃o u,H z=Y (.bP o u)
def F3(z:List J):uf {cls:=.type "list",data:=.seq z.toArray}=Y (.bP {cls:=.type "list",data:=.seq z.toArray} (.lst (z.map toV))):=by show(if(pK "list"==pK "list")=I then Y (HO.bP {cls:=.type "list",data:=.seq z.toArray} (.lst (z.toArray.toList.map toV)))else Y (HO.bP {cls:=.type "list",data:=.seq z.toArray} (.tup (z.toArray.toList.map toV))))=_;rw [ai (G4 _)]
def F4(z:List J):uf {cls:=.type "tuple",data:=.seq z.toArray}=Y (.bP {cls:=.type "tuple",data:=.seq z.toArray} (.tup (z.map toV))):=by show(if(pK "tuple"==pK "list")=I then Y (HO.bP {cls:=.type "tuple",data:=.seq z.toArray} (.lst (z.toArray.toList.map toV)))else Y (HO.bP {cls:=.type "tuple",data:=.seq z.toArray} (.tup (z.toArray.toList.map toV))))=_;rw [N (by decide)]
def ug{o:aL}(D:d∈v2)(G:K.lookup d=O)(M:P.get? d=Y o):f7 K P v2 d=uf o:=by unfold f7;rw [ai D,G,ai (show(O:Option aL).isNone=I from rfl),M]<;>rfl
def Rh{u:HO}(z:f7 K P v2 d=Y u):d∈v2/\K.lookup d=O:=by
 unfold f7 at z;by_cases G:d∈v2
 .rw [ai G]at z;cases a:K.lookup d with
  |none=>exists G,S
  |some o=>
   rw [a,N (by simp)]at z;cases z
 .rw [N G]at z;cases z
def uh(T:∀U∈v2,iJ P v2 U){u:HO}(G:f7 K P v2 d=Y u):K.lookup d=O/\∃z:List J,z.length<=aU/\(∀u∈z,ia v2 u)/\ ((P.get? d=Y {cls:=.type "list",data:=.seq z.toArray}/\u=.bP {cls:=.type "list",data:=.seq z.toArray} (.lst (z.map toV)))\/(P.get? d=Y {cls:=.type "tuple",data:=.seq z.toArray}/\u=.bP {cls:=.type "tuple",data:=.seq z.toArray} (.tup (z.map toV)))):=by
 let⟨N,S⟩:=Rh G;let⟨z,a,b,c⟩:=T d N;exists S,z,a,b,?_;rcases c with M|M
 .rw [ug N S M,F3]at G;exact .inl ⟨M,(aS G).symm⟩
 .rw [ug N S M,F4]at G;exact .inr ⟨M,(aS G).symm⟩
theorem Ri(D:∀G∈v2,iJ P v2 G):rp (f7 K P v2):=λM=>by
 cases a:f7 K P v2 M with
 |none=>exact .inl S
 |some u=>
  obtain⟨_,N,_,_,⟨_,z⟩|⟨_,z⟩⟩:=uh D a
  .exact .inr ⟨_,_,by rw [z]⟩
  .exact .inr ⟨_,_,by rw [z]⟩
theorem Rj(N:∀T∈v2,iJ P v2 T):dv m p (f7 K P v2) P:=λa u U=>by
 obtain⟨_,G,b,M,⟨D,rfl⟩|⟨D,rfl⟩⟩:=uh N U
 .exact⟨D,by rwa [z],G,_,pH M,D⟩
 .exact⟨D,by rwa [z],G,pH M,_,D,S,_,S⟩
variable{wl:J}{We:List J}
def ui{c:J}(N:(Y {cls:=c,data:=.seq t0.toArray}:Option aL)=Y {cls:=wl,data:=.seq We.toArray}):c=wl/\t0=We:=by
 have M:=aS N;have S:=bD Obj.cls M
 have T:=bD Obj.data M;injection T with a;exists S,?_;simpa using(bD Gd a)
def Rk(c:K.In P)(z:∀d∈v2,iJ P v2 d)(N:d∈v2)(M:P.get? d=Y {cls:=.type "list",data:=.seq t0.toArray}):(∀u∈t0,ia v2 u)/\av K (f7 K P v2) d (t0.map toV):=by
 let⟨T,e,U,f⟩:=z d N;have g:T=t0:=by
  rcases f with D|D
  .rw [M]at D;exact(ui D).2.symm
  .rw [M]at D;exact absurd (Ua (ui D).1) (by decide)
 subst g;exists U,?_;cases a:K.lookup d with
 |none=>exact .inl (.inr ⟨_,by rw [ug N a M,F3]⟩)
 |some o=>
  have b:=c d o a;rw [M]at b;obtain rfl:=aS b;exact .inr ⟨_,T.toArray,_,a,S,S,S,eY▸e,by simpa using pH U⟩
def Rl(c:K.In P)(z:∀d∈v2,iJ P v2 d)(N:d∈v2)(M:P.get? d=Y {cls:=.type "tuple",data:=.seq t0.toArray}):(∀u∈t0,ia v2 u)/\ax K (f7 K P v2) d (t0.map toV):=by
 let⟨T,e,U,f⟩:=z d N;have g:T=t0:=by
  rcases f with D|D
  .rw [M]at D;exact absurd (Ua (ui D).1) (by decide)
  .rw [M]at D;exact(ui D).2.symm
 subst g;exists U,?_;cases a:K.lookup d with
 |none=>exact .inl (.inr ⟨_,by rw [ug N a M,F4]⟩)
 |some o=>
  have b:=c d o a;rw [M]at b;obtain rfl:=aS b;exact .inr ⟨_,T.toArray,_,a,S,S,eY▸e,by simpa using pH U⟩
mutual
theorem Rm{g:j7}(c:K.In P)(e:∀a∈v2,iJ P v2 a):∀(d:eJ) (v:J),Well g P v d->iI d=I->ia v2 v->Dw K (f7 K P v2) (toV v) d
 |.none,_,x,_,_=>by
  cases x
  exact .bw
 |.bool b,_,x,_,_=>by
  cases x
  exact .bl b
 |.int i,_,x,_,_=>by
  cases x
  exact .int i
 |.str s,_,x,_,_=>by
  cases x
  exact .str s
 |.bytes b,_,x,_,_=>by
  cases x
  have j:=Dw.fO (K:=K) (H:=f7 K P v2) b.toArray
  exact j
 |.list z,_,x,p,f=>by
  let⟨a,D,rfl,G,M⟩:=FZ x
  let⟨N,T⟩:=Rk c e f G
  exact .lst T (uj c e z _ M p N)
 |.tuple z,_,x,p,f=>by
  let⟨a,D,rfl,G,M⟩:=F0 x
  let⟨N,T⟩:=Rl c e f G
  exact .tup T (uj c e z _ M p N)
 |.float _,_,_,p,_=>ih (show ao=I from p)
 |.dict _,_,_,p,_=>ih (show ao=I from p)
 |.bytearray _,_,_,p,_=>ih (show ao=I from p)
 |.set _,_,_,p,_=>ih (show ao=I from p)
 |.frozenset _,_,_,p,_=>ih (show ao=I from p)
 |.obj _ _,_,_,p,_=>ih (show ao=I from p)
theorem uj{g:j7}(c:K.In P)(e:∀a∈v2,iJ P v2 a):∀(z:List eJ) (D:List J),kW g P D z->jW z=I->(∀u∈D,ia v2 u)->iH K (f7 K P v2) (D.map toV) z
 |[],_,x,_,_=>by
  cases x
  exact .nil
 |d::z,_,x,p,f=>by
  let⟨v,D,rfl,x1,x2⟩:=F1 x
  have U:=T9.mp p
  exact .cons (Rm c e d v x1 U.1 (f _ (bE ..))) (uj c e z D x2 U.2 λu m=>f u (bC _ m))
end
variable{t:ak}{L WD:aa->Option J}{s4:List aa}{Fa:gi}{o0:bc}{AC:Sp}
def Rn{K:af}{R:T6}{cl:aa->Option Z}{d0:eJ}(q:K.In t.heap) (ab:t.heap.Ns fo L) (r:t.heap.Ns F8 WD) (bi:∀N:aa,N≠"__name__"->WD N=uo N) (bk:t.heap.NoLimit) (bl:t.gens= #[])(s:kW p.params t.heap t0 Re) (ad:jW Re=I) (bm:∀a∈Re,a.weight<=1048576) (bn:dj B p4)(bs:∀e:aD,K.In e->e.Ns fo L->aV m p K L e Fa B d o0 s4 AC) (bt:∀(bv:ak) (w:List J),w.length=s4.length->rz bv o0 ⟨w,[]⟩ (s4.zip w)) (ca:Re.length=s4.length)(cd:∀(H:U) (al:List V),rp H->iH K H al Re->AC al H (λv am=>Dw K am v d0) λ_ _ _=>False)(ce:∀H D G,Fa [] H t (λ_ _ _=>False) D G->False):pT (aM m p) p4 (.call (.ref d) ⟨t0,[]⟩) (λh G=>∃u x,h=.ok (.ret u)/\ReadsW R cl G.heap u d0 x/\OldK t.heap G.heap/\G.os=t.os/\jZ G.gens) t:=by
 let⟨M,an,i⟩:=ue Re t0 s ad bm;have y:rp (f7 K t.heap M):=Ri i
 have A:dv m p (f7 K t.heap M) t.heap:=Rj i;have ap:=uj q i Re t0 s ad an
 have as:∀z u,f7 K t.heap M z=Y u->K.lookup z=O:=λz u b=>(uh i b).1;have a0:∀{z:Z} {o:aL} {l:Array g6} {T:Nat},t.heap.get? z=Y o->o.data=.dict l T->f7 K t.heap M z=O:=λ{z o l T} D a=>by
  cases b:f7 K t.heap M z with
  |none=>rfl
  |some u=>
   obtain⟨_,c7,_,_,⟨j,_⟩|⟨j,_⟩⟩:=uh i b
   .rw [j]at D;cases D;have C:=a
    cases C
   .rw [j]at D;cases D;have C:=a
    cases C
 generalize f7 K t.heap M=H at y A ap as a0;have a1:∀{z:Z} {o:aL},t.heap.get? z=Y o->H z=O->(kl t.heap H).get? z=Y o:=λD ch=>HR D ch
 have n:∀{z:Z} {E:aa->Option J},t.heap.Ns z E->(kl t.heap H).Ns z E:=λ{z E} ⟨o,l,T,D,a,h⟩=>⟨o,l,T,a1 D (a0 D a),a,h⟩
 have ci:∀z o,K.lookup z=Y o->H z=O:=λz o D=>by
  cases b:H z with
  |none=>rfl
  |some u=>
   rw [as z u b]at D;cases D
 have a2:K.In (kl t.heap H):=λz o D=>a1 (q z o D) (ci z o D);have cn:Mod K L (kl t.heap H):=⟨a2,n ab,⟨WD,n r,bi⟩,let⟨co,cr,cs⟩:=bk;⟨co,n cr,cs⟩⟩
 have ct:mv m p K L (kl t.heap H) p4 [] t H:=⟨S,cn,λz o D=>HS D,uz (HQ _ _),trivial,λz r=>absurd (show z∈([]:List Z)from r) (by simp),A,.of_eq bl⟩
 have c0:t0.length=s4.length:=by rw [ud s];exact ca
 refine zb ((bs _ a2 (n ab)).run p4 [] t H ⟨t0,[]⟩ t0 (t0.map toV) _ _ bn ct (bt t t0 c0) (pH an) (cd H _ y ap)) λh G N=>?_;cases h with
 |error D=>exact(ce H D G N).elim
 |ok fl=>
  cases fl with
  |next=>exact g5 N
  |brk=>exact g5 N
  |cont=>exact g5 N
  |ret u=>
   let⟨v,am,c1,c2,a3,a4,c3,b⟩:=N;have a5:∀z o,t.heap.get? z=Y o->G.heap.get? z=Y o:=λz o D=>by
    cases bd:H z with
    |none=>exact a3.keep z o D bd (by intro c;exact absurd (show z∈([]:List Z)from c) (by simp)) (by simp)
    |some c8=>
     rcases y z with c|⟨c4,c9,c⟩
     .rw [bd]at c;cases c
     .obtain⟨be,_⟩:=A z _ c;let⟨j,_⟩:=a4 z _ (a3.iZ z c4 _ c);rw [D]at be;cases be;exact j
   have c5:K.In G.heap:=λz o D=>a5 z o (q z o D);let⟨x,c6⟩:=Dw.reads (R:=R) (cl:=cl) a4 c5 d0 v u b c3;exists u,x,S,c6,OldK.of_keep a5,c1,c2
theorem Ro(D:WData.layableAll Re=I):∀z∈Re,z.weight<=1048576:=λz G=>
 (PySem.W.layableW_iff.mp (js.mp D z G)).2.2
theorem F5:∀(z:List Codec) (A:z2 z),(rZ z A).length=z.length
 |[],_=>rfl
 |c::z,A=>by show(rZ z A.2).length+1=z.length+1;rw [F5 z A.2]
variable{VZ:au->aD->Prop}{LE:List aa}{Wd:(aa->Option J)->aD->Prop}
def Rp{A:OpenSpec}{e:DefRec}{K:j7->af}{CX:au->gi}{sp:au->Sp}(s:A.wellSaid=I) (bl:e.params.defaults=[]) (bm:A.args.length=s4.length) (t:dj B p4)(w:∀(z:au) (G:aD),VZ z G->(K z.params).In G)(x:∀(z:au) (M:aa->Option J) (a:Z) (G:aD),VZ z G->(K z.params).In G->G.Ns fo M->M e.name=Y (.ref a)->∃f:bc,(∀(g:ak) (h:List J),h.length=s4.length->rz g f ⟨h,[]⟩ (s4.zip h))/\ ∀i:aD,(K z.params).In i->i.Ns fo M->aV A.prog z (K z.params) M i (CX z) B a f s4 (sp z))(y:∀(z:au) (H:U) (b:List V) (D:z2 A.args),rp H->Ub A.args D=I->vn A.args A.asked D=I->iH (K z.params) H b (rZ A.args D)->sp z b H (λv T=>Dw (K z.params) T v (A.ret.enc (vn A.args A.f D))) λ_ _ _=>False)(C:∀(z:au) (H:U) (g:ak) (j:J) (c:ak),CX z [] H g (λ_ _ _=>False) j c->False):Uc m LE Wd VZ A e [] (λE F=>gO E F):=by
 intro z L P M bn N l a o bs bt bv ca cd ce ch ci cn Q X args co cr ab ad cs al ct;let⟨D,am,an⟩:=PySem.W.os_pre_some ab;let⟨ap,d⟩:=Codec.encAll_of_decAll A.args args D am;subst ap;have n:=w z _ l
 let⟨f,as,a0⟩:=x z M a _ l n N.T.g Q;refine SG (zb (Rn (R:=[]) (cl:=classAt L.heap) (d0:=A.ret.enc (vn A.args A.f D)) n N.T.g N.T.b N.T.builtins N.T.nolimit X al (FY _ _) (Ro ad) t a0 as (by rwa [F5]) (λH b a1 a2=>y z H b D a1 d an a2) λH j c=>C z H P j c) λc0 c a3=>?_);let⟨u,a4,rfl,a5,bd,be,bi⟩:=a3;exists .inl ⟨u,_,a4,S,λ_=>S,a5,(OpenSpec.post_iff s d _ _).mpr S,λbk=>ih (show ao=I from bk)⟩,bd,be,bi
theorem Ui{A:OpenSpec}{i:Nat}{b:DefRec}{K:j7->af}{c:gi}{d:af->Sp}(o:A.wellSaid=I) (p:b.params.defaults=[]) (q:A.args.length=s4.length) (r:dj i p4)(s:∀(z:au) (D:aD),VZ z D->(K z.params).In D)(t:∀(z:au) (S:aa->Option J) (j:Z) (D:aD),VZ z D->(K z.params).In D->D.Ns fo S->S b.name=Y (.ref j)->∃k:bc,(∀(M:ak) (e:List J),e.length=s4.length->rz M k ⟨e,[]⟩ (s4.zip e))/\ ∀f:aD,(K z.params).In f->f.Ns fo S->aV A.prog z (K z.params) S f c i j k s4 (d (K z.params)))(u:∀(K:af) (H:U) (T:List V) (G:z2 A.args),rp H->Ub A.args G=I->vn A.args A.asked G=I->iH K H T (rZ A.args G)->d K T H (λv w=>Dw K w v (A.ret.enc (vn A.args A.f G))) λ_ _ _=>False)(x:∀(H:U) (M:ak) (g:J) (h:ak),c [] H M (λ_ _ _=>False) g h->False):Uc m LE Wd VZ A b [] (λy B=>gO y B):=
 Rp (K:=K) (CX:=λ_=>c) (sp:=λz=>d (K z.params)) o p q r s t (λz H T G C E F L=>u (K z.params) H T G C E F L) λ_ H M g h=>x H M g h
end L2
namespace Cf
abbrev FL(K:af)(x q:aa)(st:a7)(f:Z)(oc:J)(od an:Option Z)(pI:Array (Option J))(kV lX pm jq ct:J):Prop:=K.lookup f=Y ⟨oc,od,.func (nF x q (oy st) (jG st) (ei st) .none kV lX pm an jq ct),pI⟩
variable{wl SB VO VP VQ:J}{Pv:Option Z}
abbrev BA(x q:aa)(st:a7)(ps:List aa):Prop:=∀(wl SB VO:J) (Pv:Option Z) (VP VQ:J) (z:List J),z.length=ps.length->za (nF x q (oy st) (jG st) (ei st) .none wl SB VO Pv VP VQ) ⟨z,[]⟩=dA (ps.zip z)
variable{d:Z}
def Rq{p:List J->Prop}(h:∀d,p [d])(z:List J)(A:z.length=1):p z:=by let⟨d,rfl⟩:=TQ.mp A;exact h d
def Rr{p:List J->Prop}(h:∀d M,p [d,M])(z:List J)(D:z.length=2):p z:=by
 cases z with
 |nil=>cases D
 |cons d A=>exact Rq (p:=λA=>p (d::A)) (h d) A (Ud D)
def Uj{z:List J->Prop}(h:∀d N c,z [d,N,c])(A:List J)(M:A.length=3):z A:=by
 cases A with
 |nil=>cases M
 |cons d D=>exact Rr (p:=λD=>z (d::D)) (h d) D (Ud M)
variable{op:aa}{wP:a7}{P:aD}{L:aa->Option J}{s4:List aa}{V0:J}{VY:Option Z}{V3:Array (Option J)}{K:af}
theorem GF.mk(D:K.In P)(M:P.Ns fo L)(N:mi K fo op=Y (Y (.ref d)))(z:FL K op op wP d SB Pv VY V3 VO VP VQ wl V0)(c:rB K wl op=I)(A:kT K (.ref d)=I)(S:BA op op wP s4):GF K L op wP s4:=⟨d,_,oz z c A,(oz z c A).binds S,mj D M N⟩
variable{GE:aa}{q:Z}
theorem MF.mk(D:j1 K (.ref q) op=Y (Y (.ref d)))(i:uy K (.ref d)=I)(A:FL K op GE wP d SB Pv VY V3 VO VP VQ wl V0)(c:rB K wl GE=I)(z:kT K (.ref d)=I)(M:BA op GE wP s4):MF K q op GE wP s4:=⟨d,_,oz A c z,(oz A c z).binds M,⟨D,i,z⟩⟩
theorem NF.mk(D:K.In P)(M:P.Ns fo L)(N:mi K fo GE=Y (Y (.ref d)))(mk:Gj K d=I)(S:kT K (.ref d)=I)(T:j1 K (.ref d) "__init__"=Y (Y (.ref q)))(i:uy K (.ref q)=I)(z:FL K "__init__" op wP q SB Pv VY V3 VO VP VQ wl V0)(c:rB K wl op=I)(A:kT K (.ref q)=I)(U:BA "__init__" op wP s4):NF K L GE d op wP s4:=
 ⟨q,_,oz z c A,(oz z c A).binds U,⟨mk,T,i,S⟩,mj D M N⟩
variable{wS:dD}{wp:Int}
theorem int_mk(D:K.In P)(M:P.Ns fo L)(N:mi K fo op=Y (Y (.int wp wS))):∃wS,L op=Y (.int wp wS):=⟨wS,mj D M N⟩
theorem str_mk(D:K.In P)(M:P.Ns fo L)(N:mi K fo GE=Y (Y (.str op wS))):∃wS,L GE=Y (.str op wS):=⟨wS,mj D M N⟩
def xn(a1 a2 a3 a4 a5:Z):Nat->Z
 |1=>a1|2=>a2|3=>a3|4=>a4|_=>a5
abbrev rq(K:af)(a:Z):Prop:=gP K a fU "Exception.__new__"=I/\mroIn K a=I
variable{Q pi s2:Z}
def Uk(A:K.In P)(D:P.Ns fo L)(N:mi K fo "NoProgram"=Y (Y (.ref d)))(T:mi K fo "NoRung"=Y (Y (.ref q)))(U:mi K fo "NoNode"=Y (Y (.ref Q)))(b:mi K fo "NothingKept"=Y (Y (.ref pi)))(c:mi K fo "NoCall"=Y (Y (.ref s2)))(l:rq K d) (n:rq K q) (o:rq K Q) (p:rq K pi) (r:rq K s2) (G:[d,q,Q,pi,s2].Nodup) (e:∃z,L "NO_PROGRAM"=Y (.int (-1) z)) (g:∃z,L "NO_RUNG"=Y (.int (-2) z)) (i:∃z,L "NO_NODE"=Y (.int (-3) z)) (j:∃z,L "NOTHING_KEPT"=Y (.int (-4) z)) (k:∃z,L "NO_CALL"=Y (.int (-5) z)):yY K L (xn d q Q pi s2):=by exists mj A D N,mj A D T,mj A D U,mj A D b,mj A D c,λs M=>?_,G,e,g,i,j,k;simp only [bg,gR,g8]at M;rcases M with rfl|rfl|rfl|rfl|rfl<;>assumption
variable{t0:List J}{B:Nat}{t3:List V}
theorem Ul(M:K.lookup d=Y {cls:=.type "tuple",data:=.seq t0.toArray B})(N:t0.length<=9)(v:Vals t3 t0):∀H,ax K H d t3:=λH=>.inr ⟨_,t0.toArray,B,M,S,S,by rw [eY];exact cu N (by decide),v⟩
def Rt(w:au)(z:aa×Int×dD×dD):g6:=⟨PyData.keyHash w.params z.1,.str z.1 z.2.2.1,.int z.2.1 z.2.2.2⟩
variable{p:au}{m:aw}
def Um(A:List (aa×Int×dD×dD))(D:K.lookup d=Y {cls:=.type "dict",data:=.dict (A.map (Rt p)).toArray B})(U:(d==er)=ao)(M:(A.map (·.1)).Nodup):KD K m p d (A.map λz=>(.inr z.1,.int z.2.1)):=by
 exists λP c=>⟨A.map λz=>(.inr z.1,.int z.2.1 z.2.2.2),?_,_,_,B,c _ _ D,⟨S,S,S⟩,S,λz T=>?_,?_,?_⟩,U
 .clear D M;induction A with
  |nil=>exact .nil
  |cons z a b=>exact .cons ⟨S,_,S⟩ b
 .rw [List.mem_toArray]at T;let⟨y,_,rfl⟩:=bH.mp T;exists .inr y.1,jF ⟨_,S⟩,S
 .clear D M;rw [GS];induction A with
  |nil=>exact .nil
  |cons z a b=>exact .cons (jF (k:=.inr z.1) ⟨_,S⟩) S b
 .rw [d7];have:(A.map ((λop:Key×J=>op.1)∘λz=>((.inr z.1:Key),pJ z.2.1 z.2.2.2)))=(A.map (·.1)).map kO:=by rw [d7];rfl
  rw [this];exact iD (λ_ _ e=>by injection e) M
def fin(T:L "answers"=Y (.ref q))(U:∃d A,L "answers"=Y (.ref d)/\a9 K "answers" "answers" ub d A/\∀z:aD,aV m p K L z aE 15 d A ["calls"] (uc K)):∃A:bc,(∀(M:ak) (D:List J),D.length=(["calls"]:List aa).length->rz M A ⟨D,[]⟩ ((["calls"]:List aa).zip D))/\∀z:aD,K.In z->z.Ns fo L->aV m p K L z aE 15 q A ["calls"] (uc K):=by let⟨d,A,N,b,c⟩:=U;rw [T]at N;cases N;let⟨wl,Pv,SB,VO,VP,VY,VQ,V0,V3,rfl,_⟩:=b.ex;exists _,λM D G=>match D,G with|[_],_=>.of_eq rfl,λz _ _=>c z
end Cf
local macro_rules | `(tactic| trivial) => `(tactic| first | k_is | with_unfolding_all rfl)
end Lake
set_option Elab.async true
open Lake Lake.L2 Lake.L3
open PySem PySem.W PyProof.Rows
namespace PySem.Challenge.cw_coarserflows_s01_answers_holds
def tw:=0
def tw12737396266598472349:=0
def tw16949305214274459314:=0
def tw12101391358767663327:=0
def tw5074644416987687524:=0
def tw17029372292085636902:=0
def tw4369807142145399628:=0
def tw18002295098070734902:=0
def tw14996008268832297628:=0
def tw14866929684954292662:=0
def tw18120265225914262423:=0
def tw2848419131298023069:=0
def tw14040429031651210891:=0
def tw1748173886319641071:=0
def tw9412776648312513112:=0
def tw9435298080450728484:=0
def tw10254891649087495383:=0
def tw8739463106841934285:=0
def tw11566301386547306383:=0
def tw8294510622803074495:=0
def tw5547120352873130756:=0
def tw14927156787278707558:=0
def tw2658896323594249039:=0
def tw11112327660137075022:=0
def tw11526209308129144878:=0
def tw7823440978548780967:=0
def tw4284778880340647726:=0
def tw6811468821598025969:=0
def tw14668425274553900850:=0
def tw12420196012770682360:=0
def tw3529119778128531862:=0
def tw12122044158957666649:=0
def tw2306083069944038011:=0
def tw9051814535726094777:=0
def tw2219842879604708679:=0
def tw13967208720869816296:=0
def tw16476135183210213692:=0
def tw7065960314601607997:=0
def tw3771216405953391773:=0
def tw7968267498791342833:=0
def tw9698231069882531072:=0
def tw4594186405097544796:=0
end PySem.Challenge.cw_coarserflows_s01_answers_holds
set_option maxRecDepth 100000 in
set_option maxHeartbeats 0 in
theorem PySem.Challenge.cw_coarserflows_s01_answers_holds : PySem.Challenge.rw_coarserflows_s01_answers.Holds := by
  w_on;k_headS;(case hw=>exact ⟨[.list [.int 1]],by decide +kernel,by decide +kernel⟩)
  k_fillS
  refine L2.Ui (A:=PySem.Challenge.rw_coarserflows_s01_answers) (i:=15) (c:=L2.aE) (s4:=["calls"]) (d:=Cf.uc) (by decide +kernel) rfl rfl ⟨rfl,by decide,by decide⟩ (fun w h Y=>PySem.W.kIn_of Y) ?F ?S (λ_ _ _ _ z=>z)
  case F =>
    intro w mg fa h Y KX G hmg
    refine Cf.fin hmg ?_
    refine' Cf.join ?E ?Z ?G ?Gk ?rd ?pc ?ak ?rw ?ld ?nb ?gP ?kP ?gB ?kB ?gN ?kN ?gM ?kM ?gR ?kR ?c2 ?c4 ?c30 ?c8 ?ck ?e0 ?e1 ?e2 ?s1 ?s2 ?s3 ?s4 ?f0 ?f1 ?f2 ?f3 ?f4 ?f5 ?f6 ?f7 ?f8 ?f9 ?f10 ?f11 ?f12 ?f13 ?f14 ?f15 ?f16 ?f17 ?f18 ?f19 ?f20 ?f21 ?f22 ?f23 ?f24 ?f25 ?f26 ?f27 ?f28 ?f29 ?f30 ?f31 ?f32 ?f33 ?f34 ?f35 ?f36 ?f37 ?f38 ?f39 ?f40 ?f41 ?f42 ?f43 ?m0 ?m1 ?m2 ?m3 ?m4 ?m5 ?m6 ?m7 ?m8 ?m9 ?m10 ?m11 ?m12 ?m13 ?m14 ?m15 ?m16 ?m17 ?m18 ?m19 ?m20 ?m21 ?m22 ?m23 ?m24 ?m25 ?m26 ?m27 ?m28 ?m29 ?m30 ?n0 ?n1 ?n2 ?n3 ?n4 ?n5
    any_goals (refine' Cf.NF.mk KX G ?n ?m ?d ?e ?i ?l ?c ?k ?b;(case n|m=>trivial);(case d|e|i=>trivial);(case l=>with_unfolding_all rfl);(case c|k=>trivial);(case b=>first|(exact λ_ _ _ _ _ _=>Cf.Rq λ_=>rfl)|(exact λ_ _ _ _ _ _=>Cf.Rr λ_ _=>rfl)|exact λ_ _ _ _ _ _=>Cf.Uj λ_ _ _=>rfl))
    any_goals (refine' Cf.MF.mk ?e ?i ?l ?c ?k ?b;(case e|i=>trivial);(case l=>with_unfolding_all rfl);(case c|k=>trivial);(case b=>first|(exact λ_ _ _ _ _ _=>Cf.Rq λ_=>rfl)|(exact λ_ _ _ _ _ _=>Cf.Rr λ_ _=>rfl)|exact λ_ _ _ _ _ _=>Cf.Uj λ_ _ _=>rfl))
    any_goals (refine' Cf.GF.mk KX G ?e ?l ?c ?k ?b;(case e=>trivial);(case l=>with_unfolding_all rfl);(case c|k=>trivial);(case b=>first|(exact λ_ _ _ _ _ _=>Cf.Rq λ_=>rfl)|(exact λ_ _ _ _ _ _=>Cf.Rr λ_ _=>rfl)|exact λ_ _ _ _ _ _=>Cf.Uj λ_ _ _=>rfl))
    (case E=>refine' Cf.Uk KX G ?a1 ?a2 ?a3 ?a4 ?a5 ?b1 ?b2 ?b3 ?b4 ?b5 ?c ?d1 ?d2 ?d3 ?d4 ?d5;(case a1|a2=>trivial);(case a3|a4|a5=>trivial);(case c=>decide);(any_goals exact Cf.int_mk KX G (by trivial));all_goals exact ⟨by with_unfolding_all rfl,by with_unfolding_all rfl⟩)
    any_goals exact PySem.W.mg_of KX G (by trivial)
    (case kP=>exact Cf.Um [("fun",1,_,_),("let",2,_,_),("if",3,_,_),("pair",2,_,_),("fst",1,_,_),("snd",1,_,_),("new",1,_,_),("get",1,_,_),("set",2,_,_),("add",2,_,_),("a call",2,_,_)] (by trivial) rfl (by decide))
    (case kM=>exact Cf.Um [("fun",1,_,_),("pair",2,_,_),("new",3,_,_)] (by trivial) rfl (by decide))
    (case kB=>exact Cf.Ul (t0:=[.str _ _,.str _ _]) (by trivial) (by decide) (.cons ⟨_,rfl⟩ (.cons ⟨_,rfl⟩ .nil)))
    (case kN=>exact Cf.Ul (t0:=[.int _ _,.int _ _]) (by trivial) (by decide) (.cons ⟨_,rfl⟩ (.cons ⟨_,rfl⟩ .nil)))
    (case kR=>exact Cf.Ul (t0:=[.int _ _,.int _ _,.int _ _,.int _ _]) (by trivial) (by decide) (.cons ⟨_,rfl⟩ (.cons ⟨_,rfl⟩ (.cons ⟨_,rfl⟩ (.cons ⟨_,rfl⟩ .nil)))))
    all_goals repeat' (first|exact Cf.int_mk KX G (by trivial)|exact Cf.str_mk KX G (by trivial)|exact PySem.W.mg_none_of KX G (by trivial)|(unfold L2.dF;trivial)|trivial|constructor)
  case S =>
    intro K H xs a hO hwi hask hx
    cases hx with
   |cons h1 h2 =>
      cases h2
      cases h1 with
     |lst hs ha =>
        have e:=L2.Ra a.1 _ ha
        subst e
        have q : ((Codec.inLen 0 17000 a.1 && a.1.all (Codec.inInt (-1000000000000000000) 1000000000000000000)) && true) = true:=hwi
        rw [Bool.and_eq_true,Bool.and_eq_true] at q
        exact ⟨_,a.1,rfl,hs,(Codec.inNat_iff.mp q.1.1).2,hask,fun H' p hp=>.lst (L2.av.of hp) (L2.Q9 _)⟩
