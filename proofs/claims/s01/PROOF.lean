import PyProof.Rows.All
import VacfacSpec
import Wide.All
import OpenK.AllK
import Wide.FinOn
import PyProof.EqAt
import PyProof.EqKinds
import PyProof.TupleCall
import KE.BitLaws
import KE.KTab
import KE.KDictLaws
import KE.KDictList
import KE.KSortTupG
import KE.KSortKeySt
import Open.SpecLaws
import KE.OsHead
import KE.OsGo
import PySem.Challenge.RW0_callstrings_s01_answers
import PyVacfac
import KE.KIntText
import PySem.Challenge.RW_callstrings_s01_answers
set_option Elab.async false
set_option linter.all false
set_option compiler.extract_closed false
set_option bootstrap.genMatcherCode false
set_option tactic.hygienic false
set_option genInjectivity false
set_option genSizeOf false
set_option maxRecDepth 100000
set_option maxHeartbeats 4000000
theorem ws0:PySem.Challenge.rw_callstrings_s01_answers.wellSaid=true:=by decide +kernel
noncomputable section
open Array renaming append_assoc->avS,forIn_toList->avK,getElem?_eq_getElem->Kc,getElem?_eq_none->awQ,getElem?_eq_some_iff->awX,getElem?_toList->zH,length_toList->sS,perm_iff_toList_perm->axt,replicate->axp,size_eq_length_toList->awe,toList_map->agQ
open Bool renaming and_eq_true->fV,and_eq_true_iff->axT,and_false->xx,decide_and->TU,eq_false_iff->ayA,eq_iff_iff->oa,false_and->xC,false_eq_true->awB,false_ne_true->gh,noConfusion->nU,not_eq_eq_eq_not->ra,not_eq_true->ayF,not_eq_true'->SA,or_false->ayB,or_true->ayH,true_and->rV,«false»->aX,«true»->J
open Classical renaming byContradiction->bk
open Decidable renaming «decide»->bp
open Eq renaming «symm»->eW
open Except renaming error->pU,ok->mm
open False renaming elim->lh
open ForIn renaming forIn->BS
open ForInStep renaming yield->wV
open Iff renaming «rfl»->afw
open Inhabited renaming «default»->Tu
open Int renaming lt_of_not_ge->zF,ofNat_inj->ahx,ofNat_lt->xP,toNat_lt->ayg,toNat_natCast->pd,toNat_of_nonneg->Ka,zero_add->ayj
open Int.ofNat renaming inj->mo
open LawfulBEq renaming eq_of_beq->oV
open List renaming all_cons->uo,all_eq_true->jS,all_map->Hs,any_cons->xv,any_eq_false->afX,any_eq_true->agB,any_map->agp,any_toArray->zG,append_assoc->fi,append_nil->e',append_toArray->CC,cons_append->mK,contains_eq_mem->avu,contains_iff_mem->qf,countP_cons->axV,countP_map->ayh,count_append->ayl,count_pos_iff->ahg,drop->HR,dropLast_concat->ayr,dropLast_concat_getLast->ayf,drop_drop->rW,drop_eq_nil_of_le->azc,drop_left->aht,drop_zero->ayb,elem_iff->ayZ,eq_nil_of_length_eq_zero->Ke,eraseDups_cons->CX,exists_mem_of_ne_nil->aya,ext_getElem?->o_,filter->ayv,filterMap_append->vU,filterMap_cons->q',filterMap_map->awl,filter_append->ta,filter_congr->C_,filter_cons->pe,filter_cons_of_neg->Kg,filter_cons_of_pos->ayW,filter_eq_nil_iff->CT,filter_filter->ahq,filter_sublist->vT,find?_append->ayS,find?_cons->TD,find?_cons_of_neg->ayV,find?_eq_none->s',find?_some->us,flatMap_append->vS,flatMap_cons->rc,forIn_cons->SK,getElem?_append_left->oc,getElem?_append_right->pb,getElem?_drop->ayR,getElem?_eq_getElem->gi,getElem?_eq_none->zU,getElem?_eq_none_iff->CV,getElem?_eq_some_iff->ff,getElem?_map->cV,getElem?_modify->ayU,getElem?_of_mem->uu,getElem?_replicate->awc,getElem?_set->vV,getElem?_set_ne->xt,getElem?_set_self->CA,getElem?_zipWith->vZ,getElem_inj->avT,getElem_mem->agW,getElem_of_mem->agU,getElem_zip->axQ,isEmpty_eq_false_iff->avt,isEmpty_iff_length_eq_zero->ayi,isPrefixOf_iff_prefix->Db,length->mR,length_append->cW,length_cons->hs,length_drop->sV,length_eq_one_iff->ayC,length_filterMap_le->CZ,length_filter_le->qe,length_map->aV,length_modify->ahr,length_range->xD,length_replicate->awd,length_reverse->xG,length_set->Tc,length_singleton->afA,length_take->iQ,length_take_le->ayp,length_zip->rT,lookup->uc,lookup_cons->sZ,map->Tx,map_append->cs,map_congr_left->rb,map_cons->fg,map_drop->ahi,map_eq_nil_iff->ayc,map_fst_zip->agS,map_id->TZ,map_map->dX,map_nil->sX,map_set->ahh,map_snd_zip->zV,map_take->tb,mem_append->du,mem_append_left->dQ,mem_append_right->cG,mem_cons->cc,mem_cons_of_mem->el,mem_cons_self->ig,mem_eraseDups->z',mem_filter->je,mem_filterMap->ln,mem_flatMap->dZ,mem_flatten->ayn,mem_iff_getElem->axP,mem_map->bx,mem_map_of_mem->axD,mem_of_find?_eq_some->qd,mem_of_getElem?->gs,mem_of_getLast?->CG,mem_of_mem_take->zZ,mem_or_eq_of_mem_set->ayq,mem_range->xr,mem_range'_1->ayD,mem_reverse->Dc,mem_singleton->dj,nil_append->mj,nodup_append->lQ,nodup_cons->f_,nodup_nil->lP,not_mem_nil->hD,of_mem_zip->sU,pairwise_cons->vW,pairwise_iff_getElem->axu,pairwise_map->rU,pairwise_singleton->CR,perm_append_comm->ahw,perm_middle->uv,range->oS,range'->qS,range'_append_1->avs,range_eq_range'->avy,range_succ_eq_map->awy,removeAll->ayX,replicate->age,reverse_cons->uw,reverse_perm->azb,size_toArray->jw,sum_cons->SP,take->Co,takeWhile_cons->ayQ,takeWhile_cons_of_neg->Kh,takeWhile_prefix->ayG,take_add_one->hF,take_append_drop->aye,take_left->ahv,take_length->jQ,take_nil->ahk,take_of_length_le->xA,take_take->ahj,take_zero->zW,toArray->axz,toList_toArray->zQ,zip_append->TA,zip_cons_cons->vH,zip_eq_zipWith->vX,zip_map_left->agR,zip_map_right->axF
open List.Mem renaming head->cp,tail->eo
open List.Nodup renaming length_le_of_subset->Kd
open List.Pairwise renaming filterMap->Dd,imp_of_mem->aAn,map->tc,nil->mP,of_map->aAp,sublist->ayw
open List.Perm renaming cons->HB,refl->agP,swap->vC
open List.Sublist renaming map->Ad,nodup->Ac,refl->ahp
open List.cons renaming inj->ahu,injEq->uz
open Min renaming «min»->pS
open Nat renaming add_assoc->mq,add_comm->Tz,add_le_add->z_,add_le_add_left->zR,add_right_comm->xF,add_sub_cancel_left->xK,le_add_left->ayo,le_add_left_of_le->axR,le_add_right->nq,le_add_right_of_le->awx,le_antisymm->v_,le_of_add_right_le->Kb,le_of_ble_eq_true->oe,le_of_eq->o',le_of_lt->sT,le_of_lt_succ->SF,le_of_not_lt->uq,le_of_succ_le->lm,le_of_succ_le_succ->Kf,le_refl->kD,le_succ->ll,le_trans->db,lt_add_one->Uc,lt_add_right->afy,lt_asymm->ayx,lt_irrefl->q_,lt_of_le_of_lt->kF,lt_of_le_of_ne->C',lt_of_lt_of_eq->n',lt_of_lt_of_le->ia,lt_of_not_le->afz,lt_of_succ_lt->zA,lt_of_succ_lt_succ->ayu,lt_or_ge->HA,lt_succ_of_lt->CD,lt_succ_self->pa,lt_trans->s_,max_le->agy,min_eq_left->zz,min_le_right->awj,mul_le_mul->ahf,mul_le_mul_right->ayd,mul_succ->TC,ne_of_gt->Hk,ne_of_lt->ie,not_lt->np,not_lt_zero->ays,sub_eq_iff_eq_add->avw,sub_self->xH,sub_succ_lt_self->um,sub_zero->ul,succ_add_eq_add_succ->rX,succ_le_succ->ut,succ_lt_succ_iff->SD,succ_mul->xB,succ_pos->ahm,zero_add->od,zero_le->ex
open Nat.le renaming refl->dw
open Nat.succ renaming inj->Hz
open Ne renaming «symm»->mT
open Option renaming bind_eq_some_iff->xS,bind_some->avx,getD_none->awr,isSome_iff_exists->CB,isSome_map->zK,map_eq_some_iff->e_,map_some->agr,mem_toList->CU,none_or->ayT,some->Y,some_inj->vK,«none»->M
open Option.some renaming inj->hq
open Or renaming inl->aQ,inr->bl
open Prod renaming fst->ek,mk->aZ,snd->ki,«ext»->pc
open Prod.mk renaming inj->aho
open Pure renaming pure->gt
open PyFlat renaming call->xn,calls->HS,played->ahz,row->Ud,rows->ahy,told->zr
open PyProof.Rows renaming AllBare->wW,Constant_none->afQ,IntsAre->nm,IsTup->oU,KeyKind->axs,Keyed->oW,SortSt->rG,Subscript_->agi,args_tuple_getitem->awn,arrOf->lH,callWith_builtin1->aAc,callWith_type1->Aa,entry_list_sort->axK,entry_tuple_getitem->awm,failedOf->To,get?_update_seq->axG,iadd_int->aAb,isTrue_plain->afS,join_list->aAi,join_tuple->aAj,keyLt'->xh,kindOf->Ci,listUpdate_at->Tq,lt_int->awb,seqObj->ug,slot_list_sort->axH,slot_tuple_getitem->uy,sortRuns'->agH,stay_false_of->rd,subscriptTail_builtinR->awo,tuples'->nT
open PyProof.Rows.G renaming sortHeap6->agV
open PyProof.Rows.IsTup renaming new->agj
open PyProof.Rows.KTD renaming Rows->agC,datumAt->jv
open PyProof.Rows.SortSt renaming mk'->agK
open PySem renaming Addr->L,Arguments->agz,Around->vx,BindsTo->Cd,Ctx->axk,DictEntry->vA,Env->ml,ExceptHandler->Tj,Expr->dD,Fin->Ce,FuncData->qW,Heap->ez,IsPart->sH,IsTupleKey->wT,Keyword->ud,Model->BX,NameKind->xc,Obj->hn,Paired->eq,Params->Hx,Pos->iK,Program->fs,PyData->ue,Scope->mQ,Sem->js,Shared->cQ,Stmt->dK,Str->E,Tok->nl,Value->bc,Within->afG,World->hC,assign->Hj,assignEach->B',atKey->pW,attributeBase->sD,backTo->h',backToKw->sF,behindInMarks->w_,beq_builtin_none->avH,binaryOp->Ca,bindArgs->S',bindC->zk,bindL->zj,bootBuiltins->BV,builtinsNs->afH,cLine->it,call->qX,callWith->Cn,call_meets->Hr,call_meetsIn->xy,callerA->Hy,cellsFrom->li,codeAny->xb,codeAny_builtin->axv,codeAny_mono->Ho,compEnvC->qZ,compareOp->jt,dictSetDefault->agF,eqIsQuiet->afD,eqIsQuiet_byValue->avR,eval->dx,evalArgs_none->awu,excClassObj->Ti,foldedSetIterable->SW,fromIndex->ayP,getItem->rF,getMethod->xa,holding->rC,inplaceOp->afT,intKind->Hf,intText?->aza,isTrue->wX,keywordEach->sG,kt_meets_setdefault->axj,letOwnedTupleGo->afV,mainGlobals->iP,mem_of_lookup->no,model->b',noFill_tuple_add->awf,plainObj_wpAny_Assign_Attribute->axX,pushCells->xg,pushCells_keeps->Tf,pyIter->Hm,pyNext->Hl,seqIndex_neg->agl,seqIndex_of->agk,sizeLine->ch,sizeLine_eq->afW,size_of_entries->axb,sliceBounds->zl,slot_dict_contains->agD,slot_dict_getitem->axh,slot_list_getitem->awp,standAt->ub,starEach->er,storeName->afK,storedH->Tg,storedH_new->agG,subscripted->Tb,swapsWith->vy,sysModules->lg,typeIs_str->Hp,valueAt->Cf,wpAny->bP,wpAny_AugAssign_AttributeAny->axZ,wpAny_Call_Name_kw->vQ,wpAny_Call_method->awH,wpAny_Call_method_late->agn,wpAny_Dict_empty->awD,wpAny_Name->afP,wpAny_assign_Name->avZ,wpAny_attempt->agu,wpAny_bind->bq,wpAny_call->agc,wpAny_callSpecial?_slot->zD,wpAny_call_entry->rS,wpAny_dictEntries->zP,wpAny_dictEpoch->agt,wpAny_eqBool_tuple->afB,wpAny_execs_cons->avX,wpAny_execs_nil->zC,wpAny_field->agf,wpAny_forIn_list->avQ,wpAny_holding->qb,wpAny_isInstance->avP,wpAny_isOneOf_keyiter->awZ,wpAny_isSubtype_exc->axg,wpAny_isTrue_Compare1->afR,wpAny_loadName_cell->avV,wpAny_loadName_local->avU,wpAny_loadPart_at->axf,wpAny_mono->ob,wpAny_newList->agT,wpAny_newObj_type->sW,wpAny_notOrdered_dict->awT,wpAny_passesOwn->vP,wpAny_pure->c_,wpAny_pyHash_str->avA,wpAny_pyIter_enum->axe,wpAny_pyIter_keyiter->axc,wpAny_pyIter_list->awa,wpAny_pyIter_revIter->awP,wpAny_pyIter_slot->awR,wpAny_rule->Tl,wpAny_sequenceKey->agg,wpAny_specialOf->afF,wpAny_standAt->SU,wpAny_truthy_bool->nn,wpAny_typeNameOfWhole_keyiter->CF,wpAny_typeOf->agh
open PySem.Around renaming under_plainId->axw
open PySem.AutoSeq1 renaming wpAny_loadPart'->ayz
open PySem.Builtin.Dict renaming showsAll->awU
open PySem.Builtin.List renaming listItems->axq,listTooLong->ago
open PySem.Builtin.Range renaming rangeSize->azv
open PySem.Builtin.Slice renaming sliceAdjust->aAe,sliceApplied->aAg,slicePartIndex->aAf,slicePlaces->awk
open PySem.Builtin.Str renaming strSliceIndices->zm
open PySem.Builtin.Tuple renaming tupleCompareSizes->aAd,tupleHashOf->avD,tupleItemsOf->afC
open PySem.Calls renaming Name_function_global->avW,callWith_builtin->up,evalArgs_plain->xw,spliced_cons->xu,spliced_nil->S_
open PySem.Challenge renaming pw_callstrings_s01_answers->aAo,rw_callstrings_s01_answers->Cv
open PySem.CmpOp renaming NotEq->SR,NotIn->B_
open PySem.Code renaming builtin->Cb
open PySem.Data renaming cell->BW,dict->i',fields->qV,func->xd,seq->fp
open PySem.EqMixed renaming eq_bool_str->azB,eq_int_str->azD,eq_str_bool->azG,eq_str_int->azH,ne_bool_str->azT,ne_int_str->azV,ne_str_bool->azX,ne_str_int->azZ
open PySem.EqNone renaming eq_bool_none->azA,eq_int_none->azC,eq_none_bool->azx,eq_none_int->azy,eq_none_none->azw,eq_none_str->azz,eq_str_none->azF,ne_bool_none->azS,ne_int_none->azU,ne_none_bool->azP,ne_none_int->azQ,ne_none_none->azK,ne_none_str->azR,ne_str_none->azW
open PySem.ExceptHandler renaming ExceptHandler->Tk
open PySem.Expr renaming Attribute->hU,BoolOp->sA,Call->gw,Compare->w',Constant->BZ,ListComp->vz,Name->ge,Subscript->sB,Tuple->SS
open PySem.F renaming args_dict_get_3->awG,args_dict_keyiterator_next_1->awW,args_dict_setdefault_3->CP,args_list_extend_2->aww,args_tuple_add_2->awi,entry_dict_get->awF,entry_dict_keyiterator_next->awV,entry_dict_setdefault->CK,entry_list_extend->awv,entry_tuple_add->awh,plainAttrs_dict->awK,plainAttrs_list->pf,plainAttrs_str->agx,plain_list_iadd->axx,slot_bool_lt->axy,slot_dict_get->ags,slot_dict_getitem->awC,slot_dict_iter->awS,slot_dict_keyiterator_iter->axd,slot_dict_keyiterator_next->xz,slot_dict_setdefault->zT,slot_list_append->v',slot_list_count->axW,slot_list_extend->wa,slot_list_pop->Td,slot_tuple_add->awg,type_list_append->zX,type_list_extend->CW,type_list_pop->ahe
open PySem.Fin renaming «done»->Ht
open PySem.Flow renaming ret->pT
open PySem.Heap renaming FlyingW->Ch,SameBut->wU,get?_push_of_some->hr,get?_push_size->jf,get?_update_other->awq,get?_update_self->agm,lt_size->fZ,size_push->qc
open PySem.Heap.IsSliceOf renaming new->aAh
open PySem.Heap.SameBut renaming update->xQ
open PySem.NameKind renaming cell->iu,free->gX,globalImplicit->Hh,«local»->gp
open PySem.Obj renaming data_mapDictKeys->axi,data_mapFields->axa,mapSeq->sK
open PySem.Operator renaming Add->wZ
open PySem.Paired renaming cons->eS,length->jR,nil->ed,snoc->ux
open PySem.PassesOwn renaming leaving->xR,never->jg
open PySem.PyData renaming depthAll->ayk,eqv->awA,eqvAll->TB
open PySem.ScopeKind renaming function->rB
open PySem.Sem renaming wp->uf,wp_attempt->axn,wp_bind'->ur,wp_pure'->axo
open PySem.SeqAt renaming EqAt->He,in_listAt->awt,shaped->Te
open PySem.SeqAt.EqAt renaming bool_bool->aws,int_int->Ab,int_str->avB,same->avF,str_int->avC
open PySem.Stmt renaming Assign->zi,AugAssign->afU,FunctionDef->agA,Return->Hi
open PySem.Str renaming cps->Ub
open PySem.StrLaws renaming sliceText->Cg,sliceText_nat->aAl,strSliceIndices_plain->aAk,subAt_eq->aAr
open PySem.Txt renaming isalnum->Th,isalpha->agw,isdigit->agv,startswith3->Ts
open PySem.Unicode renaming isAlnum->ayK
open PySem.Value renaming bool->ic,builtin->ju,bytes->SQ,int->ew,isInt->SH,isStrOf->avz,ref->I,type->cF,«none»->go,«str»->nk
open PySem.W renaming Frag->eh,WData->pX,WellAll->xi,callWith_K->zS,callWith_K0->agd,codeIn->xe,emptyDict->Cc,findIn->sC,fnOf->pV,hasDictIn->agb,hideAll->Hg,hideAll_get->CH,instObj->BU,isFn->Hn,kat_cons->CQ,kat_yes->Tp,kdl_size->Ta,keepIn->rD,length_le_weightAllW->axS,methodCall_KW->CS,nsIn->nS,plainGet->SX,plainGet_of->afZ,plainOver->aga
open PySem.W.Codec renaming app->Cm,denoteAll->aha,encAll->zo,withinAll->axU
open PySem.W.KatTups renaming cons->axB,nil->axA
open PySem.W.Looks renaming of_pure->axC
open PySem.W.WData renaming bool->Hv,bytearray->agX,bytes->Hw,frozenset->agZ,int->zn,list->Cj,tuple->Ck,weightAll->Tr,«none»->Hu
open PySem.Walks renaming list->awz
open PySem.Within renaming cons->aAa
open PyVacfac renaming answers->Tt,answers_asked->ahb,shape->n_,whole->xo
open StateT renaming lift->axl,run_bind->Tn,run_lift->axm
open Std.Legacy.Range renaming forIn_eq_forIn_range'->aAm
open Sum renaming inl->eZ,inr->ky
open Sum.inl renaming injEq->Tv
open Sum.inr renaming injEq->ahc
open True renaming «intro»->ahd
open UInt8 renaming le_iff_toNat_le->avv,ofNat->HQ,toNat->vF
open Vacfaa renaming Abs->nW,Ctx->fh,Env->ayt,Expr->nh,INPUT->oP,Made->rH,Name->lb,Obj->ahl,RESERVED->pR,Text->vv,Value->vD,ascii->eu,binderOf->eV,bindersIn->gZ,bindersOf->ho,closing->BR,decimal->vw,deepOf->kw,eval->TF,funsOf->mn,gluedBy->zh,inBrackets->zf,isApp->Cr,isClosed->ir,isDigit->rA,isFun->Cs,isName->qT,isProgram->afx,isSmall->oH,labelOf->bi,labelsOf->dC,lookup->HC,nodeAt->sP,nodesOf->bR,numberOf->kg,programOf->nj,read->qU,runOf->Cp,sitesOf->TX,spaced->zg,textOf->hB,tokensOf->oK,toldNats->HH
open Vacfaa.Abs renaming fn->nV,pair->uh,ref->ui,«num»->rP
open Vacfaa.Expr renaming add->pQ,app->iq,fn->fy,fst->nG,get->nK,ifz->ni,letE->ku,new->kv,pair->jP,set->mH,snd->nH,var->gK,«num»->jK
open Vacfab renaming Place->jb,arrowsIn->TS,bodyOf->ahn,has->Ct,labelled->lK,leastOf->xk,mostFacts->TR,neededBy->TQ,placesOf->nX,roundOf->xj,roundsFrom->HF,setAt->oX,sortsOf->jc,waysOf->ayy
open Vacfab.Place renaming inside->lf,node->cg,second->nR,«first»->nQ,«name»->gd
open Vacfab.Place.name renaming inj->aAq
open Vacfab.Place.node renaming inj->aym
open Vacfac renaming Ask->pZ,Fact->fe,Own->kA,Sort_->eT,Table->ua,arrowsIn->uj,bodiesOf->TK,bodyOf->oQ,ctxBefore->TH,ctxOf->xl,deadIn->zp,does->hh,escapes->TG,freeOf->ja,given->kB,into->Cq,leastOf->hT,lookAt->oR,neededBy->Hc,neededIn->Hb,onNode->nZ,ownersIn->gq,partsAt->TP,plain->rK,putAll->Hd,roundsFrom->SG,sortsAt->HD,start->Ue,step->p',stringsOf->wS,tell->p_,toldSort->HP,toldValues->TV,valuesIn->lj
open Vacfac.Ask renaming bodies->HK,check->Ua,ladder->T',parts->T_,program->xm,strings->Cu,values->TW,«name»->HG
open Vacfac.Fact renaming come->lc,here->cP
open Vacfac.Sort_ renaming fn->kh,pair->kx,ref->le,«num»->hg
open VacfacNeutral renaming asked1->aze,callOf->azd,encode->aAs,natural->aAt,start->aAu,step->zq,text?->azf
open _root_ renaming Array->gv,Bool->dq,DecidableEq->i_,False->fC,ForInStep->agq,Int->N,Nat->O,Option->bs,StateT->vB,String->oT,True->kz,UInt8->nP,absurd->bB,and_assoc->ahs,and_congr_right->axr,and_true->Tw,beq_eq_false_iff_ne->un,beq_false_of_ne->zB,beq_iff_eq->rQ,beq_self_eq_true->vR,congrArg->dP,decide_eq_decide->nr,decide_eq_false->iv,decide_eq_true->hp,decide_eq_true_eq->ze,decide_eq_true_iff->rR,if_false->Hq,if_neg->be,if_pos->bK,if_true->xf,le_of_eq_of_le->SV,of_decide_eq_false->hj,of_decide_eq_self_eq_true->avG,of_decide_eq_true->eH,«trivial»->lG
def aa.{u}{α:Sort u}{a:α}:a=a:=rfl
local macro_rules| `(($a, $B,*))=> `(⟨$a, $B,*⟩)
open Lean in
def p_t:Nat->Syntax->Array Syntax
 |0,s=>#[s]
 |n+1,s=>if s.getKind=`«term_||_» then p_t n s[0]++#[mkAtom "|"]++p_t n s[2] else #[if s.getKind=`ident then mkNode `Lean.Parser.Tactic.rcasesPat.one #[s] else if s.getNumArgs=3 then mkNode `Lean.Parser.Tactic.rcasesPat.tuple #[s[0],mkNullNode ((#[s[1][0],s[1][1]]++s[1][2].getArgs).map λx=>if x.isAtom then x else mkNode `Lean.Parser.Tactic.rcasesPatLo #[mkNode `Lean.Parser.Tactic.rcasesPatMed #[mkNullNode (p_t n x)],mkNullNode]),s[2]] else mkNode `Lean.Parser.Tactic.rcasesPat.ignore #[s[0]]]
open Lean in
local macro_rules|`(tactic|let $d:letDecl)=>if d.raw[0].getKind=`Lean.Parser.Term.letPatDecl then return mkNode `Lean.Parser.Tactic.obtain #[mkAtom "obtain",mkNullNode #[mkNode `Lean.Parser.Tactic.rcasesPatMed #[mkNullNode (p_t 99 d.raw[0][0])]],mkNullNode,mkNullNode #[mkAtom ":=",mkNullNode #[d.raw[0][4]]]] else `(tactic|have $d:letDecl)
local macro_rules|`(tactic|show $t)=>`(tactic|refine $t)
local macro_rules|`($a>$b)=>`($a∈$b)
local macro_rules|`(tactic|exists $x)=>`(tactic|refine bk λ$x=>?_)
local macro_rules|`(‹$h›)=>`(by simpa using $h)
local macro_rules|`(↑$t)=>`(($t).length)
local macro_rules|`(⋯)=>`(by decide)
local macro_rules|`(#[$t])=>`(List $t)
theorem r_1a(_:True:=by decide):True:=.intro
def r_1:=r_1a._auto_1
theorem r_2a(_:True:=by first|exact .inl aa|exact .inr aa|exact .inr (.inl aa)|exact .inr (.inr aa)|assumption):True:=.intro
def r_2:=r_2a._auto_1
theorem r_3a(_:True:=by first|exact Dh _ (by decide) (by decide)|rfl):True:=.intro
def r_3:=r_3a._auto_1
theorem r_4a(_:True:=by intro _;rfl):True:=.intro
def r_4:=r_4a._auto_1
theorem r_5a(_:True:=by rfl):True:=.intro
def r_5:=r_5a._auto_1
theorem r_6a(_:True:=by with_unfolding_all rfl):True:=.intro
def r_6:=r_6a._auto_1
theorem r_7a(_:True:=by exact∅):True:=.intro
def r_7:=r_7a._auto_1
theorem r_8a(_:True:=by intro vs H Q au _h;first|(induction _h;rfl)|(cases _h;subst_vars;rfl)|((repeat obtain⟨_,_h⟩:=_h);(try cases _h);subst_vars;rfl)):True:=.intro
def r_8:=r_8a._auto_1
theorem r_9a(_:True:=by exact λ_ _=>rfl):True:=.intro
def r_9:=r_9a._auto_1
theorem r_10a(_:True:=by (try dsimp only);k_is):True:=.intro
def r_10:=r_10a._auto_1
section
open Vacfaa
noncomputable def cU:nh->O|jK _ _=>1|gK _ _=>1|fy _ _ B=>cU B+1|iq _ f a=>cU f+cU a+1|ku _ _ e B=>cU e+cU B+1|ni _ c t e=>cU c+cU t+cU e+1|jP _ a B=>cU a+cU B+1|nG _ e=>cU e+1|nH _ e=>cU e+1|kv _ e=>cU e+1|nK _ e=>cU e+1|mH _ r e=>cU r+cU e+1|pQ _ a B=>cU a+cU B+1
def eC:O->nh->Prop|n,jK l _=>l=n|n,gK l _=>l=n|n,fy l _ B=>l=n/\eC (n+1) B|n,iq l f a=>l=n/\eC (n+1) f/\eC (n+1+cU f) a|n,ku l _ e B=>l=n/\eC (n+1) e/\eC (n+1+cU e) B|n,ni l c t e=>l=n/\eC (n+1) c/\eC (n+1+cU c) t/\eC (n+1+cU c+cU t) e|n,jP l a B=>l=n/\eC (n+1) a/\eC (n+1+cU a) B|n,nG l e=>l=n/\eC (n+1) e|n,nH l e=>l=n/\eC (n+1) e|n,kv l e=>l=n/\eC (n+1) e|n,nK l e=>l=n/\eC (n+1) e|n,mH l r e=>l=n/\eC (n+1) r/\eC (n+1+cU r) e|n,pQ l a B=>l=n/\eC (n+1) a/\eC (n+1+cU a) B
theorem mS:∀e:nh,↑(bR e)=cU e:=by
 intro e;induction e<;>(dsimp only[bR,cU]at*;simp_all)<;>lia
def ahA(e:nh):↑(dC e)=cU e:=by rw[dC,aV,mS]
def HT(e:nh):0<cU e:=by cases e<;>(dsimp only[cU];simp)
def HU(n a B:O)(x y:#[O])(b:↑x=a)(d:x++y=qS n (a+B)):x=qS n a/\y=qS (n+a) B:=by
 let e:qS n (a+B)=qS n a++qS (n+a) B:=by
  show eW avs
 rw[e]at d;show List.append_inj d<|by grind
theorem HV(n a B:O):qS n a++qS (n+a) B=qS n (a+B):=by
 show avs
def vG(n a:O):qS n (a+1)=n::qS (n+1) a:=by rfl
def sQ:(∀l n,bi (jK l n)=l)/\(∀l n,bi (gK l n)=l)/\(∀l n B,bi (fy l n B)=l)/\(∀l a B,bi (iq l a B)=l)/\(∀l n a B,bi (ku l n a B)=l)/\(∀l a B c,bi (ni l a B c)=l)/\(∀l a B,bi (jP l a B)=l)/\(∀l a,bi (nG l a)=l)/\(∀l a,bi (nH l a)=l)/\(∀l a,bi (kv l a)=l)/\(∀l a,bi (nK l a)=l)/\(∀l a B,bi (mH l a B)=l)/\(∀l a B,bi (pQ l a B)=l):=by
 show(?_,?_,?_,?_,?_,?_,?_,?_,?_,?_,?_,?_,?_)<;>intros<;>rfl
theorem zs:∀e n,dC e=qS n (cU e)↔eC n e:=by
 intro e
 induction e with
 |num l v=>intro n;(dsimp only[dC,bR,cU,eC];simp[dC,sQ])
 |var l v=>intro n;(dsimp only[dC,bR,cU,eC];simp[dC,sQ])
 |fn l x B h=>intro n;(dsimp only[dC,bR,cU,eC]at*;simp_all [dC,sQ,vG])
 |fst l B h=>intro n;(dsimp only[dC,bR,cU,eC]at*;simp_all [dC,sQ,vG])
 |snd l B h=>intro n;(dsimp only[dC,bR,cU,eC]at*;simp_all [dC,sQ,vG])
 |new l B h=>intro n;(dsimp only[dC,bR,cU,eC]at*;simp_all [dC,sQ,vG])
 |get l B h=>intro n;(dsimp only[dC,bR,cU,eC]at*;simp_all [dC,sQ,vG])
 |ifz l c t e i j m=>
  intro n;let ab:=i<|n+1;let ag:=j<|n+1+cU c;(dsimp only[dC,bR,cU,eC];simp only[dC,vG,fg,cs,uz,<- ab,<- ag,<-(m<|n+1+cU c+cU t)]);show and_congr afw (λd=>?_,λ(a,B,o)=>?_);.rw[mq]at d;let q:=HU (n+1) _ _ _ _ (by rw[aV,mS]) d;let r:=HU _ _ _ _ _ (by rw[aV,mS]) q.2;show(q.1,r.1,r.2)
  .rw[a,B,o,HV,HV];congr 1;show eW<|mq (cU c) (cU t)<|cU e
 |app l f a b g|letE l x f a b g|pair l f a b g|set l f a b g|add l f a b g=>
  intro n;let ab:=b<|n+1;let ag:=g<|n+1+cU f;(dsimp only[dC,bR,cU,eC];simp only[dC,sQ,vG,fg,cs,uz,<- ab,<- ag]);show and_congr afw (λd=>HU (n+1) _ _ _ _ (by rw[aV,mS]) d,(by rintro⟨a,B⟩;show by rw[a,B,HV]))
def HW(B:nP):Prop:=B≠40/\B≠41/\B≠32
def zt(t:vv):Prop:=t≠[]/\∀B∈t,HW B
def Uf{B}(d:oH B=J):HW B:=by
 simp only[oH,fV,ze]at d;show(?_,?_,?_)<;>(rintro rfl;simp_all)
def uk{x}(d:qT x=J):x≠[]/\(∀B∈x,oH B=J)/\↑x<=4/\x∉pR:=by
 simp only[qT,fV,SA,avt,ze,jS,avu,decide_eq_false_iff_not]at d;show(d.1,d.2.2.1,d.2.1,d.2.2.2)
def zu{x}(d:qT x=J):zt x:=((uk d).1,λB b=>Uf<|(uk d).2.1 B b)
theorem zv:∀n:O,n<=99->kg (vw n)=Y n/\(vw n≠[]/\(vw n).all rA=J):=by decide+kernel
def HX{n}(d:n<=99):zt<|vw n:=
 ((zv n d).2.1,λB b=>((λd=>by
   simp only[rA,fV,ze]at d;show(?_,?_,?_)<;>(rintro rfl;simp_all))<|jS.1 (zv n d).2.2 B b))
def zw{w}(d:autoParam ((eu w≠[]/\(eu w).all oH=J)) r_1):zt<|eu w:=
 (d.1,λB b=>Uf<|jS.1 d.2 B b)
theorem Ug{x}(d:qT x=J):kg x=M:=by
 let d:=uk d;delta kg;rw[be];rintro⟨_,ag,_⟩;let(b,ab,_):=d
 cases x with
 |nil=>show b aa
 |cons B r=>
  let a:=ab B<|cp _;let c:=jS.1 ag B<|cp _;simp only[oH,rA,avv]at a c;lia
def Cw{t}(d:zt t):t≠[40]/\t≠[41]:=by
 show(?_,?_)<;>rintro rfl;.show(d.2 40<|dj.2 aa).1 aa
 .show(d.2 41<|dj.2 aa).2.1 aa
noncomputable def gg:nh->#[vv]|jK _ n=>[vw n]|gK _ x=>[x]|fy _ x B=>[40]::eu "fun"::x::(gg B++[[41]])|iq _ f a=>[40]::(gg f++(gg a++[[41]]))|ku _ x e B=>[40]::eu "let"::x::(gg e++(gg B++[[41]]))|ni _ c t e=>[40]::eu "if"::(gg c++(gg t++(gg e++[[41]])))|jP _ a B=>[40]::eu "pair"::(gg a++(gg B++[[41]]))|nG _ e=>[40]::eu "fst"::(gg e++[[41]])|nH _ e=>[40]::eu "snd"::(gg e++[[41]])|kv _ e=>[40]::eu "new"::(gg e++[[41]])|nK _ e=>[40]::eu "get"::(gg e++[[41]])|mH _ r e=>[40]::eu "set"::(gg r++(gg e++[[41]]))|pQ _ a B=>[40]::eu "add"::(gg a++(gg B++[[41]]))
def hi(r:vv):Prop:=r=[]∨∃q,r=32::q∨r=41::q
theorem hi.K{q:(vv)}:hi<|32::q:=bl (q,aQ aa)
theorem hi.R{q:(vv)}:hi<|41::q:=bl (q,bl aa)
theorem xp(r:vv):oK [] (40::r)=[40]::oK [] r:=by rfl
theorem xq(r:vv):oK [] (41::r)=[41]::oK [] r:=by rfl
theorem qa(r:vv):oK [] (32::r)=oK [] r:=by rfl
theorem Uh:∀w cK r,(∀B∈w,HW B)->oK cK (w++r)=oK (cK++w) r
 |[],cK,r,_=>by simp
 |B::w,cK,r,d=>by
  let b:=d B<|cp _;rw[mK,oK,be<|λz=>z.elim b.1 b.2.1,be b.2.2,Uh w _ r λc e=>d c<|eo _ e];simp
theorem sR{w r}(d:zt w)(b:hi r):oK [] (w++r)=w::oK [] r:=by
 rw[Uh w [] r d.2,mj];let rfl||(q,rfl||rfl):=b<;>(dsimp only[oK];simp[(avt.2 d.1)])
def ahB:∀e s,ir s e=J->∀r,hi r->oK [] (hB e++r)=gg e++oK [] r:=by
 intro e
 induction e with
 |num l n=>intro s d r b;show sR (HX<|eH d) b
 |var l x=>intro s d r b;show sR (zu<|by(dsimp only[ir]at d;simp at d);show d.1) b
 |fn l x B i=>
  intro s d r b;(dsimp only[ir]at d;simp only[fV]at d);(dsimp only[hB,zf,zg,zh,gg];simp only[mK,fi,mj]);rw[xp,sR (zw) hi.K,qa,sR (zu d.1) hi.K,qa,i _ d.2.2 _ hi.R,xq]
 |letE l x e B g h=>
  intro s d r b;(dsimp only[ir]at d;simp only[fV]at d);(dsimp only[hB,zf,zg,zh,gg];simp only[mK,fi,mj]);rw[xp,sR (zw) hi.K,qa,sR (zu d.1) hi.K,qa,g _ d.2.2.1 _ hi.K,qa,h _ d.2.2.2 _ hi.R,xq]
 |app l f a g h=>
  intro s d r b;(dsimp only[ir]at d;simp only[fV]at d);(dsimp only[hB,zf,zg,zh,gg];simp only[mK,fi,mj]);rw[xp,g _ d.1 _ hi.K,qa,h _ d.2 _ hi.R,xq]
 |ifz l c t e g h j=>
  intro s d r b;(dsimp only[ir]at d;simp only[fV]at d);(dsimp only[hB,zf,zg,zh,gg];simp only[mK,fi,mj]);rw[xp,sR (zw) hi.K,qa,g _ d.1 _ hi.K,qa,h _ d.2.1 _ hi.K,qa,j _ d.2.2 _ hi.R,xq]
 |pair l f a g h|set l f a g h|add l f a g h=>
  intro s d r b;(dsimp only[ir]at d;simp only[fV]at d);(dsimp only[hB,zf,zg,zh,gg];simp only[mK,fi,mj]);rw[xp,sR (zw) hi.K,qa,g _ d.1 _ hi.K,qa,h _ d.2 _ hi.R,xq]
 |fst l e i|snd l e i|new l e i|get l e i=>
  intro s d r b;(dsimp only[hB,zf,zg,zh,gg];simp only[mK,fi,mj]);rw[xp,sR (zw) hi.K,qa,i _ d _ hi.R,xq]
def ahC(e:nh):kw e<↑(gg e):=by
 induction e<;>(dsimp only[kw,gg]at*;simp_all)<;>lia
def ahD(e:nh)(s:#[lb])(d:ir s e=J):∃w q,gg e=w::q/\w∉pR/\w≠[41]:=by
 cases e with
 |num l n=>
  let d:=eH d;show(_,_,aa,?_,(Cw<|HX d).2);let k:∀n:O,n<=99->vw n∉pR:=by decide+kernel
  show k n d
 |var l x=>
  let d:=by(dsimp only[ir]at d;simp at d);show d.1
  show(_,_,aa,(uk d).2.2.2,(Cw<|zu d).2)
 |_=>show([40],_,aa,⋯,⋯)
def ahF:∀e s,ir s e=J->∀n f r,eC n e->kw e<f->
  qU f n (gg e++r)=Y (e,n+cU e,r):=by
 intro e
 induction e with
 |num l v=>
  intro s d n f r b h;obtain⟨f,rfl⟩:∃g,f=g+1:=(f - 1,(avw h).mp aa);let d:=eH d;let a:=Cw<|HX d;subst b;(dsimp only[gg,qU];simp only[mK,mj]);rw[be a.2,if_pos a.1,(zv v d).1];rfl
 |var l x=>
  intro s d n f r b h;obtain⟨f,rfl⟩:∃g,f=g+1:=(f - 1,(avw h).mp aa);let d:=by(dsimp only[ir]at d;simp at d);show d.1
  let a:=Cw<|zu d;dsimp only[eC]at b;subst b;(dsimp only[gg,qU];simp only[mK,mj]);rw[be a.2,if_pos a.1,Ug d];rfl
 |fn l x B o=>
  intro s d n f r b h;obtain⟨f,rfl⟩:∃g,f=g+1:=(f - 1,by omega);(dsimp only[ir]at d;simp only[fV]at d);dsimp only[eC]at b;let(rfl,b):=b;dsimp only[kw]at h;(dsimp only[gg];simp only[mK,fi,mj]);change(qU f (l+1) _).bind _=_;rw[o _ d.2.2 _ _ _ b<|SD.1 h];(dsimp only[BR,cU];simp);show rX l<|cU B
 |letE l x e B j m=>
  intro s d n f r b h;obtain⟨f,rfl⟩:∃g,f=g+1:=(f - 1,by omega);(dsimp only[ir]at d;simp only[fV]at d);dsimp only[eC]at b;let(rfl,b):=b;dsimp only[kw]at h;(dsimp only[gg];simp only[mK,fi,mj]);change(qU f (l+1) _).bind _=_;rw[j _ d.2.2.1 _ _ _ b.1<|by omega];change(qU f _ _).bind _=_;rw[m _ d.2.2.2 _ _ _ b.2<|by omega];(dsimp only[BR,cU];simp);omega
 |app l g a j m=>
  intro s d n f r b h;obtain⟨f,rfl⟩:∃g,f=g+1:=(f - 1,by omega);(dsimp only[ir]at d;simp only[fV]at d);dsimp only[eC]at b;let(rfl,b):=b;dsimp only[kw]at h;let aB:=j _ d.1 (l+1) f (gg a++([41]::r)) b.1 (by omega);let p:=m _ d.2 (l+1+cU g) f ([41]::r) b.2 (by omega);let(w,q,A,T,_):=ahD g s d.1;let i:∀t∈pR,w≠t:=λt U z=>T<|z▸U;(dsimp only[gg];simp only[mK,fi,mj]);rw[A,mK]at aB⊢;dsimp only[qU];rw[be ⋯,be ⋯,be<|i (eu "fun") ⋯,be<|i (eu "let") ⋯,be<|i (eu "if") ⋯,be<|i (eu "pair") ⋯,be<|i (eu "fst") ⋯,be<|i (eu "snd") ⋯,be<|i (eu "new") ⋯,be<|i (eu "get") ⋯,be<|i (eu "set") ⋯,be<|i (eu "add") ⋯,aB];simp only[avx];rw[p];(dsimp only[BR,cU];simp);omega
 |ifz l c t e j m V=>
  intro s d n f r b h;obtain⟨f,rfl⟩:∃g,f=g+1:=(f - 1,by omega);(dsimp only[ir]at d;simp only[fV]at d);dsimp only[eC]at b;let(rfl,b):=b;dsimp only[kw]at h;(dsimp only[gg];simp only[mK,fi,mj]);change(qU f (l+1) _).bind _=_;rw[j _ d.1 _ _ _ b.1<|by omega];change(qU f _ _).bind _=_;rw[m _ d.2.1 _ _ _ b.2.1<|by omega];change(qU f _ _).bind _=_;rw[V _ d.2.2 _ _ _ b.2.2<|by omega];(dsimp only[BR,cU];simp);omega
 |pair l g a j m|set l g a j m|add l g a j m=>
  intro s d n f r b h;obtain⟨f,rfl⟩:∃g,f=g+1:=(f - 1,by omega);(dsimp only[ir]at d;simp only[fV]at d);dsimp only[eC]at b;let(rfl,b):=b;dsimp only[kw]at h;(dsimp only[gg];simp only[mK,fi,mj]);change(qU f (l+1) _).bind _=_;rw[j _ d.1 _ _ _ b.1<|by omega];change(qU f _ _).bind _=_;rw[m _ d.2 _ _ _ b.2<|by omega];(dsimp only[BR,cU];simp);omega
 |fst l e o|snd l e o|new l e o|get l e o=>
  intro s d n f r b h;obtain⟨f,rfl⟩:∃g,f=g+1:=(f - 1,by omega);dsimp only[ir]at d;dsimp only[eC]at b;let(rfl,b):=b;dsimp only[kw]at h;(dsimp only[gg];simp only[mK,fi,mj]);change(qU f (l+1) _).bind _=_;rw[o _ d _ _ _ b<|SD.1 h];(dsimp only[BR,cU];simp);show rX l<|cU e
theorem Cx{e:(nh)}:afx e=J↔ir [oP] e=J/\eC 0 e/\cU e<=30/\kw e<=8:=by
 simp only[afx,fV,beq_iff_eq,ze,ahA];rw[avy,zs];show afw
set_option tactic.hygienic true in
theorem HZ{e:(nh)}{t}:nj t=Y e↔afx e=J/\hB e=t:=by
 constructor
 .intro d;rw[nj,xS]at d;let(g,_,d):=d;split at d;.rename_i q;simp at q;cases d;show(q.2.1,q.2.2)
  .cases d
 .rintro⟨d,rfl⟩;let q:=Cx.1 d;let f:=by
   have:=ahB e _ q.1 []<|aQ aa;simpa [oK]using this
  let b:=ahF e _ q.1 0 (↑(gg e)+1) [] q.2.1 (by have:=ahC e;show afy 1 this);rw[e']at b;simp only[nj,f,b,avx,d];simp
end
section
open Vacfaa (Expr Ctx labelOf)
open Vacfab (Place)
open Vacfac
noncomputable def zx(w:Look)(l:O):bs O:=(w.binders.find? λz=>z.1==l).bind λz=>z.2
noncomputable def Ui(w:Look)(g:O):#[O]:=((w.frees.find? λz=>z.1==g).map λz=>z.2).getD []
inductive fX(w:Look)(k:O)(ai:fe->Prop)(c:fh):nh->fe->Prop|R{l n}:fX w k ai c (jK l n)<|cP (cg l) c hg|S{l x}:zx w l=M->fX w k ai c (gK l x) (cP (cg l) c hg)|X{l x B a}:zx w l=Y B->ai (cP (gd B) c a)->fX w k ai c (gK l x) (cP (cg l) c a)|a0{l x B}:fX w k ai c (fy l x B)<|cP (cg l) c<|kh l c|K{l f a g ae}:ai (cP (cg<|bi f) c<|kh g ae)->fX w k ai c (iq l f a) (lc g<|(l::c).take k)|a1{l f a g ae v}:ai (cP (cg<|bi f) c<|kh g ae)->ai (cP (cg<|bi a) c v)->fX w k ai c (iq l f a) (cP (gd g) ((l::c).take k) v)|b8{l f a g ae y v}:ai (cP (cg<|bi f) c<|kh g ae)->y>Ui w g->ai (cP (gd y) ae v)->fX w k ai c (iq l f a) (cP (gd y) ((l::c).take k) v)|a2{l f a g ae B v}:ai (cP (cg<|bi f) c<|kh g ae)->B>oQ w.prog g->ai (cP (cg<|bi B) ((l::c).take k) v)->fX w k ai c (iq l f a) (cP (cg l) c v)|a3{l x ae B v}:ai (cP (cg<|bi ae) c v)->fX w k ai c (ku l x ae B) (cP (gd l) c v)|a4{l x ae B v}:ai (cP (cg<|bi B) c v)->fX w k ai c (ku l x ae B) (cP (cg l) c v)|a5{l z a B v}:ai (cP (cg<|bi a) c v)->fX w k ai c (ni l z a B) (cP (cg l) c v)|a6{l z a B v}:ai (cP (cg<|bi B) c v)->fX w k ai c (ni l z a B) (cP (cg l) c v)|a7{l a B}:fX w k ai c (jP l a B)<|cP (cg l) c<|kx l c|a8{l a B v}:ai (cP (cg<|bi a) c v)->fX w k ai c (jP l a B) (cP (nQ l) c v)|a9{l a B v}:ai (cP (cg<|bi B) c v)->fX w k ai c (jP l a B) (cP (nR l) c v)|b0{l ae m s v}:ai (cP (cg<|bi ae) c<|kx m s)->ai (cP (nQ m) s v)->fX w k ai c (nG l ae) (cP (cg l) c v)|b1{l ae m s v}:ai (cP (cg<|bi ae) c<|kx m s)->ai (cP (nR m) s v)->fX w k ai c (nH l ae) (cP (cg l) c v)|b2{l ae}:fX w k ai c (kv l ae)<|cP (cg l) c<|le l c|b3{l ae v}:ai (cP (cg<|bi ae) c v)->fX w k ai c (kv l ae) (cP (lf l) c v)|b4{l ae m s v}:ai (cP (cg<|bi ae) c<|le m s)->ai (cP (lf m) s v)->fX w k ai c (nK l ae) (cP (cg l) c v)|b5{l r ae v}:ai (cP (cg<|bi ae) c v)->fX w k ai c (mH l r ae) (cP (cg l) c v)|b6{l r ae m s v}:ai (cP (cg<|bi r) c<|le m s)->ai (cP (cg<|bi ae) c v)->fX w k ai c (mH l r ae) (cP (lf m) s v)|b7{l a B}:fX w k ai c (pQ l a B)<|cP (cg l) c hg
def jd(ai:fe->Prop)(o:bs O)(c:fh):Prop:=match o with|M=>c=[]|Y f=>ai<|lc f c
def fX.b9{w k ai b c x f}(d:fX w k ai c x f)(m:∀g,ai g->b g):fX w k b c x f:=by
 cases d with|R=>show .R|S a=>show .S a|X a B=>show .X a<|m _ B|a0=>show .a0|K a=>show .K<|m _ a|a1 a B=>show .a1 (m _ a)<|m _ B|b8 a B c=>show .b8 (m _ a) B<|m _ c|a2 a B c=>show .a2 (m _ a) B<|m _ c|a3 a=>show .a3<|m _ a|a4 a=>show .a4<|m _ a|a5 a=>show .a5<|m _ a|a6 a=>show .a6<|m _ a|a7=>show .a7|a8 a=>show .a8<|m _ a|a9 a=>show .a9<|m _ a|b0 a B=>show .b0 (m _ a)<|m _ B|b1 a B=>show .b1 (m _ a)<|m _ B|b2=>show .b2|b3 a=>show .b3<|m _ a|b4 a B=>show .b4 (m _ a)<|m _ B|b5 a=>show .b5<|m _ a|b6 a B=>show .b6 (m _ a)<|m _ B|b7=>show .b7
theorem jd.K{b:(fe->Prop)}{ai}{o c}(d:jd ai o c)(m:∀g,ai g->b g):jd b o c:=by
 cases o with|none=>show d|some f=>show m _ d
def fX.c0{w k ai c x f}(d:fX w k ai c x f):∃t:ua,(∀g∈t,ai g)/\fX w k (·>t) c x f:=by
 let i:∀g∈([]:ua),ai g:=λg z=>(by cases z);let ab:∀{p:fe},ai p->∀g∈[p],ai g:=λ{p} j g z=>(dj.1 z)▸j;let ag:∀{p q:fe},ai p->ai q->∀g∈[p,q],ai g:=λ{p q} j l g z=>by
  grind
 let b:∀{p:fe},p>[p]:=by simp
 let e:∀{p q:fe},p>[p,q]:=by simp
 let h:∀{p q:fe},q>[p,q]:=by simp
 cases d with|R=>show([],i,.R)|S a=>show([],i,.S a)|X a B=>show(_,ab B,.X a b)|a0=>show([],i,.a0)|K a=>show(_,ab a,.K b)|a1 a B=>show(_,ag a B,.a1 e h)|b8 a B c=>show(_,ag a c,.b8 e B h)|a2 a B c=>show(_,ag a c,.a2 e B h)|a3 a=>show(_,ab a,.a3 b)|a4 a=>show(_,ab a,.a4 b)|a5 a=>show(_,ab a,.a5 b)|a6 a=>show(_,ab a,.a6 b)|a7=>show([],i,.a7)|a8 a=>show(_,ab a,.a8 b)|a9 a=>show(_,ab a,.a9 b)|b0 a B=>show(_,ag a B,.b0 e h)|b1 a B=>show(_,ag a B,.b1 e h)|b2=>show([],i,.b2)|b3 a=>show(_,ab a,.b3 b)|b4 a B=>show(_,ag a B,.b4 e h)|b5 a=>show(_,ab a,.b5 b)|b6 a B=>show(_,ag a B,.b6 e h)|b7=>show([],i,.b7)
def oZ{t}{p c a}:a>setAt t p c↔cP p c a>t:=by
 delta setAt;rw[ln];constructor
 .rintro⟨f,b,e⟩
  cases f with
  |come g ae=>simp at e
  |here q ae B=>
   grind
 .intro d;show(_,d,by simp)
def gx{x c t a}:a>at_ x c t↔cP (cg<|bi x) c a>t:=oZ
def Cy{t o c}:c>wS t o↔jd (·>t) o c:=by
 cases o with
 |none=>simp[wS,jd]
 |some f=>
  rw[wS,jd,ln];constructor
  .rintro⟨g,b,e⟩
   cases g with
   |here q ae B=>simp at e
   |come g ae=>
    simp_all
  .intro d;show(_,d,by simp)
def kC{p c l f}:f>put p c l↔∃a∈l,f=cP p c a:=by simp[put,eq_comm]
def ahG{w k t c x f}:f>Hb w k t c x↔fX w k (·>t) c x f:=by
 constructor
 .intro d
  cases x with
  |num l n=>let(a,b,rfl):=kC.1 d;rw[dj.1 b];show .R
  |var l x=>
   cases e:zx w l with
   |none=>
    simp only[Hb,show((w.binders.find? λz=>z.1==l).bind λz=>z.2)=M from e]at d;let(a,b,rfl):=kC.1 d;rw[dj.1 b];show .S e
   |some B=>
    simp only[Hb,show((w.binders.find? λz=>z.1==l).bind λz=>z.2)=Y B from e]at d;let(a,b,rfl):=kC.1 d;show .X e<|oZ.1 b
  |fn l x B=>let(a,b,rfl):=kC.1 d;rw[dj.1 b];show .a0
  |app l g a=>
   let(v,h,d):=dZ.1 d
   cases v with
   |fn g ae=>
    let h:=gx.1 h;let rfl||d:=cc.1 d;.show .K h
    .let d||d:=du.1 d;.let(a,b,rfl):=kC.1 d;show .a1 h<|gx.1 b
     .let d||d:=du.1 d;.let(y,j,d):=dZ.1 d;let(a,b,rfl):=kC.1 d;show .b8 h j<|oZ.1 b
      .let(y,j,d):=dZ.1 d;let(a,b,rfl):=kC.1 d;show .a2 h j<|gx.1 b
   |_=>simp at d
  |letE l x ae B=>
   let d||d:=du.1 d<;>let(a,b,rfl):=kC.1 d;.show .a3<|gx.1 b
   .show .a4<|gx.1 b
  |ifz l z a B=>
   let d||d:=du.1 d<;>let(a,b,rfl):=kC.1 d;.show .a5<|gx.1 b
   .show .a6<|gx.1 b
  |pair l a B=>
   let d||d:=du.1 d;.let(a,b,rfl):=kC.1 d;rw[dj.1 b];show .a7
   .let d||d:=du.1 d<;>let(a,b,rfl):=kC.1 d;.show .a8<|gx.1 b
    .show .a9<|gx.1 b
  |fst l ae=>
   let(v,h,d):=dZ.1 d
   cases v with|pair m s=>let(a,b,rfl):=kC.1 d;show .b0 (gx.1 h)<|oZ.1 b|_=>simp at d
  |snd l ae=>
   let(v,h,d):=dZ.1 d
   cases v with|pair m s=>let(a,b,rfl):=kC.1 d;show .b1 (gx.1 h)<|oZ.1 b|_=>simp at d
  |new l ae=>
   let d||d:=du.1 d<;>let(a,b,rfl):=kC.1 d;.rw[dj.1 b];show .b2
   .show .b3<|gx.1 b
  |get l ae=>
   let(v,h,d):=dZ.1 d
   cases v with|ref m s=>let(a,b,rfl):=kC.1 d;show .b4 (gx.1 h)<|oZ.1 b|_=>simp at d
  |set l r ae=>
   let d||d:=du.1 d;.let(a,b,rfl):=kC.1 d;show .b5<|gx.1 b
   .let(v,h,d):=dZ.1 d
    cases v with|ref m s=>let(a,b,rfl):=kC.1 d;show .b6 (gx.1 h)<|gx.1 b|_=>simp at d
  |add l a B=>let(a,b,rfl):=kC.1 d;rw[dj.1 b];show .b7
 .intro d;let aq:∀{p a l},a>l->cP p c a>put p c l:=λb=>kC.2 (_,b,aa);let i:∀{p ae a l},a>l->cP p ae a>put p ae l:=λb=>kC.2 (_,b,aa)
  cases d with|R=>show aq<|by simp|S a=>delta zx at a;simp only[Hb,a];show aq<|by simp|X a B=>delta zx at a;simp only[Hb,a];show aq<|oZ.2 B|a0=>show aq<|by simp|K a=>show dZ.2 (_,gx.2 a,(cp _))|a1 a B=>show dZ.2 (_,gx.2 a,el _<|dQ _<|i<|gx.2 B)|b8 a y B=>show dZ.2 (_,gx.2 a,el _<|cG _<|dQ _<|dZ.2 (_,y,i<|oZ.2 B))|a2 a y B=>show dZ.2 (_,gx.2 a,el _<|cG _<|cG _<|dZ.2 (_,y,i<|gx.2 B))|a3 a=>show dQ _<|aq<|gx.2 a|a4 a=>show cG _<|aq<|gx.2 a|a5 a=>show dQ _<|aq<|gx.2 a|a6 a=>show cG _<|aq<|gx.2 a|a7=>show dQ _<|aq<|by simp|a8 a=>show cG _<|dQ _<|aq<|gx.2 a|a9 a=>show cG _<|cG _<|aq<|gx.2 a|b0 a B=>show dZ.2 (_,gx.2 a,aq<|oZ.2 B)|b1 a B=>show dZ.2 (_,gx.2 a,aq<|oZ.2 B)|b2=>show dQ _<|aq<|by simp|b3 a=>show cG _<|aq<|gx.2 a|b4 a B=>show dZ.2 (_,gx.2 a,aq<|oZ.2 B)|b5 a=>show dQ _<|aq<|gx.2 a|b6 a B=>show cG _<|dZ.2 (_,gx.2 a,i<|gx.2 B)|b7=>show aq<|by simp
def H_{w k t f}:f>Hc w k t↔∃o∈w.owns,∃c,jd (·>t) o.owner c/\fX w k (·>t) c o.node f:=by
 simp only[Hc,dZ,Cy,ahG]
inductive gy(w:Look)(k:O):fe->Prop|mk(t:ua)(f:fe):(∀g∈t,gy w k g)->f>Hc w k t->gy w k f
theorem gy.R{w k o c f}(h:o>w.owns)(b:jd (gy w k) o.owner c)(d:fX w k (gy w k) c o.node f):gy w k f:=by
 let(t,i,r):=d.c0
 let j:∃u:ua,(∀g∈u,gy w k g)/\jd (·>u) o.owner c:=by
  cases e:o.owner with|none=>rw[e]at b;show([],(λg z=>bB z<|by simp,b))|some q=>rw[e]at b;show([lc q c],λg z=>(dj.1 z)▸b,by change _>_;simp)
 let(u,l,ae):=j;show .mk (t++u) f (λg z=>(du.1 z).elim (i g)<|l g)<|H_.2 (o,h,c,ae.K λ_ z=>cG _ z,r.b9 λ_ z=>dQ _ z)
theorem gy.K{w k ai}(bw:∀o∈w.owns,∀c,jd ai o.owner c->∀f,fX w k ai c o.node f->ai f){f}(d:gy w k f):ai f:=by
 induction d with
 |mk t f _ e b=>
  let(o,g,c,h,r):=H_.1 e;show bw o g c (h.K b) f<|r.b9 b
set_option tactic.hygienic true in
theorem Cz:∀l t u,Hd t l=Y u->↑t<=400->(t.Nodup->u.Nodup)/\(∀f,f>u↔f>t∨f>l)/\↑t<=↑u/\↑u<=400/\(↑u=↑t->u=t)
 |[],t,u,d,b=>by
  cases d;show(id,λf=>by simp,dw,b,λ_=>rfl)
 |x::l,t,u,d,b=>by
  unfold Hd at d;split at d
  .rename_i g;let h:=‹g›
   let(a,B,c,ae,e):=Cz l t u d b;show(a,λf=>?_,c,ae,e);rw[B f,cc];constructor
   .rintro(z|z);.show aQ z
    .show bl<|bl z
   .rintro(z|rfl|z);.show aQ z
    .show aQ h
    .show bl z
  .rename_i g;let h:=‹g›
   split at d;.cases d
   .rename_i i;let i:↑t<400:=afz i;let(a,B,c,ae,e):=Cz l (t++[x]) u d (by simp;show SF i);simp only[cW,afA]at c e;show(λn=>a ?_,λf=>?_,lm c,ae,λz=>by lia);.rw[lQ];show(n,by simp,λp j q m z=>by rw[dj.1 m]at z;show h<|z▸j)
    .rw[B f,du,dj,cc];show or_assoc
set_option tactic.hygienic true in
theorem H':∀l t,Hd t l=M->t.Nodup->↑t<=400->∃m:ua,m.Nodup/\↑m=401/\∀f∈m,f>t∨f>l
 |[],t,d,_,_=>(by cases d)
 |x::l,t,d,n,g=>by
  unfold Hd at d;split at d;.let(m,a,B,c):=H' l t d n g;show(m,a,B,λf z=>(c f z).imp id<|el _)
  .rename_i h;let i:=‹h›
   let e:(t++[x]).Nodup:=by
    rw[lQ];show(n,by simp,λp j q o z=>by rw[dj.1 o]at z;show i<|z▸j)
   split at d;.rename_i b;let b:400<=↑t:=b;show(t++[x],e,by simp;lia,λf z=>‹(du.1 z).imp id λq=>aQ<|‹q››)
   .rename_i b;let b:↑t<400:=afz b;let(m,a,B,c):=H' l (t++[x]) d e (by simp;show SF b);show(m,a,B,λf z=>?_);have:=c f z;rw[du,dj]at this;rwa [cc,<- or_assoc]
theorem Uj{w k}:∀n t u,SG w k n t=Y u->t.Nodup->↑t<=400->400<↑t+n->(∀f∈t,gy w k f)->
  u.Nodup/\↑u<=400/\(∀f∈u,gy w k f)/\∀f∈Hc w k u,f>u
 |0,t,u,_,_,b,h,_=>by lia
 |n+1,t,u,d,aD,b,h,g=>by
  rw[SG,xS]at d;let(v,i,d):=d;let(a,B,c,ae,e):=Cz _ _ _ i b;split at d;.simp_all
  .show Uj n v u d (a aD) ae (by lia) λf z=>((B f).mp z).elim (g f) λr=>.mk t f g r
theorem Uk{w k}:∀n t,SG w k n t=M->t.Nodup->↑t<=400->(∀f∈t,gy w k f)->
  ∃m:ua,m.Nodup/\↑m=401/\∀f∈m,gy w k f
 |0,t,d,_,_,_=>(by cases d)
 |n+1,t,d,aD,h,b=>by
  rw[SG,Option.bind_eq_none_iff]at d
  cases g:Hd t (Hc w k t)with
  |none=>
   let(m,a,B,c):=H' _ _ g aD h;show(m,a,B,λf z=>(c f z).elim (b f) λr=>.mk t f b r)
  |some v=>
   let d:=d v g;let(a,B,c,ae,e):=Cz _ _ _ g h;split at d;.cases d
   .show Uk n v d (a aD) ae λf z=>((B f).mp z).elim (b f) λr=>.mk t f b r
def Ul{e:(nh)}{k t}(d:hT e k=Y t):t.Nodup/\↑t<=400/\∀f,f>t↔gy (oR e) k f:=by
 let(a,B,c,ae):=Uj (FACTS+1) [] t d mP (by simp) (by simp[FACTS]) λ_ z=>(by cases z);show(a,B,λf=>(c f,λq=>gy.K (λo b c g f r=>ae f<|H_.2 (o,b,c,g,r)) q))
theorem zy{A:Type}[i_ A]:∀(l m:#[A]),l.Nodup->(∀x∈l,x>m)->↑l<=↑m
 |[],m,_,_=>by simp
 |a::l,m,d,s=>by
  let b:=f_.1 d;have:=zy l (m.erase a) b.2 λx f=>(List.mem_erase_of_ne<|λ(e:x=a)=>b.1<|e▸f).mpr<|s x<|eo _ f;let g:=s a<|cp _;rw[List.length_erase_of_mem g]at this;have:=List.length_pos_of_mem g;simp;lia
def ahH{e:nh}{k:O}{T:#[fe]}(aD:T.Nodup)(a1:↑T<=400)(h:∀f,f>T↔gy (oR e) k f):∃t,hT e k=Y t/\t.Nodup/\↑t=↑T/\∀f,f>t↔f>T:=by
 cases d:hT e k with
 |none=>
  let(m,a,B,c):=Uk (FACTS+1) [] d mP (by simp) λ_ z=>nomatch z;have:=zy m T a λx b=>(h x).mpr<|c x b;lia
 |some t=>
  let(a,B,c):=Ul d;let im:=zy t T a λx b=>(h x).mpr<|(c x).mp b;let g:=zy T t aD λx b=>(c x).mpr<|(h x).mp b;show(t,aa,a,v_ im g,λf=>(c f).trans (h f).symm)
def ahK{e:nh}{k:O}{T:#[fe]}(aD:T.Nodup)(h:400<↑T)(b:∀f∈T,gy (oR e) k f):hT e k=M:=by
 cases d:hT e k with
 |none=>rfl
 |some t=>
  let(a,B,c):=Ul d;have:=zy T t aD λx g=>(c x).mpr<|b x g;lia
end
open PySem PySem.Spec PyProof.Rows PyProof.Rows.KTD
open PySem.W (KatLex KatTups KdlSrc Looks WalkOS callWith_K0 cellsFrom_some codeIn emptyDict findIn fnOf hasDictIn hideAll hideAll_none instObj kat_go kat_kind kat_lt kat_no kat_yes keepIn lookIn makesIn mg_of nsIn nsOkIn of_hideAll plainGet plainGet_of plainOver takerIn typeIn)
open Vacfaa (Arrow LONG Name STEPS Text funsOf isApp isFun programOf runOf sitesOf toldAbs toldNats)
open Vacfac (Out_ Table arrowsIn bitOf comes ctxOf deadIn escapes leastOf onNode onTable partsAt placeNumbers setAt tell toldSort toldValues)
local macro_rules| `(tactic|rfl')=> `(tactic|decide+kernel)
local macro_rules| `(∅)=> `((aa,aa,aa,by decide+kernel,aa,by decide+kernel,by decide+kernel))



























































































































































































































open Vacfaa (Abs INPUT Out RESERVED absOf addTo andThen ascii binderOf bindersIn bindersOf decimal deepOf gives isClosed isDigit isName isSmall labelOf labelsOf made nodesOf numberOf textOf)
open Vacfab (Way broughtBy inOrder labelled mostFacts neededBy placesOf roundOf roundsFrom seedsIn seedsOf sortsOf waysIn waysOf)
open Vacfac (Ask Fact Own Sort_ State bodiesOf bodyOf ctxBefore does given into lookAt ordered ownersIn sortBefore sortsAt stringsOf valuesIn)
variable{a:L}{A:vx}{am:#[L×hn]}{bj:iK}{s:cQ}{α:Type}{u:bc}{au:bc->cQ->Prop}{w:hC}
section
abbrev jh:=Sum N E
noncomputable def wb:jh->bc->dq|eZ k,v=>SH k v|ky x,v=>avz x v
noncomputable def Um(w:hC):jh->N|eZ k=>hashInt k|ky x=>hashStr w x
theorem qg:∀{k v},wb k v=J->(∃i t,k=eZ i/\v=ew i t)∨(∃x t,k=ky x/\v=nk x t)
 |eZ i,v,d=>by
  let(t,e):=Value.isInt_shape d;show aQ (i,t,aa,e)
 |ky x,v,d=>by
  let(t,e):=Value.isStrOf_shape d;show bl (x,t,aa,e)
def ahP(i:N)(t:nl):wb (eZ i) (ew i t)=J:=by simp[wb,SH]
def ahQ(x:E)(t:nl):wb (ky x) (nk x t)=J:=by simp[wb,avz]
theorem ahR(a B:N):bp ((eZ a:jh)=eZ B)=(a==B):=by
 grind
theorem ahS(a B:E):bp ((ky a:jh)=ky B)=bp (a=B):=by
 grind
theorem ahT(a:N)(B:E):bp ((eZ a:jh)=ky B)=aX:=iv<|λq=>(by cases q)
theorem ahU(a:E)(B:N):bp ((ky a:jh)=eZ B)=aX:=iv<|λq=>(by cases q)
noncomputable def jx(eR:fs)(w:hC):PySem.KeyKind eR w jh where
 is:=wb
 hash:=Um w
 inj:=λv a B g f=>by
  let (i,t,rfl,rfl)||(x,t,rfl,rfl):=qg g
  .let (j,u,rfl,e)||(y,u,rfl,e):=qg f;.injection e with aB _;rw[aB]
   .show nomatch e
  .let (j,u,rfl,e)||(y,u,rfl,e):=qg f;.show nomatch e
   .injection e with aB _;rw[aB]
 byValue:=λk v d=>by
  let (i,t,rfl,rfl)||(x,t,rfl,rfl):=qg d<;>rfl
 pyHash:=λb d=>by
  let (i,t,rfl,rfl)||(x,t,rfl,rfl):=qg b;.show wpAny_pyHash_int d
  .show avA d
 eqBool:=λh b d=>by
  let (i,t,rfl,rfl)||(x,t,rfl,rfl):=qg h
  .let (j,u,rfl,rfl)||(y,u,rfl,rfl):=qg b;.rw[ahR]at d;show wpAny_eqBool_int d
   .rw[ahT]at d;show avB i t y u _ _ _ _ d
  .let (j,u,rfl,rfl)||(y,u,rfl,rfl):=qg b;.rw[ahU]at d;show avC x t j u _ _ _ _ d
   .rw[ahS]at d;show wpAny_eqBool_str d
 «strs»:=λk x t v d=>by
  let (i,u,rfl,e)||(y,u,rfl,e):=qg d;.show nomatch e
  .injection e with aB _;subst aB;cases v<;>rfl
abbrev ft:=Sum jh #[jh]
section
variable{aq:fs}
def qh(aq:fs)(w:hC)(d:ez):ft->bc->Prop|eZ k,v=>wb k v=J|ky bu,v=>∃B,v=I B/\wT (jx aq w) d bu B
def of(aq:fs)(w:hC)(d:ez)(bu:#[ft])(a:L):Prop:=
 ∃o bh n,d.get? a=Y o/\o.cls=cF "tuple" /\o.data=fp bh n/\eq (qh aq w d) bu bh.toList
noncomputable def Ki(aq:fs)(w:hC):ft->N|eZ k=>Um w k|ky bu=>tupleKeyHash (jx aq w) bu
noncomputable def De:ft->O|eZ _=>1|ky bu=>↑bu+1
noncomputable def Un(aq:fs)(w:hC)(bu:#[ft]):N:=reduceHash<|avD<|bu.map<|Ki aq w
noncomputable def Uo(bu:#[ft]):O:=(bu.map De).sum+1
theorem qh.inj{y:ft}{d x v}(a:qh aq w d x v)(B:qh aq w d y v):x=y:=by
 cases x with
 |inl k=>
  cases y with
  |inl j=>rw[(jx aq w).inj v k j a B]
  |inr b=>
   let(c,rfl,_):=B;show bB ((jx aq w).byValue _ _ a)<|by simp[carriedByValue]
 |inr bu=>
  let(c,rfl,a):=a
  cases y with
  |inl j=>show bB ((jx aq w).byValue _ _ B)<|by simp[carriedByValue]
  |inr b=>
   obtain⟨ae,⟨⟩,B⟩:=B;rw[a.inj B]
theorem ahV{d}:∀{x y vs},eq (qh aq w d) x vs->eq (qh aq w d) y vs->x=y:=by
 intro x y vs d
 induction d generalizing y with|nil=>intro q;cases q;rfl|cons a t b=>intro q;cases q with|cons B u=>rw[a.inj B,b u]
theorem of.inj{d a x}(p:of aq w d x a)(q:of aq w d y a):x=y:=by
 let(o,bh,n,aB,_,cb,im):=p;let(c',qP,iX,b,_,cl,e):=q;grind [ahV]
def of.typeIs{bu:#[ft]}(x:of aq w s.heap bu a):s.TypeIs (I a) "tuple":=by
 let(o,bh,n,aB,b,_,_):=x;show(o,aB,b)
theorem of.K{d a}(x:of aq w d bu a):∃bh:gv bc,d.IsTuple a bh/\eq (qh aq w d) bu bh.toList:=by
 let(o,bh,n,aB,b,cb,im):=x;show(bh,(o,aB,b,n,cb),im)
def Up{d a}(x:wT (jx aq w) d bu a):∃bh:gv bc,d.IsTuple a bh:=by
 let(o,bh,n,aB,b,cb,im):=x;show(bh,(o,aB,b,n,cb))
theorem of.R{bg:ez}{bu:#[ft]}{ae:L}{d a o}{bf dz}(x:of aq w d bu a)(b:d.get? ae=Y o)(h:o.data=i' bf dz)(aw:wU ae d bg):of aq w bg bu a:=by
 let(c',bh,n,aB,f,cb,im):=x;let i:a≠ae:=λz=>by
  grind
 show(c',bh,n,(aw.2 a i).trans aB,f,cb,?_);revert im;generalize bh.toList=l;intro im
 induction im with
 |nil=>show ed
 |@cons p q ay m g t j=>
  show eS ?_ j
  cases p with
  |inl k=>show g
  |inr v=>
   let(B,e,z):=g;show(B,e,z.keeps b h aw)
def ahW{x v}(b:A.units<it)(g:qh aq w s.heap x v)(d:Q (Ki aq w x) {s with toks:=s.toks+De x}):
  bP (b' aq w) A (pyHash v) Q au s:=by
 cases x with
 |inl k=>show(jx aq w).pyHash g d
 |inr bu=>
  let(B,rfl,z):=g;show wpAny_pyHash_tuple b z d
def Uq(b:fs)(h:hC){d a}(x:wT (jx aq w) d bu a):wT (jx b h) d bu a:=by
 let(o,bh,n,aB,e,cb,im):=x;show(o,bh,n,aB,e,cb,?_);revert im;generalize bh.toList=l;intro im
 induction im with|nil=>show .nil|cons g _ f=>show .cons g f
def ahX{x v}(b:A.units<it)(g:qh aq w s.heap x u)(h:qh aq w s.heap y v):He A s u v<|bp<|x=y:=by
 cases x with
 |inl k=>
  cases y with
  |inl j=>
   let e:bp ((eZ k:ft)=eZ j)=bp (k=j):=by
    by_cases z:k=j;.simp[z]
    .simp[z]
   rw[e];show(λaq w _ _ d=>(jx aq w).eqBool g h d)
  |inr f=>
   let(B,rfl,z):=h;let(bh,cx):=Up z;let e:bp ((eZ k:ft)=ky f)=aX:=iv<|λq=>(by cases q);rw[e];let (i,t,rfl,rfl)||(i,t,rfl,rfl):=qg g;.show SeqAt.EqAt.int_tuple _ _ cx b
   .show SeqAt.EqAt.str_tuple _ _ cx b
 |inr bu=>
  let(B,rfl,z):=g
  cases y with
  |inl j=>
   let(bh,cx):=Up z;let e:bp ((ky bu:ft)=eZ j)=aX:=iv<|λq=>(by cases q);rw[e];let (i,t,rfl,rfl)||(i,t,rfl,rfl):=qg h;.show SeqAt.EqAt.tuple_int _ _ cx b
   .show SeqAt.EqAt.tuple_str _ _ cx b
  |inr f=>
   let(c,rfl,o):=h;let e:bp ((ky bu:ft)=ky f)=bp (bu=f):=by
    by_cases q:bu=f;.simp[q]
    .simp[q]
   rw[e];show λl m _ _ d=>afB b (Uq l m z) (Uq l m o) d
def Kj{ax}:∀{l:#[α]}{m:#[eB]},eq ax l m->∀(i:O)(ab:i<↑l)(ag:i<↑m),ax l[i] m[i]:=by
 intro l m d
 induction d with|nil=>intro i ab;cases ab|cons r t b=>intro i ab ag;cases i with|zero=>show r|succ i=>show b i (SD.1 ab)<|SD.1 ag
def ahZ{x y:#[ft]}{B:L}(b:A.units+1<it)(h:of aq w s.heap x a)(a1:of aq w s.heap y B):He A s (I a) (I B)<|bp<|x=y:=by
 by_cases f:a=B;.subst f;let e:=h.inj a1;subst e;rw[hp aa];show avF _
 .let(xs,ry,g):=h.K;let(cv,ev,i):=a1.K;let l:↑x=xs.size:=by rw[jR g];show sS
  let m:↑y=cv.size:=by rw[jR i];show sS
  let r:=SeqAt.RcAt.tuples (A:=A) (e:=λj=>bp<|x[j]? =y[j]?) ry ev (zA b) λj ab ag=>by
   let q:=ahX (A:=A.in1) b (Kj g j (n' ab<|id<|eW l)<|‹ab›) (Kj i j (n' ag<|id<|eW m) ‹ag›);simp_all
  let e:((oS<|pS xs.size cv.size).all (λj=>bp<|x[j]? =y[j]?)&&xs.size==cv.size)=bp (x=y):=by
   rw[<- l,<- m];rw[oa,fV,rQ,rR];constructor;.rintro⟨d,o⟩;show o_ λj=>?_;grind
   .rintro rfl;show(jS.2 λj _=>avG x[j]?,aa)
  rw[e]at r;show .of_refs f r
theorem Ur:∀bu vs s B Q,A.units<it->eq (qh aq w s.heap) bu vs->
  (∀b:gv N,b.toList=B.toList++bu.map (Ki aq w)->Q b {s with toks:=s.toks+(bu.map De).sum})->
  bP (b' aq w) A (BS vs B λx r=>do let d<- pyHash x;gt PUnit.unit;gt (wV<|r.push d)) Q au s
 |[],_,s,B,Q,_,x,d=>by
  cases x;show c_<|d B<|by simp
 |k::bu,_,s,B,Q,e,x,d=>by
  cases x with
  |cons f g=>
   rw[SK];show bq<|bq<|ahW e f<|bq<|c_<|c_ ?_;show Ur bu _ {s with toks:=s.toks+De k} _ Q e g λb h=>?_;let q:=d b (by simp[h]);rw[fg,SP,<- mq]at q;show q
def aia{bu a Q}(b:A.units+1<it)(h:of aq w s.heap bu a)(d:Q (Un aq w bu) {s with toks:=s.toks+Uo bu}):
  bP (b' aq w) A (pyHash<|I a) Q au s:=by
 let e:=h.typeIs;let(o,bh,n,aB,_,cb,im):=h;show PySem.W.pyHash_slot e F.slot_tuple_hash F.entry_tuple_hash (F.args_tuple_hash_1 _) (avH _) (bl<|zA b) ?_;change bP _ _ (afC (I a)>>=_) _ _ s;show bq<|wpAny_tupleItemsOf aB cb<|bq ?_;rw[<- avK];show Ur bu bh.toList s #[] _ b im λB f=>?_;change bP _ _ (retInt<|avD B.toList) _ _ _;rw[f,mj];show bq<|wpAny_mkInt<|c_ (_,_,aa,d)
def Us{n a bh}(a1:s.heap.IsTuple a bh)(a2:∀v∈bh.toList,∀b:dq->cQ->Prop,b J s->bP (b' aq w) A (afD n v) b au s)(d:Q J s):
  bP (b' aq w) A (afD (n+1)<|I a) Q au s:=by
 let(o,e,i,k,j):=a1;let f:s.TypeIs (I a) "tuple":=(o,e,i);unfold afD;show bq<|afF f F.slot_tuple_eq.lookup<|bq<|avP f isSubtype_tuple_tuple<|bq<|wpAny_seqItems e j<|bq ?_;rw[<- avK];show avQ _ (λhS r aT=>r.1=M/\aT=s/\∀v∈hS,v>bh.toList) _ ?_ ?_ _ _ (aa,aa,λ_ z=>z);.rintro v hS r aT ⟨g,rfl,h⟩;show bq<|a2 v (h v<|cp _) _<|c_ (aa,aa,λu z=>h u<|eo _ z)
 .rintro⟨l,m⟩ aT ⟨g,rfl,_⟩;subst g;show c_ d
def aib{eB:Type}{ax:α->eB->Prop}:∀{l:#[α]}{m:#[eB]},eq ax l m->∀y∈m,∃x∈l,ax x y:=by
 intro l m d
 induction d with
 |nil=>intro y d;cases d
 |cons r t e=>
  intro y b
  cases b with
  |head=>show(_,cp _,r)
  |tail _ b=>
   let(x,f,q):=e y b;show(x,eo _ f,q)
noncomputable def jT(aq:fs)(w:hC):HeapKind aq w #[ft] where
 is:=of aq w
 hash:=Un aq w
 draws:=Uo
 room:=λA=>A.units+1<it
 inj:=λx y=>x.inj y
 keeps:=λx f h aw=>x.R f h aw
 pyHash:=λb e d=>aia b e d
 eqBool:=λb i j d=>ahZ b i j _ _ _ _ d
 quiet:=λe d=>by
   let(bh,cx,im):=e.K;show Us cx (λv l U q=>?_) d;let(x,_,g):=aib im v l
   cases x with
   |inl k=>
    rw[avR _<|(jx aq w).byValue _ _ g];show c_ q
   |inr V=>
    let(B,rfl,(o,a0,n,aB,m,cb,p)):=g;show Us (o,aB,m,n,cb) (λu b a1 T=>?_) q;rw[avR _<|p.byValue u b];show c_ T
end
set_option genInjectivity true in
inductive V where|a0|X(B:dq)|R(i:N)|S(x:E)|a1(B:gv nP)|a2(B:UInt64)|K(a:L)|a3(n:oT)
 deriving i_
def dk:V->bc->Prop|.a0,u=>u=go|.X B,u=>u=ic B|.R i,u=>∃t,u=ew i t|.S x,u=>∃t,u=nk x t|.a1 B,u=>∃t,u=SQ B t|.a2 B,u=>∃t,u=Value.float B t|.K a,u=>u=I a|.a3 n,u=>u=cF n
abbrev dm:#[V]->#[bc]->Prop:=eq dk
theorem dm.length{xs b}(r:dm xs b):↑xs=↑b:=jR r
theorem dm.K:∀{xs:#[V]}{b:#[bc]}{i:O}{x:V},dm xs b->xs[i]? =Y x->∃u,b[i]? =Y u/\dk x u
 |_,_,_,_,ed,e=>by simp at e
 |_,_,0,_,eS r _,e=>by simp at e;subst e;show(_,aa,r)
 |_,_,i+1,x,eS _ t,e=>by
  let(u,ab,ag):=dm.K t ‹e›;show(u,by assumption,ag)
theorem dm.a4{x u}(r:dk x u):∀{xs b} i,dm xs b->dm (xs.set i x) (b.set i u)|_,_,_,ed=>ed|_,_,0,eS _ t=>eS r t|_,_,i+1,eS q t=>eS q<|dm.a4 r i t
theorem dm.R:∀{xs cv b dg},dm xs b->dm cv dg->dm (xs++cv) (b++dg):=by
 intro xs cv b dg d s
 induction d with|nil=>show s|cons r t e=>show eS r e
theorem dm.X:∀{xs b} n,dm xs b->dm (xs.take n) (b.take n)|_,_,0,_=>ed|_,_,_+1,ed=>ed|_,_,n+1,eS r t=>eS r<|dm.X n t
theorem dm.a0:∀{xs b} n,dm xs b->dm (xs.drop n) (b.drop n)|_,_,0,r=>r|_,_,_+1,ed=>ed|_,_,n+1,eS _ t=>dm.a0 n t
def iw:bs V->bs bc->Prop|Y v,Y u=>dk v u|M,M=>kz|_,_=>fC
def kG{κ:Type}:#[κ×V]->#[κ×bc]->Prop:=eq λ(p:κ×V) (q:κ×bc)=>p.1=q.1/\dk p.2 q.2
noncomputable def og:jh->V|eZ i=>.R i|ky x=>.S x
set_option genInjectivity true in
inductive bF where|K(xs:#[V])|R(xs:#[V])|a1(aP:#[jh×V])|X(aP:#[#[ft]×V])|a4(ai:N->dq)(n:O)|S(ar aG:L)(ah:#[E×V])|a2(x:L)|a6(ah:#[E×V])|a7(f x:L)|a8(bQ aR:N)|a0(o:hn)(u:bF)|a3(ay:gv bc)|a5(b:ez->Prop)
abbrev ap:=L->bs bF
noncomputable def a'(H:ap)(a:L)(o:bF):ap:=λB=>if B=a then Y o else H B
theorem bG{a o}:a' H a o a=Y o:=by delta a';show bK aa
theorem bS{a B o}(d:B≠a):a' H a o B=H B:=by delta a';rw[be d]
def qi{H:ap}{B:L}{o u:bF}(d:H a=Y o)(bg:H B=Y u)(ae:o≠u):a≠B:=by
 lia
def fj{H:ap}{B:L}{o:bF}(d:H a=Y o)(bg:H B=M):a≠B:=by
 grind
def wc(H:ap):ft->V->Prop|eZ k,v=>v=og k|ky bu,v=>∃c,v=.K c/\H c=Y (.R<|bu.map og)
def eK(H:ap)(B:L)(bu:#[ft]):Prop:=∃vs,H B=Y (.R vs)/\eq (wc H) bu vs
theorem wc.K{k v}(x:wc H k v)(b:∀B xs,H B=Y (.R xs)->af B=Y (.R xs)):wc af k v:=by
 cases k with
 |inl k=>show x
 |inr bu=>
  let(c,e,d):=x;show(c,e,b _ _ d)
def lp{eB:Type}{aC az:α->eB->Prop}:∀{l:#[α]}{m:#[eB]},eq aC l m->(∀a B,aC a B->az a B)->eq az l m:=by
 intro l m d f
 induction d with|nil=>show ed|cons r t b=>show eS (f _ _ r) b
theorem eK.K{H af:ap}{bu:#[ft]}{B}(x:eK H B bu)(b:∀B xs,H B=Y (.R xs)->af B=Y (.R xs)):eK af B bu:=by
 let(vs,e,r):=x;show(vs,b _ _ e,lp r λ_ _ z=>z.K b)
section
variable(aq:fs)(w:hC)
def jy(H:ap)(d:ez)(a:L):bF->Prop
 |.K xs=>↑xs<=ch/\∃(bh:#[bc])(n:O),dm xs bh/\d.get? a=Y {cls:=cF "list",data:=fp bh.toArray n}
 |.R xs=>↑xs<=ch/\∃bh:#[bc],dm xs bh/\oU d a bh.toArray
 |.a1 aP=>↑aP<=ch/\(a==lg)=aX/\∃vs,kG aP vs/\d.DictOf (jx aq w) a vs
 |.X aP=>↑aP<=ch/\(a==lg)=aX/\∃xs:#[#[ft]×L×bc],
   eq (λ(p:#[ft]×V) (q:#[ft]×L×bc)=>p.1=q.1/\eK H q.2.1 p.1/\dk p.2 q.2.2) aP xs/\
   ∃o bf dz,d.get? a=Y o/\o.ExactDict/\o.data=i' bf dz/\bf.toList=xs.map (entryOfKey<|jT aq w)/\(xs.map (·.1)).Nodup
 |.a4 ai n=>d.SetOf (Hf aq w) a ai n
 |.S ar aG ah=>H aG=Y (.a2 a)/\↑ah<=1000/\aG≠a/\d.get? a=Y (BU ar aG)/\
   ∃hf,d.Ns1 aG hf/\(∀f,iw (ah.lookup f) (hf f))/\afG hf (ah.map (·.1))
 |.a2 _=>∃o,d.get? a=Y o
 |.a6 ah=>∃hf,d.Ns1 a hf/\∀f,iw (ah.lookup f) (hf f)
 |.a8 bQ aR=>∃t u v,d.get? a=Y {cls:=cF "range",data:=qV #[ew bQ t,ew aR u,ew 1 v]}
 |.a0 o u=>d.get? a=Y o/\jy H d a u
 |.a3 ay=>d.get? a=Y {cls:=go,data:=qV ay}
 |.a7 f x=>d.get? a=Y (PySem.W.methodObj (I f)<|I x)
 |.a5 b=>b d/\(∃o,d.get? a=Y o)/\∀ab ag:ez,b ab->(∀o,ab.get? a=Y o->ag.get? a=Y o)->b ag
def gj(H:ap)(d:ez):Prop:=∀a o,H a=Y o->jy aq w H d a o
end
section
variable{aq:fs}{H af:ap}{d bg:ez}{o:bF}
theorem jy.R(x:jy aq w H d a o):a<d.objs.size:=by
 cases o with|K xs=>let(_,_,_,_,e):=x;show fZ e|R xs=>let(_,_,_,p):=x;show p.lt|a1 aP=>let(_,_,_,_,o,_,_,e,_):=x;show fZ e|X aP=>let(_,_,_,_,o,_,_,e,_):=x;show fZ e|a4 ai n=>let(o,_,_,_,e,_):=x;show fZ e|S ar aG ah=>let(_,_,_,e,_):=x;show fZ e|a2 y=>let(_,e):=x;show fZ e|a6 ah=>let(_,(_,_,_,e,_),_):=x;show fZ e|a8 bQ aR=>let(_,_,_,e):=x;show fZ e|a0 b u=>let(e,_):=x;show fZ e|a3 ay=>show fZ<|x|a7 f y=>show fZ<|x|a5 g=>let(_,(_,e),_):=x;show fZ e
theorem Paired.a0{eB:Type}{aC az:α->eB->Prop}{l₁:#[α]}{l₂:#[eB]}(d:eq aC l₁ l₂)(f:∀a B,aC a B->az a B):eq az l₁ l₂:=by
 induction d with|nil=>show ed|cons r _ b=>show eS (f _ _ r) b
theorem jy.K(x:jy aq w H d a o)(k:∀B u,(B=a∨H B=Y (.a2 a))->d.get? B=Y u->bg.get? B=Y u)
 (h:∀B,H B=Y (.a2 a)->af B=Y (.a2 a))(a1:∀B xs,H B=Y (.R xs)->af B=Y (.R xs)):jy aq w af bg a o:=by
 induction o with
 |K xs=>let(z,bh,n,r,e):=x;show(z,bh,n,r,k _ _ (aQ aa) e)
 |R xs=>let(z,bh,r,b,e,c):=x;show(z,bh,r,b,k _ _ (aQ aa) e,c)
 |a1 aP=>let(z,y,vs,r,b,bf,dz,e,c):=x;show(z,y,vs,r,b,bf,dz,k _ _ (aQ aa) e,c)
 |X aP=>
  let(z,y,xs,r,b,bf,dz,e,c):=x;show(z,y,xs,Paired.a0 r λp q z=>(z.1,z.2.1.K a1,z.2.2),b,bf,dz,k _ _ (aQ aa) e,c)
 |a4 ai n=>let(b,bf,dz,t,e,c):=x;show(b,bf,dz,t,k _ _ (aQ aa) e,c)
 |S ar aG ah=>
  let(ae,z,g,e,hf,(ei,bf,dz,i,c),r):=x;show(h _ ae,z,g,k _ _ (aQ aa) e,hf,(ei,bf,dz,k _ _ (bl ae) i,c),r)
 |a2 y=>let(b,e):=x;show(b,k _ _ (aQ aa) e)
 |a6 ah=>let(hf,(ei,bf,dz,e,c),r):=x;show(hf,(ei,bf,dz,k _ _ (aQ aa) e,c),r)
 |a8 bQ aR=>let(t,u,v,e):=x;show(t,u,v,k _ _ (aQ aa) e)
 |a0 b u j=>let(e,q):=x;show(k _ _ (aQ aa) e,j q)
 |a3 ay=>
  let e:=x;show k a _ (aQ aa) e
 |a7 f y=>
  let e:=x;show k a _ (aQ aa) e
 |a5 l=>let(p,(o,e),st):=x;show(st _ _ p λo q=>k _ _ (aQ aa) q,(o,k _ _ (aQ aa) e),st)
theorem gj.S(x:gj aq w H d)(e:H a=Y o):a<d.objs.size:=(x a o e).R
theorem gj.K(x:gj aq w H d)(e:d.objs.size<=a):H a=M:=by
 cases q:H a with|none=>rfl|some u=>show bB (ia (x.S q) e)<|q_ _
theorem gj.R(x:gj aq w H d)(k:∀B u,d.get? B=Y u->bg.get? B=Y u):gj aq w H bg:=λa o e=>
 (x a o e).K (λB u _ q=>k B u q) (λ_ q=>q) λ_ _ q=>q
theorem gj.X(x:gj aq w H d)(k:∀B u,d.get? B=Y u->bg.get? B=Y u)(h:d.objs.size<=a)(a1:jy aq w (a' H a o) bg a o):gj aq w (a' H a o) bg:=λB u e=>by
 let b:=x.K h;by_cases f:B=a;.simp_all [bG]
 .rw[bS f]at e;show(x B u e).K (λc v _ q=>k c v q) (λc q=>(bS<|fj q b)▸q) λc xs q=>(bS<|fj q b)▸q
end
def lq(H:ap)(a:L)(u:bF):Prop:=H a=Y u∨∃o,H a=Y (.a0 o u)
theorem lq.K{u:bF}{w d a}(r:lq H a u)(x:gj aq w H d):jy aq w H d a u:=by
 let r||(o,r):=r;.show x a u r
 .let(_,q):=x a _ r;show q
def uA:bs bF->Prop|Y (.K _)=>kz|Y (.a1 _)=>kz|Y (.X _)=>kz|Y (.a4 _ _)=>kz|Y (.S _ _ _)=>kz|Y (.a5 _)=>kz|_=>fC
section
variable{aq:fs}{H:ap}{d bg:ez}{x e:L}{c':bF}
theorem gj.a0(h:gj aq w H d)(fD:uA<|H x)(a2:e=x∨H e=Y (.a2 x))(k:∀B u,B≠e->d.get? B=Y u->bg.get? B=Y u)(a1:∃u,bg.get? e=Y u)
 (a3:jy aq w (a' H x c') bg x c'):gj aq w (a' H x c') bg:=λB u q=>by
 let f:∀c y,H c=Y (.a2 y)->c≠x:=λc y r z=>by subst z;rw[r]at fD;show fD
 let g:∀c xs,H c=Y (.R xs)->c≠x:=λc xs r z=>by subst z;rw[r]at fD;show fD
 by_cases i:B=x;.simp_all [bG]
 .rw[bS i]at q;by_cases j:B=e
  .let b:H B=Y (.a2 x):=by
    grind
   rw[q]at b;cases b;let(v,l):=a1;show(v,j▸l)
  .show(h B u q).K (λc v m r=>k c v ?_ r) (λc r=>(bS<|f c B r)▸r) λc xs r=>(bS<|g c xs r)▸r;grind
end
structure ih(ah d':#[L])(H af:ap)(d bg:ez):Prop where
 S:∀B o,d.get? B=Y o->H B=M->B∉ah->B∉d'->bg.get? B=Y o
 a0:∀B o,d.get? B=Y o->H B=M->B>ah->B∉d'->∃dU,bg.get? B=Y {o with slots:=dU}
 K:∀B o,d.get? B=Y o->H B=M->B∉d'->af B=M
 R:∀B o,d.get? B=Y o->B∉d'->∃c',bg.get? B=Y c'
 a1:∀B xs,H B=Y (.R xs)->af B=Y (.R xs)
 X:∀B o u,H B=Y (.a0 o u)->af B=Y (.a0 o u)
 a2:∀B ay,H B=Y (.a3 ay)->∃b,af B=Y (.a3<|ay++b)
section
variable{ah pK d' azr:#[L]}{H al aH:ap}{d ab ag bg:ez}{x e:L}{o:bF}
theorem ih.a3(u:ih ah d' H al d ab){B b}(q:d.get? B=Y b)(n:H B=M)(h:B∉d'):∃dU,ab.get? B=Y {b with slots:=dU}:=by
 by_cases e:B>ah;.show u.a0 B b q n e h
 .show(b.slots,u.S B b q n e h)
theorem ih.a4(k:∀B u,d.get? B=Y u->bg.get? B=Y u):ih ah d' H H d bg:=
 (λB b q _ _ _=>k B b q,λB b q _ _ _=>(b.slots,k B b q),λ_ _ _ n _=>n,λB b q _=>(b,k B b q),λ_ _ q=>q,λ_ _ _ q=>q,λ_ ay q=>(#[],by rw[q];show vK.2 aa))
theorem ih.a5:ih ah d' H H d d:=ih.a4 λ_ _ q=>q
theorem ih.a6(k:∀B u,d.get? B=Y u->bg.get? B=Y u)(h:d.objs.size<=a)(b:H a=M):ih ah d' H (a' H a o) d bg where
 S:=λB u q _ _ _=>k B u q
 a0:=λB u q _ _ _=>(u.slots,k B u q)
 K:=λB u q n _=>(bS<|ie<|ia (fZ q) h)▸n
 R:=λB u q _=>(u,k B u q)
 a1:=λB xs q=>(bS<|fj q b)▸q
 X:=λB u xs q=>(bS<|fj q b)▸q
 a2:=λB ay q=>(#[],by rw[bS<|fj q b,q];show vK.2 aa)
theorem ih.a7(fD:uA<|H x)(h:e=x∨H e=Y (.a2 x))(k:∀B u,B≠e->d.get? B=Y u->bg.get? B=Y u)(a8:∃u,bg.get? e=Y u):ih ah d' H (a' H x o) d bg:=by
 let g:∀B,H B=M->B≠x:=λB n z=>by subst z;rw[n]at fD;show fD
 let f:∀B,H B=M->B≠e:=λB n z=>by
  grind
 let b:∀B u,H B=Y u->¬uA (Y u)->B≠x:=λB u q ga z=>by grind
 show(λB u q n _ _=>k B u (f B n) q,λB u q n _ _=>(u.slots,k B u (f B n) q),λB u q n _=>(bS<|g B n)▸n,λB u q _=>?_,
  λB xs q=>(bS<|b B _ q id)▸q,λB u xs q=>(bS<|b B _ q id)▸q,λB ay q=>(#[],by rw[bS<|b B _ q id,q];show vK.2 aa));grind
end
noncomputable def Kk(d:ez)(H:ap):#[L]:=(oS d.objs.size).filter λa=>(H a).isSome
noncomputable def Df(d:ez)(H:ap):ez:=Hg d<|Kk d H
def aic{d B o}(e:(Df d H).get? B=Y o):d.get? B=Y o/\H B=M:=by
 let b:=of_hideAll (Kk d H) e;show(b,?_)
 cases q:H B with
 |none=>rfl
 |some x=>
  let z:(Df d H).get? B=M:=hideAll_none (Kk d H)<|je.2 (xr.2<|fZ b,by simp[q]);grind
class bz where
 aAw:fs
 aAx:hC
 aAv:eh
 aAy:E->bs bc
 aAB:ez
 aAA:L
 aAC:L
 aAF:L
 aAG:L
 aAD:L
 aAH:L
 aAz:L
 aAK:L
 cL:L
 cN:L
 aAP:L
 aAQ:qW
open bz
structure Kl(aA:eh)(a1:E->bs bc)(b:ez):Prop where
 K:aA.In b
 R:b.Ns iP a1
 S:∃h,b.Ns afH h/\∀x:E,x≠"__name__" ->h x=BV x
 X:b.NoLimit
structure bW where
 R:vx
 a0:#[E]
 a1:cQ
 a6:ap
 K:ml
 a7:#[ml]
 X:#[ml]
 a4:#[L]
 a8:E->dq
 a3:dq
 a9:#[L×hn]
 S:bc->cQ->Prop
noncomputable def gk(l:#[ml]):#[L]:=l.filterMap (·.frame)
noncomputable abbrev bW.a5(C:bW):#[L]:=gk C.a7
def xT(cB:mQ)(x:E):Prop:=cB.names.lookup x=Y gp∨cB.names.lookup x=Y iu∨cB.names.lookup x=Y gX
def xU(cB:mQ)(x:E):Prop:=cB.names.lookup x=Y gp∨cB.names.lookup x=Y iu
def aid(dp:ml)(d:ez)(m:E->bs bc)(x:E)(u:bc):Prop:=
 (dp.kindOf x=Y gp/\m x=Y u)∨((dp.kindOf x=Y iu∨dp.kindOf x=Y gX)/\∃c,dp.cells.lookup x=Y c/\d.IsCell c (Y u))
structure bW.b0[bz](C:bW):Prop where
 S:Kl aAv aAy aAB
 R:C.K.scope.kind=rB
 a5:C.K.globals=iP
 a9:C.K.builtins=afH
 X:C.a1.heap.objs.size<=C.K.locals
 inj:∀x y c,C.K.cells.lookup x=Y c->C.K.cells.lookup y=Y c->x=y
 a1:∀x,(C.K.kindOf x=Y iu∨C.K.kindOf x=Y gX)->∃c,C.K.cells.lookup x=Y c
 a6:∀x c,C.a8 x=J->C.K.cells.lookup x=Y c->C.a1.heap.objs.size<=c
 K:C.a3=J->C.R.handled=M
 a0:C.R.frames=Y C.X
 b0:C.X=C.a7∨(C.X=C.K::C.a7/\C.K.frame=Y C.K.locals)
 b1:∀B∈C.a4,B≠C.K.locals/\∀x c,C.K.cells.lookup x=Y c->c≠B
 a3:∀B o,aAB.get? B=Y o->C.a1.heap.get? B=Y o/\C.a6 B=M
 a2:aAB.objs.size<=C.a1.heap.objs.size
 a7:∀B o,aAB.get? B=Y o->B∉C.a4
 a8:∀B∈C.a4,B∉C.a5
 a4:C.a1.heap.FunFrames aAB C.a7
 b2:∀B∈C.a5,C.a6 B=M
structure aS[bz](C:bW)(am:#[L×hn])(D:#[bs V])(H:ap)(s:cQ):Prop where
 K:C.b0
 os:s.os=C.a1.os
 a3:wW s.gens
 S:ih C.a5 C.a4 C.a6 H C.a1.heap s.heap
 a2:∃m,s.heap.Ns C.K.locals m/\∀(i:O)(x:E)(v:V),C.a0[i]? =Y x->D[i]? =Y (Y v)->xT C.K.scope x->∃u,dk v u/\aid C.K s.heap m x u
 a4:∀x c,C.K.cells.lookup x=Y c->∃v,s.heap.IsCell c v
 a5:H C.K.locals=M
 a7:∀x c,C.K.cells.lookup x=Y c->H c=M
 a6:∀p∈C.a9++am,s.heap.get? p.1=Y p.2/\H p.1=M/\p.1≠C.K.locals/\p.1∉C.a5/\∀v,p.2.data≠BW v
 R:gj aAw aAx H s.heap
 a9:↑D=↑C.a0
section
variable[bz]{C:bW}{D:#[bs V]}{H af:ap}{bg:ez}
def aS.c4(b:aS C am D H s):∀B o,aAB.get? B=Y o->s.heap.get? B=Y o/\H B=M:=λB o e=>
 (b.S.S B o (b.K.a3 B o e).1 (b.K.a3 B o e).2 ((λf=>by
    have:=(b.K.a4.mem f).1;grind))<|b.K.a7 B o e,b.S.K B o (b.K.a3 B o e).1 (b.K.a3 B o e).2<|b.K.a7 B o e)
def aS.b8(b:aS C am D H s):∀B o,aAB.get? B=Y o->s.heap.get? B=Y o:=λB o e=>(b.c4 B o e).1
def aS.c5(b:aS C am D H s):Kl aAv aAy aAB:=b.K.S
theorem aS.a0(b:aS C am D H s):aAv.In s.heap:=b.K.S.K.keeps b.b8
def aS.e1(b:aS C am D H s):C.K.locals<s.heap.objs.size:=b.a2.elim λ_ z=>z.1.lt
def aS.b9(b:aS C am D H s):C.a1.heap.objs.size<=s.heap.objs.size:=db b.K.X<|sT b.e1
def aS.d4(b:aS C am D H s):∀x c,C.K.cells.lookup x=Y c->c≠C.K.locals:=λx c e z=>by
 let(v,o,f,g):=b.a4 x c e;let(m,(c',bf,dz,h,i,_),_):=b.a2;grind
def aS.e2(h:aS C am D H s):s.heap.FunFrames aAB C.a7:=by
 let all:∀(l:#[ml]),(∀B∈gk l,B>C.a5)->C.a1.heap.FunFrames aAB l->s.heap.FunFrames aAB l:=by
  intro l
  induction l with
  |nil=>intro _ _;trivial
  |cons dp r j=>
   intro aw m;let(p,(b,o,f,q,v,w),x):=m;let g:=aw b (by delta gk;rw[q',f];show(cp _));let(dU,e):=h.S.a0 b o v (h.K.b2 b g) g λz=>h.K.a8 b z g;show(p,(b,_,f,q,e,w),j (λB i=>aw B<|by delta gk;rw[q',f];show el _ i) x)
 show all C.a7 (λ_ i=>i) h.K.a4
def aS.c6(b:aS C am D H s):s.heap.FunFrames aAB C.X:=by
 let e||(e,f):=b.K.b0;.rw[e];show b.e2
 .rw[e];let(m,g,_):=b.a2;show .cons (by rw[b.K.R];decide) f g (Heap.get?_none_of_le<|db b.K.a2 b.K.X) b.e2
def aS.b6(h:aS C am D H s):∀B∈gk C.X,B>C.K.locals::C.a5:=λB b=>by
 let e||(e,f):=h.K.b0;.simp_all
 .rw[e]at b;delta gk at b;rw[q',f]at b;show b
theorem aS.c7(b:aS C am D H s):∀B∈gk C.X,H B=M:=λB f=>by
 let e||f:=cc.1 (b.b6 B f);.rw[e];show b.a5
 .let(_,o,g,_):=b.K.a4.mem f;show b.S.K B o g (b.K.b2 B f) λz=>b.K.a8 B z f
def aS.step{g0:gv GenState}{cZ:O}{g6:Drawn}{lF:#[L]}(b:aS C am D H s)
 (f7:∀B∈lF,(B>C.a4∨C.a1.heap.objs.size<=B)/\B≠C.K.locals/\(∀x c,C.K.cells.lookup x=Y c->c≠B)/\∀p∈C.a9++am,p.1≠B)
 (f9:∀B o,B≠C.K.locals->B∉C.a5->B∉lF->s.heap.get? B=Y o->H B=M->bg.get? B=Y o)
 (g1:∀B o,B≠C.K.locals->B>C.a5->B∉lF->s.heap.get? B=Y o->H B=M->∃dU,bg.get? B=Y {o with slots:=dU})(f8:∀B o,B∉lF->s.heap.get? B=Y o->H B=M->af B=M)
 (g7:∀B o,B∉lF->s.heap.get? B=Y o->∃c',bg.get? B=Y c')
 (g8:∀B xs,H B=Y (.R xs)->af B=Y (.R xs))(g9:∀B o u,H B=Y (.a0 o u)->af B=Y (.a0 o u))(h0:∀B ay,H B=Y (.a3 ay)->∃h3,af B=Y (.a3<|ay++h3))
 (co:∀m,s.heap.Ns C.K.locals m->bg.Ns C.K.locals m)(h4:gj aAw aAx af bg)(h5:wW g0):
  aS C am D af {s with heap:=bg,gens:=g0,drawn:=g6,toks:=cZ}:=by
 let U:∀B o,C.a1.heap.get? B=Y o->B≠C.K.locals:=λB o e=>ie<|ia (fZ e) b.K.X;let A:∀B o,C.a1.heap.get? B=Y o->B∉C.a4->B∉lF:=λB o e f g=>by
  let z||z:=(f7 B g).1;.show f z
  .show bB (ia (fZ e) z)<|q_ _
 let V:∀x c,C.K.cells.lookup x=Y c->∀v,s.heap.IsCell c v->bg.IsCell c v:=λx c e v (o,h,T)=>by
  let j:=λz=>(f7 c z).2.2.1 x c e aa;by_cases g2:c>C.a5;.let(dU,q):=g1 c o (b.d4 x c e) g2 j h (b.a7 x c e);show(_,q,T)
  .show(o,f9 c o (b.d4 x c e) g2 j h<|b.a7 x c e,T)
 show(b.K,b.os,h5,(λB o e n g f=>?_,λB o e n g f=>?_,λB o e n f=>?_,λB o e f=>?_,λB xs e=>g8 B xs<|b.S.a1 B xs e,λB o xs e=>g9 B o xs<|b.S.X B o xs e,λB ay e=>?_),?_,λx c e=>?_,?_,λx c e=>?_,λp g3=>?_,h4,b.a9);.show f9 B o (U B o e) g (A B o e f) (b.S.S B o e n g f)<|b.S.K B o e n f
 .let(dU,aB):=b.S.a0 B o e n g f;let(h1,w):=g1 B _ (U B o e) g (A B o e f) aB (b.S.K B o e n f);show(h1,w)
 .let(c',aB):=b.S.R B o e f;show f8 B c' (A B o e f) aB<|b.S.K B o e n f
 .let(c',aB):=b.S.R B o e f;show g7 B c' (A B o e f) aB
 .let(h2,aB):=b.S.a2 B ay e;let(h6,w):=h0 B _ aB;show(h2++h6,by rw[w,avS])
 .let(m,h7,h8):=b.a2;show(m,co m h7,λi x v aB w h9=>?_);let(u,r,l):=h8 i x v aB w h9;show(u,r,?_);let l||(k,c,e,z):=l;.show aQ l
  .show bl (k,c,e,V x c e _ z)
 .let(v,z):=b.a4 x c e;show(v,V x c e v z)
 .let(m,(o,_,_,h,_),_):=b.a2;show f8 _ o (λz=>(f7 _ z).2.1 aa) h b.a5
 .let(v,o,h,T):=b.a4 x c e;show f8 c o (λz=>(f7 c z).2.2.1 x c e aa) h<|b.a7 x c e
 .let(e,n,g4,g5,ae):=b.a6 p g3;let j:=λz=>(f7 p.1 z).2.2.2 p g3 aa;show(f9 p.1 p.2 g4 g5 j e n,f8 p.1 p.2 j e n,g4,g5,ae)
def aS.c8{cZ}(b:aS C am D H s)(u:ih C.a5 [] H af s.heap bg)(f7:gj aAw aAx af bg):aS C am D af {s with heap:=bg,toks:=cZ}:=by
 exists i;let(m,(o,bf,dz,g,r),_):=id b.a2;let(dU,j):=u.a3 g b.a5 (hD);show i<|b.step (lF:=[]) (λ_ z=>nomatch z) (λB o _ f _ e n=>u.S B o e n f<|hD) (λB o _ f _ e n=>u.a0 B o e n f<|hD) (λB o _ e n=>u.K B o e n<|hD) (λB o _ e=>u.R B o e<|hD) u.a1 u.X u.a2 (λw l=>by
  let(c',p,q,h,v):=l;rw[g]at h;cases h;show(_,p,q,j,v)) f7 b.a3
def aS.e3{f7:gv GenState}{cZ:O}{f9:Drawn}{lF:#[L]}(h:aS C am D H s)(u:ih (gk C.X) lF H af s.heap bg)(g0:gj aAw aAx af bg)(g1:wW f7)
 (f8:∀B∈lF,(B>C.a4∨C.a1.heap.objs.size<=B)/\B≠C.K.locals/\(∀x c,C.K.cells.lookup x=Y c->c≠B)/\∀p∈C.a9++am,p.1≠B):
  aS C am D af {s with heap:=bg,gens:=f7,drawn:=f9,toks:=cZ}:=by
 let(m,(o,bf,dz,g,r),_):=id h.a2;let(dU,f):=u.a3 g h.a5 λz=>(f8 _ z).2.1 aa;show h.step f8 (λB o f j b e n=>u.S B o e n (λz=>(cc.1<|h.b6 B z).elim f j) b) (λB o _ _ b e n=>u.a3 e n b) (λB o b e n=>u.K B o e n b) (λB o b e=>u.R B o e b) u.a1 u.X u.a2 (λA l=>by
  let(c',q,v,i,w):=l;rw[g]at i;cases i;show(_,q,v,f,w)) g0 g1
def aS.a8{cZ:O}{cx:L}(h:aS C am D H s)(k:∀B o,B≠cx->s.heap.get? B=Y o->bg.get? B=Y o)(f9:H cx=M)(f7:cx≠C.K.locals)
 (ab:cx>C.a4∨C.a1.heap.objs.size<=cx)(ag:∀x c,C.K.cells.lookup x=Y c->c≠cx)(f8:∀p∈C.a9++am,p.1≠cx):aS C am D H {s with heap:=bg,toks:=cZ}:=by
 let f:∀B u,H B=Y u->B≠cx:=λB u e z=>by grind
 show h.step (lF:=[cx]) (λB g=>?_) (λB o _ _ b e _=>k B o (λz=>b<|by simp[z]) e) (λB o _ _ b e _=>(o.slots,k B o (λz=>b<|by simp[z]) e)) (λ_ _ _ _ n=>n)
  (λB o b e=>(o,k B o (λz=>b<|by simp[z]) e)) (λ_ _ e=>e) (λ_ _ _ e=>e) (λB ay e=>(#[],by rw[e];show vK.2 aa)) (λm i=>?_) (λB u e=>?_) h.a3
 .cases ‹g›
  show(ab,f7,ag,f8)
 .let(o,bf,dz,j,r):=i;show(o,bf,dz,k _ o (mT f7) j,r)
 .show(h.R B u e).K (λc v b q=>k c v ?_ q) (λ_ q=>q) λ_ _ q=>q;let z||z:=b;.rw[z];show f B u e
  .show f c _ z
theorem aS.X(b:aS C am D H s)(t:O):aS C am D H {s with toks:=t}:=b.c8 ih.a5 b.R
theorem aS.b0{cZ}(b:aS C am D H s)(k:∀B u,s.heap.get? B=Y u->bg.get? B=Y u):aS C am D H {s with heap:=bg,toks:=cZ}:=b.c8 (ih.a4 k)<|b.R.R k
def aS.b1{a o cZ}(b:aS C am D H s)(k:∀B u,s.heap.get? B=Y u->bg.get? B=Y u)(h:s.heap.objs.size<=a)(f7:jy aAw aAx (a' H a o) bg a o):
  aS C am D (a' H a o) {s with heap:=bg,toks:=cZ}:=b.c8 (ih.a6 k h<|b.R.K h)<|b.R.X k h f7
def aS.b7{x e o cZ}(b:aS C am D H s)(fD:uA<|H x)(h:e=x∨H e=Y (.a2 x))(k:∀B u,B≠e->s.heap.get? B=Y u->bg.get? B=Y u)(f7:∃u,bg.get? e=Y u)
 (f8:jy aAw aAx (a' H x o) bg x o):aS C am D (a' H x o) {s with heap:=bg,toks:=cZ}:=b.c8 (ih.a7 fD h k f7)<|b.R.a0 fD h k f7 f8
def aS.e4{aU:#[bs V]}(b:aS C am D H s)(h:↑aU=↑D)(w:∀(i:O) v,aU[i]? =Y (Y v)->D[i]? =Y (Y v)):aS C am aU H s:=
 (b.K,b.os,b.a3,b.S,b.a2.elim λm z=>(m,z.1,λi x v aB e f=>z.2 i x v aB (w i v e) f),b.a4,b.a5,b.a7,b.a6,b.R,h.trans b.a9)
def aS.e5(b:aS C am D H s)(d:∀p∈GX,s.heap.get? p.1=Y p.2/\H p.1=M/\p.1≠C.K.locals/\p.1∉C.a5/\∀v,p.2.data≠BW v):aS C GX D H s:=
 (b.K,b.os,b.a3,b.S,b.a2,b.a4,b.a5,b.a7,λp e=>(du.1 e).elim (λz=>b.a6 p<|dQ _ z)<|d p,b.R,b.a9)
def Km{br:#[E]}(b:br.Nodup){i j:O}{x:E}(a:br[i]? =Y x)(B:br[j]? =Y x):i=j:=by
 let(ab,aB):=ff.1 a;let(ag,e):=ff.1 B;show(avT b).mp<|aB.trans e.symm
def Ut{av A au i x v u Q}(b:aS C am D H s)(b0:C.a0.Nodup)(aR:C.a0[i]? =Y x)(h:xU C.K.scope x)(r:dk v u)
 (d:∀aT,aS C am (D.set i<|Y v) H aT->(∃a,wU a s.heap aT.heap/\(a=C.K.locals∨C.K.cells.lookup x=Y a))->Q () aT)(b8:autoParam (C.a8 x=J∨C.K.scope.names.lookup x=Y gp) r_2):bP av A (afK C.K x u) Q au s:=by
 let(m,a1,b1):=id b.a2;let b9:(C.K.scope.kind==.class||(C.K.scope.kind==.module&&C.K.locals !=C.K.globals))=aX:=by rw[b.K.R];rfl
 let b2:i<↑D:=by rw[b.a9];show(ff.1 aR).1
 let a2:=b.d4;let b3:∀{a:L}{bg:ez},(∃o,s.heap.get? a=Y o/\H a=M)->wU a s.heap bg->gj aAw aAx H bg:=λ{a bg} c0 aw B c1 e=>by
  let(_,_,b4):=c0;show(b.R B c1 e).K (λc U f q=>(aw.2 c ?_).trans q) (λ_ q=>q) λ_ _ q=>q;rintro rfl;let rfl||f:=f;.rw[b4]at e;cases e
  .rw[b4]at f;cases f
 let l||l:=h
 .show wpAny_storeName_local l a1 (λbg c2 aw=>?_) b9;exists c3;let(c4,_,_,c5,_):=id a1;show c3<|d _ (b.K,b.os,b.a3,(λB o e n w h=>?_,λB o e n w h=>?_,b.S.K,λB o e h=>?_,b.S.a1,b.S.X,b.S.a2),(_,c2,λj y a3 aB g a4=>?_),λy c e=>?_,b.a5,b.a7,λp a5=>?_,b3 (c4,c5,b.a5) aw,‹b.a9›) (_,aw,aQ aa);.show(aw.2 B<|ie<|ia (fZ e) b.K.X).trans<|b.S.S B o e n w h
  .let(dU,aB):=b.S.a0 B o e n w h;show(dU,(aw.2 B<|ie<|ia (fZ e) b.K.X).trans aB)
  .let(c',aB):=b.S.R B o e h;show(c',(aw.2 B<|ie<|ia (fZ e) b.K.X).trans aB)
  .by_cases T:j=i;.subst T;rw[aR]at aB;cases aB;rw[CA b2]at g;cases g;show(u,r,aQ (l,bK aa))
   .rw[xt<|mT T]at g;let(a6,a7,q):=b1 j y a3 aB g a4;show(a6,a7,?_);let (k,e)||(k,c,e,z):=q;.show aQ (k,?_);have:y≠x:=λe=>T<|Km b0 aB<|e▸aR;simp[this,e]
    .show bl (k,c,e,z.sameBut aw<|a2 y c e)
  .let(U,z):=b.a4 y c e;show(U,z.sameBut aw<|a2 y c e)
  .let(e,n,V,a8,ae):=b.a6 p a5;show((aw.2 p.1 V).trans e,n,V,a8,ae)
 .let a9:C.a8 x=J:=by
   let z||z:=b8;.show z
   .rw[z]at l;cases l
  let(c,f):=b.K.a1 x (aQ l);let(U,z):=b.a4 x c f;show wpAny_storeName_cell b.K.R l f z<|λbg b5 aw=>?_;let(gb,b6,c6):=id z;show d {s with heap:=bg} (b.K,b.os,b.a3,(λB o e n w h=>?_,λB o e n w h=>?_,b.S.K,λB o e h=>?_,b.S.a1,b.S.X,b.S.a2),(m,a1.sameBut aw<|mT<|a2 x c f,λj y a3 aB g a4=>?_),λy a0 e=>?_,b.a5,b.a7,λp a5=>?_,b3 (gb,b6,b.a7 x c f) aw,‹b.a9›) (c,aw,bl f);.show(aw.2 B<|ie<|ia (fZ e)<|b.K.a6 x c a9 f).trans<|b.S.S B o e n w h
  .let(dU,aB):=b.S.a0 B o e n w h;show(dU,(aw.2 B<|ie<|ia (fZ e)<|b.K.a6 x c a9 f).trans aB)
  .let(c',aB):=b.S.R B o e h;show(c',(aw.2 B<|ie<|ia (fZ e)<|b.K.a6 x c a9 f).trans aB)
  .by_cases T:j=i;.subst T;rw[aR]at aB;cases aB;rw[CA b2]at g;cases g;show(u,r,bl (aQ l,c,f,b5))
   .rw[xt<|mT T]at g;let(a6,a7,q):=b1 j y a3 aB g a4;show(a6,a7,?_);let q||(k,a0,e,c7):=q;.show aQ q
    .show bl (k,a0,e,c7.sameBut aw ?_);rintro rfl;show T<|Km b0 aB<|b.K.inj _ _ _ e f▸aR
  .by_cases b7:a0=c;.subst b7;show(_,b5)
   .let(c8,c9):=b.a4 y a0 e;show(c8,c9.sameBut aw b7)
  .let(e,n,V,a8,ae):=b.a6 p a5;show((aw.2 p.1 ?_).trans e,n,V,a8,ae);intro q;rw[q,b6]at e;show ae U<|(hq e)▸c6
def Kn{av A i x v}(b:aS C am D H s)(h:C.a0.Nodup)(aR:C.a0[i]? =Y x)(a1:xU C.K.scope x)(r:dk v u)
 (d:∀aT,aS C am (D.set i<|Y v) H aT->Q () aT)(a2:autoParam (C.a8 x=J∨C.K.scope.names.lookup x=Y gp) r_2):bP av A (afK C.K x u) Q au s:=
 Ut b h aR a1 r (λaT e _=>d aT e) a2
def aS.e6{aT}(b:aS C am D H s)(h:aT.os=s.os)(u:ih (gk C.X) lF H af s.heap aT.heap)(f7:gj aAw aAx af aT.heap)(f8:wW aT.gens)
 (f9:∀B∈lF,(B>C.a4∨C.a1.heap.objs.size<=B)/\B≠C.K.locals/\(∀x c,C.K.cells.lookup x=Y c->c≠B)/\∀p∈C.a9++am,p.1≠B):aS C am D af aT:=by
 let(bg,e,f,cZ,c'):=aT;subst h;show b.e3 u f7 f8 f9
end
abbrev fQ:=bc->bs L->ap->Prop
abbrev ck:=#[bs V]
abbrev ca:=V->ap->Prop
abbrev bT:=ck->ap->ca->Prop
abbrev iR:=ck->ap->(dq->ap->Prop)->Prop
abbrev gP:=ck->ap->(#[V]->ap->Prop)->Prop
structure gQ where
 K:ck->ap->Prop
 R:ca
 a0:ck->ap->Prop:=λ_ _=>fC
 a1:ck->ap->Prop:=λ_ _=>fC
abbrev gz:=gQ->ck->ap->Prop
@[simp] def Ae(Q:ca):gQ:={K:=λ_ af=>Q .a0 af,R:=Q}
def gQ.S(aj:gQ)(u:gz):gQ:={aj with K:=u aj}
def gQ.X(aj:gQ)(br:ck->ap->Prop):gQ:={aj with K:=br,a1:=br,a0:=aj.K}
def lR[bz](C:bW)(am:#[L×hn])(D:ck)(Q:ca)(u:bc)(aT:cQ):Prop:=∃v af,aS C am D af aT/\dk v u/\Q v af
def Dg[bz](C:bW)(am:#[L×hn])(D:ck)(Q:dq->ap->Prop)(B:dq)(aT:cQ):Prop:=∃af,aS C am D af aT/\Q B af
def Uu[bz](C:bW)(am:#[L×hn])(D:ck)(Q:#[V]->ap->Prop)(b:#[bc])(aT:cQ):Prop:=∃vs af,aS C am D af aT/\dm vs b/\Q vs af
def uB[bz](C:bW)(am:#[L×hn])(aj:gQ)(f:Flow)(aT:cQ):Prop:=
 match f with|.next=>∃aU af,aS C am aU af aT/\aj.K aU af|.brk=>∃aU af,aS C am aU af aT/\aj.a0 aU af|.cont=>∃aU af,aS C am aU af aT/\aj.a1 aU af|pT u=>∃v aU af,aS C am aU af aT/\dk v u/\aj.R v af
def bn[bz](C:bW)(e:dD)(t:bT):Prop:=
 ∀am s D H Q,aS C am D H s->t D H Q->bP (b' aAw aAx) C.R (dx e C.K) (lR C am D Q) C.S s
def kj[bz](C:bW)(e:dD)(t:iR):Prop:=
 ∀am s D H Q,aS C am D H s->t D H Q->bP (b' aAw aAx) C.R (wX e C.K<|dx e C.K) (Dg C am D Q) C.S s
def lr[bz](C:bW)(e:dD)(t:iR):Prop:=
 ∀qj am s D H Q,aS C am D H s->t D H Q->bP (b' aAw aAx) C.R (wX e C.K qj) (Dg C am D Q) C.S s
theorem lr.K[bz]{t}(d:lr C e t):kj C e t:=d _
def jU[bz](C:bW)(bf:#[dD])(t:gP):Prop:=
 ∀bj am s D H Q,aS C am D H s->t D H Q->bP (b' aAw aAx) C.R (spliced<|h' bj<|er bf C.K) (Uu C am D Q) C.S s
def ix[bz](C:bW)(st:dK)(t:gz):Prop:=
 ∀am s D H aj,aS C am D H s->t aj D H->bP (b' aAw aAx) C.R (exec st C.K) (uB C am aj) C.S s
def oh[bz](C:bW)(st:#[dK])(t:gz):Prop:=
 ∀am s D H aj,aS C am D H s->t aj D H->bP (b' aAw aAx) C.R (execs st C.K) (uB C am aj) C.S s
def fR{t:js α}{Q b:α->cQ->Prop}{av:BX}(d:bP av A t Q au s)(h:∀a s,Q a s->b a s):bP av A t b au s:=ob d h λ_ _ x=>x
@[elab_as_elim] theorem Af{α:Sort u}{aq:α->Prop}(e:α)(d:∀x,e=x->aq x):aq e:=d e aa
def Uv{t:js α}{aq:cQ->Prop}{b:α->cQ->Prop}{v:α}{av:BX}(d:bP av A t (λr s=>r=v/\aq s) au s)(h:∀s,aq s->b v s):bP av A t b au s:=
 fR d λ_ s z=>z.1▸h s z.2
def Uw{eB:Type}{t:js α}{aq:eB->cQ->Prop}{b:α->cQ->Prop}{f:eB->α}{av:BX}(d:bP av A t (λr s=>∃u,r=f u/\aq u s) au s)(h:∀u s,aq u s->b (f u) s):bP av A t b au s:=
 fR d λ_ s (u,e,z)=>e▸h u s z
theorem bn.K[bz]{C:bW}{e:dD}{t:bT}{D:ck}{H:ap}{Q:ca}{b:bc->cQ->Prop}(h:bn C e t)(a1:aS C am D H s)(d:t D H Q)(k:∀u s x H,aS C am D H s->dk x u->Q x H->b u s):bP (b' aAw aAx) C.R (dx e C.K) b C.S s:=
 fR (h _ _ _ _ _ a1 d) λu s z=>z.elim λ_ z=>z.elim λ_ z=>k _ _ _ _ z.1 z.2.1 z.2.2
theorem jU.K[bz]{C:bW}{bf:#[dD]}{t:gP}{D:ck}{H:ap}{Q:#[V]->ap->Prop}{b:#[bc]->cQ->Prop}(a1:jU C bf t)(bj:iK)(a2:aS C am D H s)(d:t D H Q)(k:∀h s vs H,aS C am D H s->dm vs h->Q vs H->b h s):bP (b' aAw aAx) C.R (spliced<|h' bj<|er bf C.K) b C.S s:=
 fR (a1 _ _ _ _ _ _ a2 d) λu s z=>z.elim λ_ z=>z.elim λ_ z=>k _ _ _ _ z.1 z.2.1 z.2.2
theorem kj.K[bz]{C:bW}{e:dD}{t:iR}{D:ck}{H:ap}{Q:dq->ap->Prop}{b:dq->cQ->Prop}(h:kj C e t)(a1:aS C am D H s)(d:t D H Q)(k:∀B s H,aS C am D H s->Q B H->b B s):bP (b' aAw aAx) C.R (wX e C.K<|dx e C.K) b C.S s:=
 fR (h _ _ _ _ _ a1 d) λu s z=>z.elim λ_ z=>k _ _ _ z.1 z.2
section
variable[bz]{C:bW}
def Ux{a B:dD}{bt cd:bT}(h:bn C a bt)(a1:bn C B cd){D:ck}{H:ap}{ax:V->V->ap->Prop}(a2:aS C am D H s)(d:bt D H λx al=>cd D al λy aH=>ax x y aH)
{Q:α->cQ->Prop}{f:bc->bc->js α}
 (a3:∀v u b x y aH,aS C am D aH b->dk x v->dk y u->ax x y aH->bP (b' aAw aAx) C.R (f v u) Q C.S b):
  bP (b' aAw aAx) C.R (dx a C.K) (λv a4=>bP (b' aAw aAx) C.R (dx B C.K) (λu a5=>bP (b' aAw aAx) C.R (f v u) Q C.S a5) C.S a4) C.S s:=h.K a2 d λv o x al e g i=>a1.K e i λu b y aH j l m=>a3 v u b x y aH j g l m
inductive Uy(i:O)(D:ck)(H:ap)(Q:ca):Prop|mk(v:_):(D[i]? =Y (Y v))->(Q v H)->Uy i D H Q
def pg(i:O):bT:=λD H Q=>Uy i D H Q
def gA(v:V):bT:=λ_ H Q=>Q v H
def Ko{i x}(a1:C.a0[i]? =Y x)(a2:xT C.K.scope x)(h:autoParam ((x==("__debug__":E))=aX) r_1)(a3:autoParam ((x==("__classdict__":E))=aX) r_1):bn C (ge x bj)<|pg i:=by
 intro am s D H Q f d;let(v,e,d):=d;let(m,o,p):=f.a2;let(u,r,l):=p i x v a1 e a2;let fin:lR C am D Q u s:=(v,H,f,r,d);let (b,q)||(b,c,g,j):=l;.show afP (avU f.K.R b o q fin) h
 .let b||b:=b;.show afP (avV f.K.R b g j fin) h
  .show afP (wpAny_loadName_free f.K.R b g j fin a3) h
def cm{i j bj}:bn C (BZ (.int i) j bj)<|gA<|.R i:=λ_ _ _ H _ b d=>wpAny_Constant_int (.R i,H,b.X _,(_,aa),d)
def td{B j bj}:bn C (BZ (.bool B) j bj)<|gA<|.X B:=λ_ _ _ H _ b d=>Constant_bool (.X B,H,b,aa,d)
def uC{j bj}:bn C (BZ .none j bj)<|gA .a0:=λ_ _ _ H _ b d=>afQ (.a0,H,b,aa,d)
def gR{x j bj}:bn C (BZ (.str x) j bj)<|gA<|.S x:=λ_ _ _ H _ b d=>Calls.Constant_str (.S x,H,b.X _,(_,aa),d)
def jV(C:bW)(x:E):Prop:=C.K.kindOf x=Y Hh
def xV{s x}(b:aS C am D H s)(h:jV C x)(a1:aAy x=Y u)(d:Q u s)
 (a2:autoParam ((x==("__debug__":E))=aX) r_1):bP (b' aAw aAx) C.R (dx (ge x bj) C.K) Q au s:=
 avW b.K.R h (Calls.loadGlobal_global (by rw[b.K.a5];show b.c5.R.keeps b.b8) a1 d) a2
def xW{s x}(b:aS C am D H s)(h:jV C x)(a1:aAy x=M)(a2:BV x=Y u)(d:Q u s)
 (a3:autoParam (x≠"__name__") r_1)(a4:autoParam ((x==("__debug__":E))=aX) r_1):bP (b' aAw aAx) C.R (dx (ge x bj) C.K) Q au s:=by
 let(e,ab,ag):=b.c5.S;show avW b.K.R h (Calls.loadGlobal_builtin (by rw[b.K.a5];show b.c5.R.keeps b.b8) a1 (by rw[b.K.a9];show ab.keeps b.b8) ((ag x a3).trans a2) d) a4
def Kp{x v}(h:jV C x)(a1:aAy x=Y u)(r:dk v u)(a2:autoParam ((x==("__debug__":E))=aX) r_1):bn C (ge x bj)<|gA v:=
 λ_ _ _ H _ b d=>xV b h a1 (v,H,b,r,d) a2
inductive Uz(k:N->N->ap->Prop)(x:V)(y:V)(aH:ap):Prop|mk(i:_)(j:_):(x=.R i)->(y=.R j)->(k i j aH)->Uz k x y aH
def UA(bt cd:bT)(k:N->N->ap->Prop):ck->ap->Prop:=λD H=>bt D H λx al=>cd D al λy aH=>Uz k x y aH
def aie(bt cd:bT):bT:=λD H Q=>UA bt cd (λi j aH=>Q (.R<|i+j) aH) D H
variable{a B:dD}{bt cd:bT}
def aif(b:bn C a bt)(h:bn C B cd):bn C (.BinOp a wZ B bj)<|aie bt cd:=by
 intro am s D H Q e d;show wpAny_BinOp<|Ux b h e d λv u l x y aH f bC g q=>?_;let(i,j,rfl,rfl,q):=q;let(t,rfl):=bC;let(cZ,rfl):=g;show add_int (.R _,aH,f.X _,(_,aa),q)
def re[bz](C:bW)(op:CmpOp)(a B:dD)(t:bT):Prop:=
 ∀am s D H Q,aS C am D H s->t D H Q->
  bP (b' aAw aAx) C.R (dx a C.K) (λv b=>bP (b' aAw aAx) C.R (dx B C.K) (λu e=>bP (b' aAw aAx) C.R (jt op v u) (lR C am D Q) C.S e) C.S b) C.S s
def Dh(B:dD){op}(d:op≠.In)(ag:op≠B_):w_ op B=aX:=by
 let aB:(op==CmpOp.In)=aX:=by show zB d
 let b:(op==B_)=aX:=by show zB ag
 cases B<;>simp[w_,aB,b]
def Kq(p:N->N->dq)(bt cd:bT):bT:=λD H Q=>UA bt cd (λi j aH=>Q (.X<|p i j) aH) D H
abbrev UB:bT->bT->bT:=Kq λi j=>bp<|i=j
abbrev aig:bT->bT->bT:=Kq λi j=>!bp (i=j)
def Kr{op p}(b:bn C a bt)(h:bn C B cd)
 (rule:∀(i j:N)(t u:nl)(Q:bc->cQ->Prop)(s:cQ),Q (ic<|p i j) s->bP (b' aAw aAx) C.R (jt op (ew i t)<|ew j u) Q C.S s):re C op a B<|Kq p bt cd:=by
 intro am s D H Q e d;show Ux b h e d λv u f x y aH g bC l q=>?_;let(i,j,rfl,rfl,q):=q;let(t,rfl):=bC;let(cZ,rfl):=l;show rule i j t cZ _ f (.X _,aH,g,aa,q)
def wd(b:bn C a bt)(h:bn C B cd):re C .Eq a B<|UB bt cd:=Kr b h λ_ _ _ _ _ _ d=>eq_int<|by assumption
def UC(b:bn C a bt)(h:bn C B cd):re C SR a B<|aig bt cd:=Kr b h λ_ _ _ _ _ _ d=>ne_int<|by assumption
def aih(bt:bT):bT:=λD H Q=>bt D H λx al=>Q (.X<|bp<|x=.a0) al
def aii(bt:bT):bT:=λD H Q=>bt D H λx al=>Q (.X<|!bp (x=.a0)) al
theorem dk.K{x v}(r:dk x v):(v==go)=bp (x=.a0):=by
 cases x with|a0=>cases r;rfl|X _=>cases r;rfl|R _=>let(t,rfl):=r;rfl|S _=>let(t,rfl):=r;rfl|a1 _=>let(t,rfl):=r;rfl|a2 _=>let(t,rfl):=r;rfl|K _=>cases r;rfl|a3 _=>cases r;rfl
def UD{j jH}(b:bn C a bt):re C .Is a (BZ .none j jH)<|aih bt:=by
 intro am s D H Q e d;show b.K e d λv i x al f g h=>afQ<|is_none_gen (.X _,al,f,by rw[g.K];rfl,h)
def aij{j jH}(b:bn C a bt):re C .IsNot a (BZ .none j jH)<|aii bt:=by
 intro am s D H Q e d;show b.K e d λv i x al f g h=>afQ<|isnot_none_gen (.X _,al,f,by rw[g.K];rfl,h)
inductive UF(Q:dq->ap->Prop)(x:V)(al:ap):Prop|mk(c:_):(x=.X c)->(Q c al)->UF Q x al
def Ks(t:bT):iR:=λD H Q=>t D H λx al=>UF Q x al
def Kt{op t}(d:re C op a B t)(ab:autoParam (w_ op B=aX) r_3):bn C (w' a [op] [B] bj) t:=λam s D H Q b e=>wpAny_Compare1 (d am s D H Q b e) ab
def lS{op:CmpOp}{t:bT}(d:re C op a B t)(ab:autoParam (w_ op B=aX) r_3):kj C (w' a [op] [B] bj)<|Ks t:=by
 intro am s D H Q b e;show afR (fR (d am s D H _ b e) λv j ab=>fR ab λu l ag=>fR ag λc m f=>?_) ab;let(x,al,g,h,i):=f;let(ae,rfl,q):=i;cases h;show nn (al,g,q)
def UG{e:dD}{t:bT}(d:bn C e t)(b:autoParam (∀qj,wX e C.K qj=(do let v<- qj;ub e.pos;rC [v] (truthy v))) r_4):kj C e<|Ks t:=by
 intro am s D H Q f g;show afS (d.K f g λv l x al h i j=>?_)<|b _;let(ae,rfl,q):=j;cases i;show nn (al,h,q)
variable{qQ GZ:iR}{hS:#[dD]}
def aik(t u:iR):iR:=λD H Q=>t D H λc al=>if c=J then u D al Q else Q aX al
def UH(t u:iR):iR:=λD H Q=>t D H λc al=>if c=J then Q J al else u D al Q
def Ag(t:iR):iR:=λD H Q=>t D H λc al=>Q (!c) al
def xX(b:kj C a qQ):lr C (sA .And [a] bj) qQ:=by
 intro g am s D H Q f d;show isTrue_and<|fR (b am s D H Q f d) λc h e=>?_
 cases c with|true=>show isTrue_and_nil e|false=>show e
def Ah(b:kj C a qQ):lr C (sA .Or [a] bj) qQ:=by
 intro g am s D H Q f d;show isTrue_or<|fR (b am s D H Q f d) λc h e=>?_
 cases c with|false=>show isTrue_or_nil e|true=>show e
def xZ(h:kj C a qQ)(a1:lr C (sA .And (B::hS) bj) GZ):lr C (sA .And (a::B::hS) bj)<|aik qQ GZ:=by
 intro f am s D H Q g d;show isTrue_and<|h.K g d λc i al b e=>?_
 cases c with|true=>show a1 f am i D al Q b e|false=>show(al,b,e)
def Ai(h:kj C a qQ)(a1:lr C (sA .Or (B::hS) bj) GZ):lr C (sA .Or (a::B::hS) bj)<|UH qQ GZ:=by
 intro f am s D H Q g d;show isTrue_or<|h.K g d λc i al b e=>?_
 cases c with|true=>show(al,b,e)|false=>show a1 f am i D al Q b e
def nt(b:kj C a qQ):kj C (.UnaryOp .Not a bj)<|Ag qQ:=by
 intro am s D H Q e d;show isTrue_not<|b am s D H (λc al=>Q (!c) al) e d
inductive UK(cd:bT)(D:ck)(Q:ca)(x:V)(al:ap):Prop|mk(c:_):(x=.X c)->(if c=J then cd D al Q else Q (.X aX) al)->UK cd D Q x al
def ail(bt cd:bT):bT:=λD H Q=>bt D H λx al=>UK cd D Q x al
inductive UP(cd:bT)(D:ck)(Q:ca)(x:V)(al:ap):Prop|mk(c:_):(x=.X c)->(if c=J then Q (.X J) al else cd D al Q)->UP cd D Q x al
def aim(bt cd:bT):bT:=λD H Q=>bt D H λx al=>UP cd D Q x al
def Di{op}{t}(d:bn C a t):bn C (sA op [a] bj) t:=λam s D H Q b e=>BoolOp_one<|d am s D H Q b e
def Aj(h:bn C a bt)(a1:bn C (sA .And (B::hS) bj) cd):bn C (sA .And (a::B::hS) bj)<|ail bt cd:=by
 intro am s D H Q f d;show BoolOp_and<|h.K f d λv g x al e i b=>?_;let(c,rfl,b):=b;cases i;show nn ?_
 cases c with|true=>show a1 am g D al Q e b|false=>show(.X aX,al,e,aa,b)
def ain(h:bn C a bt)(a1:bn C (sA .Or (B::hS) bj) cd):bn C (sA .Or (a::B::hS) bj)<|aim bt cd:=by
 intro am s D H Q f d;show BoolOp_or<|h.K f d λv g x al e i b=>?_;let(c,rfl,b):=b;cases i;show nn ?_
 cases c with|false=>show a1 am g D al Q e b|true=>show(.X J,al,e,aa,b)
def aio(t:iR)(bt cd:bT):bT:=λD H Q=>t D H λc al=>if c=J then bt D al Q else cd D al Q
def aip{c:dD}(h:kj C c qQ)(a1:bn C a bt)(a2:bn C B cd):bn C (.IfExp c a B bj)<|aio qQ bt cd:=by
 intro am s D H Q g d;show wpAny_IfExp<|h.K g d λae b al e f=>?_
 cases ae with|true=>show a1 am b D al Q e f|false=>show a2 am b D al Q e f
end
def fa(aA:eh)(H:ap)(a:L)(xs:#[V]):Prop:=
 lq H a (.K xs)∨
  ∃(o:hn)(bh:gv bc)(n:O),aA.lookup a=Y o/\o.cls=cF "list" /\o.dict=M/\o.data=fp bh n/\bh.size<=ch/\dm xs bh.toList
def lT(aA:eh)(H:ap)(a:L)(xs:#[V]):Prop:=
 lq H a (.R xs)∨
  ∃(o:hn)(bh:gv bc)(n:O),aA.lookup a=Y o/\o.cls=cF "tuple" /\o.data=fp bh n/\bh.size<=ch/\dm xs bh.toList
noncomputable def aiq:bc->bs V|go=>Y .a0|ic B=>Y<|.X B|ew i _=>Y<|.R i|nk x _=>Y<|.S x|SQ B _=>Y<|.a1 B|.float B _=>Y<|.a2 B|I a=>Y<|.K a|cF n=>Y<|.a3 n|_=>M
theorem dk.R{x}(r:dk x u):aiq u=Y x:=by
 cases x with|a0=>cases r;rfl|X _=>cases r;rfl|R _=>let(t,rfl):=r;rfl|S _=>let(t,rfl):=r;rfl|a1 _=>let(t,rfl):=r;rfl|a2 _=>let(t,rfl):=r;rfl|K _=>cases r;rfl|a3 _=>cases r;rfl
theorem dk.inj{x}(r:dk x u)(q:dk y u):x=y:=hq<|r.R.symm.trans q.R
theorem dm.inj:∀{xs cv b},dm xs b->dm cv b->xs=cv:=by
 intro xs cv b d
 induction d generalizing cv with|nil=>intro q;cases q;rfl|cons r t e=>intro q;cases q with|cons f cZ=>rw[r.inj f,e cZ]
section
variable[bz]{C:bW}{D:ck}{H:ap}{xs cv:#[V]}
theorem fa.K{aA}(d:H a=Y (.K xs)):fa aA H a xs:=aQ<|aQ d
theorem aS.a1(b:aS C am D H s)(d:fa aAv H a xs):∃bh:#[bc],dm xs bh/\PlainL s.heap a bh.toArray/\↑xs<=ch:=by
 let d||(o,bh,n,f,g,h,aw,hz,r):=d;.let(z,bh,n,r,e):=d.K b.R;show(bh,r,(_,n,e,aa,aa,aa),z)
 .show(bh.toList,r,(o,n,b.a0 a o f,g,h,by assumption),?_);let e:=r.length;simp_all
theorem aS.b2(b:aS C am D H s)(d:lT aAv H a xs):∃bh:#[bc],dm xs bh/\oU s.heap a bh.toArray/\↑xs<=ch:=by
 let d||(o,bh,n,f,g,aw,hz,r):=d;.let(z,bh,r,p):=d.K b.R;show(bh,r,p,z)
 .show(bh.toList,r,(o,b.a0 a o f,g,n,by assumption),?_);let e:=r.length;simp_all
def aS.d5(b:aS C am D H s)(d:fa aAv H a xs)(bg:fa aAv H a cv):xs=cv:=by
 let(bh,r,(o,n,e,_,_,ae),_):=b.a1 d;let(qP,h,(c',iX,f,_,_,g),_):=b.a1 bg;rw[e]at f;cases f;rw[ae]at g;injection g with cb _;have:=‹dP Array.toList cb›
 subst this;show r.inj h
end
noncomputable abbrev bW.b2(C:bW)(au:bc->cQ->Prop):bW:={C with S:=au}
noncomputable abbrev bW.b1(C:bW):bW:=C.b2 λ_ _=>fC
def bW.b0.b3[bz]{C:bW}(b:C.b0)(au:bc->cQ->Prop):(C.b2 au).b0:=
 (b.S,b.R,b.a5,b.a9,b.X,b.inj,b.a1,b.a6,b.K,b.a0,b.b0,b.b1,b.a3,b.a2,b.a7,b.a8,b.a4,b.b2)
theorem bW.b0.b4[bz]{C:bW}(b:(C.b2 au).b0):C.b0:=
 (b.S,b.R,b.a5,b.a9,b.X,b.inj,b.a1,b.a6,b.K,b.a0,b.b0,b.b1,b.a3,b.a2,b.a7,b.a8,b.a4,b.b2)
section
variable[bz]{C:bW}{D:ck}{H:ap}
def aS.f0(b:aS C am D H s)(au:bc->cQ->Prop):aS (C.b2 au) am D H s:=(b.K.b3 au,b.os,b.a3,b.S,b.a2,b.a4,b.a5,b.a7,b.a6,b.R,b.a9)
def aS.c9(b:aS (C.b2 au) am D H s):aS C am D H s:=(b.K.b4,b.os,b.a3,b.S,b.a2,b.a4,b.a5,b.a7,b.a6,b.R,b.a9)
theorem uB.K{aj:gQ}{aT:cQ}{f}(d:uB (C.b2 au) am aj f aT):uB C am aj f aT:=by
 cases f with|next=>let(aU,af,b,q):=d;show(aU,af,b.c9,q)|brk=>let(aU,af,b,q):=d;show(aU,af,b.c9,q)|cont=>let(aU,af,b,q):=d;show(aU,af,b.c9,q)|ret u=>let(v,aU,af,b,r,q):=d;show(v,aU,af,b.c9,r,q)
theorem oh.K{st t}(d:oh C.b1 st t):oh C st t:=λam s D H aj b e=>
 ob (d am s D H aj (b.f0 _) e) (λ_ _ q=>q.K) λ_ _ z=>lh z
end
section
variable[bz]{C:bW}{st:dK}{hS:#[dK]}{t u:gz}{e:dD}{ej:bT}
def ph:gz:=λaj D H=>aj.K D H
def ls(t u:gz):gz:=λaj D H=>t (aj.S u) D H
def d_:oh C [] ph:=λ_ _ D H _ b d=>zC (D,H,b,d)
def ba(ab:ix C st t)(ag:oh C hS u):oh C (st::hS)<|ls t u:=by
 intro am s D H aj b d;show avX<|fR (ab am s D H (aj.S u) b d) λf e q=>?_
 cases f with
 |next=>
  let(aU,af,g,q):=q;show ag am e aU af aj g q
 |ret v=>show q
 |brk=>show q
 |cont=>show q
def a_(ab:ix C st t):oh C [st] t:=by
 intro am s D H aj b d;show avX<|fR (ab am s D H aj b d) λf e q=>?_
 cases f with|next=>show zC q|ret v=>show q|brk=>show q|cont=>show q
def aS.f1{s}(b:aS C am D H s):interactive C.K=aX:=by simp[interactive,b.K.R]
def rZ(ej:bT):gz:=λaj D H=>ej D H λ_ al=>aj.K D al
def cw(h:bn C e ej)(aw:autoParam (vy e M bj.line C.K=gt aX) r_5):ix C (.Expr e bj)<|rZ ej:=by
 intro am s D H aj b d;show wpAny_Expr_any (h.K b d λv i x al f j g=>(D,al,f,g)) b.f1 aw
def r_(ej:bT):gz:=λaj D H=>ej D H aj.R
def cy(b:bn C e ej):ix C (Hi (Y e) bj)<|r_ ej:=by
 intro am s D H aj f d;show wpAny_Return_some<|b.K f d λv j x al g h i=>(x,D,al,g,h,i)
def air:gz:=λaj _ H=>aj.R .a0 H
def UQ:ix C (Hi M bj) air:=λ_ _ D H _ b d=>wpAny_Return_none (.a0,D,H,b,aa,d)
def UR(t u:gz)(aj:gQ)(D:ck)(B:dq)(al:ap):Prop:=if B=J then t aj D al else u aj D al
def nu(c:iR)(t u:gz):gz:=λaj D H=>c D H<|UR t u aj D
def dF{c:dD}{a B:#[dK]}{mF:iR}(h:kj C c mF)(a1:oh C a t)(a2:oh C B u):ix C (.If c a B bj)<|nu mF t u:=by
 intro am s D H aj g d;show wpAny_If<|h.K g d λae b al e f=>?_
 cases ae with|true=>show a1 am b D al aj e f|false=>show a2 am b D al aj e f
end
abbrev mU:=V->ck->ap->(ck->ap->Prop)->Prop
abbrev uD:=#[V]->ck->ap->(ck->ap->Prop)->Prop
def te[bz](C:bW)(b:dD)(t:mU):Prop:=
 ∀am s D H v u Q,aS C am D H s->dk v u->t v D H Q->
  bP (b' aAw aAx) C.R (Hj b C.K u) (λ_ aT=>∃aU af,aS C am aU af aT/\Q aU af) C.S s
def Dj[bz](C:bW)(h:#[dD])(t:uD):Prop:=
 ∀am s D H vs b Q,aS C am D H s->dm vs b->t vs D H Q->
  bP (b' aAw aAx) C.R (assignInOrder ((B' h C.K).map (·.2)) b) (λ_ aT=>∃aU af,aS C am aU af aT/\Q aU af) C.S s
abbrev Ku:=V->V->V->ap->(ap->Prop)->Prop
def US[bz](C:bW)(t:Ku):Prop:=
 ∀am s D H o i v b e u Q,aS C am D H s->dk o b->dk i e->dk v u->t o i v H Q->
  bP (b' aAw aAx) C.R (setItem b e u) (λ_ aT=>∃af,aS C am D af aT/\Q af) C.S s
abbrev Kv:=V->V->ap->ca->Prop
def ais[bz](C:bW)(op:Operator)(t:Kv):Prop:=
 ∀am s D H x y v u Q,aS C am D H s->dk x v->dk y u->t x y H Q->
  bP (b' aAw aAx) C.R (afT op v u) (lR C am D Q) C.S s
section
variable[bz]{C:bW}
def r'(i:O):mU:=λv D H Q=>Q (D.set i<|Y v) H
def fB{i x}(b:C.a0.Nodup)(aR:C.a0[i]? =Y x)(h:xU C.K.scope x)(a1:autoParam (C.a8 x=J∨C.K.scope.names.lookup x=Y gp) r_2):te C (ge x bj)<|r' i:=by
 intro am s D H v u Q e r d;show avZ<|Kn e b aR h r (λaT f=>(_,H,f,d)) a1
inductive UT(vs:#[V])(D:ck)(H:ap)(Q:ck->ap->Prop):Prop|mk:vs=[]->Q D H->UT vs D H Q
def ait:uD:=λvs D H Q=>UT vs D H Q
inductive UU(t:mU)(u:uD)(vs:#[V])(D:ck)(H:ap)(Q:ck->ap->Prop):Prop|mk(v:_)(r:_):(vs=v::r)->(t v D H λaU af=>u r aU af Q)->UU t u vs D H Q
def aiu(t:mU)(u:uD):uD:=λvs D H Q=>UU t u vs D H Q
def tf:Dj C [] ait:=by
 intro am s D H vs e Q b r d;let(rfl,d):=d;cases r;show assignInOrder_nil (D,H,b,d)
def kk{e:dD}{bf:#[dD]}{t:mU}{u:uD}(ab:te C e t)(ag:Dj C bf u)
 (aw:autoParam ((B' (e::bf) C.K).map (·.2)=Hj e C.K::(B' bf C.K).map (·.2)) r_5):Dj C (e::bf)<|aiu t u:=by
 intro am s D H vs l Q b r d;let(v,m,rfl,d):=d
 cases r with
 |cons r f=>
  rw[aw];show assignInOrder_cons<|fR (ab am s D H _ _ _ b r d)<|by rintro _ g ⟨h,al,i,j⟩;show ag am g h al _ _ Q i f j
inductive UV(aA:eh)(n:O)(t:uD)(v:V)(D:ck)(H:ap)(Q:ck->ap->Prop):Prop|mk(a:_)(xs:_):(v=.K a)->(lT aA H a xs)->(↑xs=n)->(t xs D H Q)->UV aA n t v D H Q
def aiv(aA:eh)(n:O)(t:uD):mU:=λv D H Q=>UV aA n t v D H Q
def tg{bf k t}(h:C.a3=J)(d:Dj C bf t)
 (a1:autoParam (↑(B' bf C.K)=↑bf) r_5)(a2:autoParam ((B' bf C.K).findIdx? (·.1)=M) r_5):te C (SS bf k bj)<|aiv aAv ↑bf t:=by
 intro am s D H v u Q b r f;let(a,xs,rfl,i,j,f):=f;cases r;let(bh,g,l,hz):=b.b2 i;show assign_Tuple_tuple (b.K.K h) l (by simp[a1,<- j,g.length]) a2 λbg m=>d am _ D H xs _ Q (b.b0 λB o e=>m B o (ie<|fZ e) e) (lp g λa B p=>p) f
def Kw(jr b:bT)(t:Ku):mU:=λv D H Q=>jr D H λo al=>b D al λi aH=>t o i v aH λe=>Q D e
def Dk{o i:dD}{jr a1:bT}{t:Ku}(a2:bn C o jr)(aR:bn C i a1)(aw:US C t)
 (a3:autoParam (∀v,Hj (sB o i bj) C.K v=(do
   let b<- rC [v] (dx o C.K)
   let h<- rC [v,b] (dx i C.K)
   ub bj
   rC [v,b,h] (setItem b h v)
   release [v,b,h] [])) r_4):te C (sB o i bj)<|Kw jr a1 t:=by
 intro am s D H v u Q e r d;rw[a3];show bq<|qb<|a2.K e d λb U x al f g j=>bq<|qb<|aR.K f j λh l y aH m p q=>bq<|SU<|bq<|qb<|fR (aw am l D aH x y v b h u _ m g p r q)<|by rintro _ V ⟨w,A,T⟩;show wpAny_release (D,w,A,T)
def sa(ej:bT)(g:mU):gz:=λaj D H=>ej D H λx al=>g x D al aj.K
def Dl{dW e:dD}{ej:bT}{g:mU}(b:bn C e ej)(h:te C dW g)(aw:autoParam (swapsWithSole [dW] e bj.line C.K=gt aX) r_5)(a1:autoParam (swappedStores [dW] e C.K=gt M) r_5)
 (ab:autoParam ((B' [dW] C.K).map (·.2)=[Hj dW C.K]) r_5):ix C (zi [dW] e bj)<|sa ej g:=by
 intro am s D H aj f d;show wpAny_Assign_stores (b.K f d λv i x al j l m=>?_) aw a1;rw[ab];show fR (h am i D al x v _ j l m) λ_ o q=>q
def ji{i:O}{x:E}{e:dD}{ej:bT}{jH:iK}(b:C.a0.Nodup)(aR:C.a0[i]? =Y x)(h:xU C.K.scope x)(a1:bn C e ej)(aw:autoParam (vy e (Y<|ge x jH) bj.line C.K=gt aX) r_5)(a2:autoParam (C.a8 x=J∨C.K.scope.names.lookup x=Y gp) r_2):
  ix C (zi [ge x jH] e bj)<|sa ej<|r' i:=by
 intro am s D H aj f d;show wpAny_Assign_Name (a1.K f d λv o y al g j l=>Kn g b aR h j (λp m=>(_,al,m,l)) a2) aw
def aiw(i:O)(ej:bT)(b:Kv):gz:=λaj D H=>∃x,D[i]? =Y (Y x)/\ej D H λy al=>b x y al λz aH=>aj.K (D.set i<|Y z) aH
def aix{i:O}{x:E}{e:dD}{ej:bT}{op:Operator}{a1:Kv}{jH:iK}(a2:C.a0.Nodup)(aR:C.a0[i]? =Y x)(h:xU C.K.scope x)(a3:bn C e ej)(a4:ais C op a1)(a5:autoParam (C.a8 x=J∨C.K.scope.names.lookup x=Y gp) r_2):
  ix C (afU (ge x jH) op e bj)<|aiw i ej a1:=by
 intro am s D H aj f d;exists j;let(v,aB,d):=d;let(m,o,p):=f.a2;let q:xT C.K.scope x:=by let k||k:=h;show aQ k;show bl<|aQ k
 let(u,r,l):=p i x v aR aB q;show j<|wpAny_AugAssign_Name ?_;let g:bP (b' aAw aAx) C.R (dx e C.K) (λw A=>bP (b' aAw aAx) C.R (afT op u w) (λr T=>bP (b' aAw aAx) C.R (afK C.K x r) (λ_=>uB C am aj .next) C.S T) C.S A) C.S s:=a3.K f d λw U y al V a0 a6=>fR (a4 am U D al v y u w _ V r a0 a6) (by rintro z b4 ⟨b5,aH,a7,a8,a9⟩;show Kn a7 a2 aR h a8 (λb6 b0=>(_,aH,b0,a9)) a5);let (b,b1)||(b,c,b2,b3):=l;.show avU f.K.R b o b1 g
 .let b||b:=b;.show avV f.K.R b b2 b3 g
  .let k||k:=h;.have:C.K.scope.names.lookup x=Y gX:=b;rw[k]at this;cases this
   .have:C.K.scope.names.lookup x=Y gX:=b;rw[k]at this;cases this
end
section
variable[bz]{C:bW}
def aiy(cd:gz)(aj:gQ)(W:O->ck->ap->Prop)(m:O)(D:ck)(B:dq)(al:ap):Prop:=if B=J then∃br:ck->ap->Prop,(∀aU af,br aU af->∃b,b<m/\W b aU af)/\cd (aj.X br) D al else aj.K D al
def aiz(c:iR)(cd:gz):gz:=λaj D H=>∃W:O->ck->ap->Prop,(∃m,W m D H)/\∀m D H,W m D H->c D H (aiy cd aj W m D)
def x_{c:dD}{a1:#[dK]}{mF:iR}{cd:gz}(a2:PassesOwn (b' aAw aAx) C.R C.K C.S)(a3:kj C c mF)(a4:oh C a1 cd):ix C (.While c a1 [] bj)<|aiz mF cd:=by
 intro am s D H aj x d;let(W,(A,T),turn):=d;show wpAny_While<|codeAny_whileLoop (λn aT=>∃aU af,aS C am aU af aT/\W n aU af) ?_ A (D,H,x,T);rintro n a5 ⟨i,al,U,V⟩;show vP a2<|a3.K U (turn n i al V) λB a0 aH q g=>?_
 cases B with
 |true=>
  let(br,w,g):=g;rw[bK aa];show vP a2<|fR (a4 am a0 i aH _ q g) λf a6 h=>?_
  cases f with
  |next=>
   let(b,e,j,l):=h;let(m,o,p):=w b e l;show(m,o,b,e,j,p)
  |cont=>
   let(b,e,j,l):=h;let(m,o,p):=w b e l;show(m,o,b,e,j,p)
  |brk=>show h
  |ret v=>show h
 |false=>
  rw[be gh];show zC (i,aH,q,g)
end
structure mV where
 K:O->ap->Prop
 R:O->ap->V->ap->Prop
 S:O->ap->Prop
def rf(C:bW)(am:#[L×hn])(H:ap)(B:L):Prop:=
 H B=M/\B≠C.K.locals/\B∉C.a5/\(B>C.a4∨C.a1.heap.objs.size<=B)/\(∀x c,C.K.cells.lookup x=Y c->c≠B)/\∀p∈C.a9++am,p.1≠B
def aS.c0[bz]{s B}(b:aS C am D H s)(h:s.heap.objs.size<=B)(f7:af B=M):rf C am af B:=by
 show(f7,Hk<|ia b.e1 h,((λb d=>λh=>by
    let(_,o,f,_):=b.K.a4.mem h;show bB (ia (fZ f)<|db b.b9 d)<|q_ _) b h),bl<|db b.b9 h,λx c e z=>?_,λp g z=>?_);.let(v,q):=b.a4 x c e;show bB (ia q.lt<|z▸h)<|q_ _
 .show bB (ia (fZ (b.a6 p g).1)<|z▸h)<|q_ _
structure th[bz](dW:dD)(a1:mV)(h:#[L])(cx:L)(b:O->ez->Prop):Prop where
 a0:cx>h
 K:∀i d,b i d->∀B∈h,∃o,d.get? B=Y o/\∀v,o.data≠BW v
 R:∀i d bg,b i d->(∀B∈h,∀o,d.get? B=Y o->bg.get? B=Y o)->b i bg
 S:∀C,C.a3=J->∀i am s D H au,aS C am D H s->(∀B∈h,rf C am H B)->b i s.heap->a1.K i H->
  bP (b' aAw aAx) C.R (Hl<|I cx) (λr a2=>∃u,r=Y u/\
   bP (b' aAw aAx) C.R (afV dW (I cx) u) (λ_ a3=>∃x af,aS C am D af a3/\dk x u/\a1.R i H x af/\b (i+1) a3.heap/\∀B∈h,af B=M) au a2) au s
 done:∀C,C.a3=J->∀i am s D H au,aS C am D H s->(∀B∈h,rf C am H B)->b i s.heap->a1.S i H->
  bP (b' aAw aAx) C.R (Hl<|I cx) (λr a2=>r=M/\aS C am D H a2) au s
 X:∀A i s Q au,b i s.heap->Q (I cx) s->bP (b' aAw aAx) A (Hm<|I cx) Q au s
abbrev rg:=ck->ap->(mV->ap->Prop)->Prop
def Kx[bz](C:bW)(am:#[L×hn])(D:ck)(dW:dD)(ax:mV->ap->Prop)(h:bc)(b:cQ):Prop:=
 ∃(cx:L)(e:#[L])(f:O->ez->Prop)(g:mV)(af:ap),h=I cx/\aS C am D af b/\th dW g e cx f/\f 0 b.heap/\(∀B∈e,rf C am af B)/\ax g af
def sb[bz](C:bW)(dW iter:dD)(b:rg):Prop:=
 ∀am s D H ax,aS C am D H s->b D H ax->
  bP (b' aAw aAx) C.R (dx iter C.K) (λv e=>bP (b' aAw aAx) C.R (Hm v) (Kx C am D dW ax) C.S e) C.S s
def x'{av A s dW o n}(h:s.heap.get? cx=Y o)(a1:o.cls=cF n)(a2:o.data=qV vs)
 (a3:["enumerate","zip","dict_itemiterator","dict_reverseitemiterator","odict_iterator","itertools.zip_longest","itertools.pairwise"].contains n=aX)(b:Q () s):bP av A (afV dW (I cx) u) Q au s:=by
 cases dW<;>first
  |show c_ b
  |(cases u<;>first
    |show c_ b
    |(show bq<|wpAny_load h ?_;rw[a1,a2];change bP av A (if(["enumerate","zip","dict_itemiterator","dict_reverseitemiterator","odict_iterator","itertools.zip_longest","itertools.pairwise"].contains n&&vs[0]? ==Y (rawInt _))=J then _ else _) Q au s;rw[be<|by grind];show c_ b))
noncomputable def Ak(aA:eh)(a:L):mV:=
 (λi H=>∃xs x,fa aA H a xs/\xs[i]? =Y x,λi H x af=>af=H/\∀xs,fa aA H a xs->xs[i]? =Y x,λi H=>∃xs,fa aA H a xs/\↑xs<=i)
noncomputable def ya(bQ:N)(n:O):mV:=(λi _=>i<n,λi H x af=>af=H/\x=.R (bQ+i),λi _=>n<=i)
theorem aiA[bz]{dW}(a cx:L):th dW (Ak aAv a) [cx] cx<|λi d=>d.IsListIter cx a i where
 a0:=by show dj.2 aa
 K:=λi d st B b=>by
  let e:=‹b›
  subst e;let(o,e,c,ae):=st;show(o,e,λv z=>by rw[ae]at z;cases z)
 R:=λi d bg st k=>st.at λo e=>k cx (dj.2 aa) o e
 S:=by
  intro C V i am s D H au f g st l;exists a1;let(xs,x,h,j):=l;let(bh,m,p,hz):=f.a1 h;let(u,a2,a3):=m.K j;let(q,w,a4,A,T,U):=g cx (dj.2 aa);show a1<|wpAny_pyNext_list_item st p.isList ‹a2› λbg a0 a5=>?_;let(o,e,c,ae):=id a0;show(u,aa,x' e c ae ⋯ (x,H,(f.a8 (λB o b e=>(a5.2 B b).trans e) q w A T U),a3,(aa,λcv a6=>(f.d5 a6 h)▸j),a0,λB b=>(g B b).1))
 done:=by
  intro C V i am s D H au f g st l;exists a7;let(xs,h,j):=l;let(bh,m,p,hz):=f.a1 h;let(q,w,a4,A,T,U):=g cx (dj.2 aa);let a8:=m.length;show a7<|wpAny_pyNext_list_end (f.K.K V) st p.isList (by simp;show SV (id<|eW a8) j) λbg a9=>(aa,f.a8 (λB o b e=>a9 B o b e) q w A T U)
 X:=λ_ _ _ _ _ st d=>wpAny_pyIter_listiter st d
theorem aiB[bz]{dW}(cx:L)(bQ:N)(n:O):th dW (ya bQ n) [cx] cx<|λi d=>IsRangeIter d cx (bQ+(i:O)*1) ((n:N) -(i:O)) 1 where
 a0:=by show dj.2 aa
 K:=λi d st B b=>by
  let e:=‹b›
  subst e;show(_,st,λv z=>by
   cases z)
 R:=λi d bg st k=>k cx (dj.2 aa) _ st
 S:=by
  intro C h i am s D H au f g st j;exists A;let(l,m,T,p,q,w):=g cx (dj.2 aa);show A<|(Walks.range (f.K.K h) cx bQ 1 n).item i s _ _ j st λv bg ee U x V=>?_;let(t,rfl):=U;let a0:aS C am D H {s with heap:=bg,toks:=ee}:=f.a8 (λB o b e=>V B o ‹b› e) l m p q w;show(_,aa,x' x aa aa ⋯ (.R<|bQ+i,H,a0,(t,?_),(aa,aa),x,λB b=>(g B b).1));rw[Int.mul_one]
 done:=by
  intro C h i am s D H au f g st j;exists a1;let(l,m,T,p,q,w):=g cx (dj.2 aa);show a1<|wpAny_pyNext_range_end (f.K.K h) st (by have:n<=i:=j;lia) λbg a2=>(aa,f.a8 (λB o b e=>a2 B o b e) l m p q w)
 X:=λ_ _ _ _ _ st d=>wpAny_pyIter_rangeiter st d
section
variable[bz]{C:bW}{dW:dD}
inductive UW(aA:eh)(ax:mV->ap->Prop)(x:V)(al:ap):Prop|mk(a:_):(x=.K a)->((∃xs,fa aA al a xs))->(ax (Ak aA a) al)->UW aA ax x al
def aiC(aA:eh)(t':bT):rg:=λD H ax=>t' D H λx al=>UW aA ax x al
def jz{l:dD}{t':bT}(h:bn C l t'):sb C dW l<|aiC aAv t':=by
 intro am s D H ax g d;show h.K g d λv f x al b i j=>?_;exists m;let(a,e,(xs,w),q):=j;subst e;cases i;let(bh,T,p,hz):=b.a1 w;show m<|awa p.isList<|(f.heap.objs.size,[f.heap.objs.size],_,_,al,aa,b.b0 λB o e=>hr _ e,aiA a _,(_,jf _ aa,aa,aa),λB A=>?_,q);let e:=‹A›
 subst e;show b.c0 dw<|b.R.K dw
def aiD{u:nl}{s ax bQ t v}(h:aS C am D H s)(ab: -(2 ^ 62)<=bQ)(ag:bQ<2 ^ 62)(a1: -(2 ^ 62)<=aR)(a2:aR<2 ^ 62)
 (q:ax (ya bQ (aR - bQ).toNat) H):bP (b' aAw aAx) C.R (Hm<|I s.heap.objs.size) (Kx C am D dW ax) au {s with heap:=s.heap.push {cls:=cF "range",data:=qV #[ew bQ t,ew aR u,ew 1 v]},toks:=ee}:=by
 show wpAny_pyIter_range (IsRange.new ..) (small_one ab ag a1 a2) ?_;let b:aS C am D H {s with heap:=s.heap.push {cls:=cF "range",data:=qV #[ew bQ t,ew aR u,ew 1 v]},toks:=ee}:=h.b0 λB o e=>hr _ e;show((s.heap.push {cls:=cF "range",data:=qV #[ew bQ t,ew aR u,ew 1 v]}).objs.size,[(s.heap.push {cls:=cF "range",data:=qV #[ew bQ t,ew aR u,ew 1 v]}).objs.size],_,_,H,aa,
  b.b0 λB o e=>hr _ e,aiB _ bQ (aR - bQ).toNat,?_,λB f=>?_,q)
 .let aB:bQ+((0:O):N)*1=bQ:=by simp
  let g:(((aR - bQ).toNat:O):N) -((0:O):N)=azv bQ aR 1:=by rw[rangeSize_one];split<;>lia
  rw[aB,g];show jf _ aa
 .obtain rfl:B=(s.heap.push {cls:=cF "range",data:=qV #[ew bQ t,ew aR u,ew 1 v]}).objs.size:=‹f›
  show b.c0 dw<|b.R.K dw
inductive UX(ax:mV->ap->Prop)(vs:#[V])(al:ap):Prop|mk(j:N):(vs=[.R j])->(-(2 ^ 62)<=j)->(j<2 ^ 62)->(ax (ya 0 j.toNat) al)->UX ax vs al
def aiF(bt:gP):rg:=λD H ax=>bt D H λvs al=>UX ax vs al
def UZ{a:dD}{bt:gP}{p:iK}(h:jV C "range")(a1:aAy "range"=M)(a2:jU C [a] bt)(aw:autoParam (er [a] C.K=[(aX,dx a C.K)]) r_5):sb C dW (gw (ge "range" p) [a] [] bj)<|aiF bt:=by
 intro am s D H ax e d;show Call_<|xW e h a1 boot_range<|Aa (a2.K bj e d λm o vs al f g b=>?_) aw aa;let(j,rfl,b,i,q):=b
 cases g with
 |cons r l=>
  cases l;let(t,rfl):=r;show call_range_1<|aiD f (Int.neg_ofNat_le_ofNat (2 ^ 62) 0) (W.kbt_pos 62) b i<|‹q›
def yb(b:mV)(g:mU)(cd:gz)(aj:gQ)(D:ck)(al:ap):Prop:=∃W:O->O->ck->ap->Prop,(∃m,W 0 m D al)/\∀i m D H,W i m D H->
 (b.S i H/\aj.K D H)∨(b.K i H/\∃br:ck->ap->Prop,(∀aU af,br aU af->∃e,e<m/\W (i+1) e aU af)/\∀x af,b.R i H x af->g x D af (cd<|aj.X br))
def aiG(b:rg)(g:mU)(cd:gz):gz:=λaj D H=>b D H λe al=>yb e g cd aj D al
noncomputable def Al(b:#[L])(d:ez):#[L×hn]:=b.filterMap λB=>(d.get? B).map λo=>(B,o)
def Ky{d B o}(b:B>h)(e:d.get? B=Y o):(B,o)>Al h d:=ln.2 (B,b,by rw[e];rfl)
def aiH{d p}(b:p>Al h d):p.1>h/\d.get? p.1=Y p.2:=by
 let(B,f,e):=ln.1 b
 cases q:d.get? B with
 |none=>grind
 |some o=>
  rw[q]at e;let g:=hq e;subst g;show(f,q)
def aS.e7{s}(b:aS C am D H s)(f7:∀B∈h,rf C am H B)(f8:∀B∈h,∃o,s.heap.get? B=Y o/\∀v,o.data≠BW v):aS C (am++Al h s.heap) D H s:=
 b.e5 λp g=>(du.1 g).elim (λz=>b.a6 p<|cG _ z) λz=>by
  let(f,e):=aiH z;let(i,j,l,_):=f7 p.1 f;let(o,m,ae):=f8 p.1 f;simp_all
def aS.d0{h s}(b:aS C (am++h) D H s):aS C am D H s:=b.e5 λp e=>b.a6 p<|cG _<|dQ _ e
inductive Kz(C:bW)(am:#[L×hn])(b:#[L])(h:O->ez->Prop)(W:O->O->ck->ap->Prop)(n:O)(aT:cQ):Prop|mk(i:_)(aU:_)(af:_):aS C am aU af aT->h i aT.heap->(∀B∈b,af B=M)->W i n aU af->Kz C am b h W n aT
def jA{iter:dD}{a4:#[dK]}{a5:rg}{g:mU}{cd:gz}(a1:PassesOwn (b' aAw aAx) C.R C.K C.S)(a6:C.a3=J)(aR:sb C dW iter a5)(b6:te C dW g)(b:oh C a4 cd)
 (aw:autoParam (∀x,SW iter C.K x=gt x) r_4):ix C (.For dW iter a4 [] bj)<|aiG a5 g cd:=by
 intro am s D H aj b7 d;show wpAny_For (fR (aR am s D H _ b7 d) λv e6 ab=>fR ab λe7 e8 ag=>bk λq=>?_) aw;let(cx,A,a7,e9,aH,e,b8,T,b9,a8,W,(c0,c1),turn):=ag;subst e;let a2:∀{af:ap},(∀B∈A,af B=M)->∀B∈A,rf C am af B:=λc2 B b=>(c2 B b,(a8 B b).2);show q<|codeAny_forLoop_any (Kz C am A a7 W) (λn a9 w=>bk λq=>?_) c0<|.mk 0 D aH b8 b9 (λB b=>(a8 B b).1) c1;let(i,U,a0,b0,b1,b2,c3):=w;let (c4,c5)||(c6,br,c7,step):=turn i n U a0 c3;.show q<|vP a1<|Uv (T.done C a6 i am a9 U a0 _ b0 (a2 b2) b1 c4) λc8 c9=>zC (U,a0,c9,c5)
 .show q<|vP a1<|Uw (T.S C a6 i am a9 U a0 _ b0 (a2 b2) b1 c6) λu c8 d0=>vP a1<|fR d0 λ_ b3 d1=>bk λq=>?_;let(x,b4,d2,d3,d4,a3,d5):=d1;show q<|vP a1<|fR (b6 _ b3 U b4 x u _ (d2.e7 (a2 d5)<|T.K _ _ a3) d3<|step x b4 d4) λ_ d6 (d7,d8,d9,e0)=>vP a1<|fR (b _ d6 d7 d8 _ d9 e0) λf b5 p=>?_;let again:∀{h:ck}{j:ap},aS C (am++Al A b3.heap) h j b5->br h j->∃m,m<n/\Kz C am A a7 W m b5:=λ{h j} l V=>by
   let(e1,e2,e3):=c7 h j V;show(e1,e2,.mk (i+1) h j l.d0 (T.R _ _ _ a3 λB b o e=>(l.a6 (B,o)<|cG _<|cG _<|Ky b e).1) (λB b=>?_) e3);let(o,e,ae):=T.K _ _ a3 B b;show(l.a6 (B,o)<|cG _<|cG _<|Ky b e).2.1
  cases f with|next=>let(h,j,l,V):=p;show again l V|cont=>let(h,j,l,V):=p;show again l V|brk=>let(h,j,l,p):=p;show(h,j,l.d0,p)|ret v=>let(e4,h,j,l,e5,p):=p;show(e4,h,j,l.d0,e5,p)
end
def nv{aA a xs g aj}(Pv:O->ck->ap->Prop)(h:Pv 0 D H)(a1:∀i D H,i<=↑xs->Pv i D H->fa aA H a xs)
 (aw:∀i x D H,xs[i]? =Y x->Pv i D H->g x D H (cd<|aj.X<|Pv<|i+1))(a2:∀D H,Pv ↑xs D H->aj.K D H):
  yb (Ak aA a) g cd aj D H:=by
 show(λi m D H=>m=↑xs - i/\i<=↑xs/\Pv i D H,(↑xs,eW<|ul ↑xs,ex _,h),?_);rintro i m D H ⟨rfl,aR,p⟩;let q:=a1 i D H aR p;by_cases b:i<↑xs;.show bl ((xs,xs[i],q,by simp[b]),Pv<|i+1,λaU af e=>(↑xs -(i+1),um ↑xs i b,aa,b,e),λx af y=>?_);let(rfl,y):=y;show aw i x D _ (y xs q) p
 .obtain rfl:i=↑xs:=by lia
  show aQ ((xs,q,dw),a2 D H p)
abbrev lu:=V->V->ap->ca->Prop
def hV[bz](C:bW)(f:bc->bc->js bc)(r:lu):Prop:=
 ∀am s D H x y v u Q,aS C am D H s->dk x v->dk y u->r x y H Q->
  bP (b' aAw aAx) C.R (f v u) (lR C am D Q) C.S s
def KA[bz](C:bW)(f:bc->js bc)(r:V->ap->ca->Prop):Prop:=
 ∀am s D H x v Q,aS C am D H s->dk x v->r x H Q->
  bP (b' aAw aAx) C.R (f v) (lR C am D Q) C.S s
def qk[bz](C:bW)(f:bc)(r:#[V]->ap->ca->Prop):Prop:=
 ∀am s D H xs b Q,aS C am D H s->dm xs b->r xs H Q->
  bP (b' aAw aAx) C.R (qX f b) (lR C am D Q) C.S s
def aiK[bz](C:bW)(r:V->ap->(dq->ap->Prop)->Prop):Prop:=
 ∀am s D H x v Q,aS C am D H s->dk x v->r x H Q->
  bP (b' aAw aAx) C.R (truthy v) (Dg C am D Q) C.S s
def uF(r:lu)(bt cd:bT):bT:=λD H Q=>bt D H λx al=>cd D al λy aH=>r x y aH Q
def U_(r:V->ap->ca->Prop)(bt:bT):bT:=λD H Q=>bt D H λx al=>r x al Q
inductive U'(ar:N->N->Prop)(g:N->N->V)(x:V)(y:V)(H:ap)(Q:ca):Prop|mk(i:_)(j:_):(x=.R i)->(y=.R j)->(ar i j)->(Q (g i j) H)->U' ar g x y H Q
def aiP(ar:N->N->Prop)(g:N->N->V):lu:=λx y H Q=>U' ar g x y H Q
inductive Va(g:N->N->V)(x:V)(y:V)(H:ap)(Q:ca):Prop|mk(i:_)(j:_):(x=.R i)->(y=.R j)->(Q (g i j) H)->Va g x y H Q
def oi(g:N->N->V):lu:=λx y H Q=>Va g x y H Q
def KC(g:N->V):V->ap->ca->Prop:=λx H Q=>∃i,x=.R i/\Q (g i) H
section
variable[bz]{C:bW}{a B c:dD}{bt cd mF:bT}
def KD(h:bn C a bt)(a1:bn C B cd){D:ck}{H:ap}{ax:V->V->ap->Prop}(a2:aS C am D H s)
 (d:bt D H λx al=>cd D al λy aH=>ax x y aH){Q:bc->cQ->Prop}{f:bc->bc->js bc}
 (a3:∀v u b x y aH,aS C am D aH b->dk x v->dk y u->ax x y aH->bP (b' aAw aAx) C.R (f v u) Q C.S b):
  bP (b' aAw aAx) C.R (dx a C.K) (λv a4=>bP (b' aAw aAx) C.R (dx B C.K) (λu a5=>bP (b' aAw aAx) C.R (f v u) Q C.S a5) C.S a4) C.S s:=h.K a2 d λv o x al e g i=>a1.K e i λu b y aH j l m=>a3 v u b x y aH j g l m
def Am{op r}(b:hV C (Ca op) r)(h:bn C a bt)(a1:bn C B cd):bn C (.BinOp a op B bj)<|uF r bt cd:=by
 intro am s D H Q e d;show wpAny_BinOp<|KD h a1 e d λv u f x y aH g bC i q=>b am f D aH x y v u Q g bC i q
def Dm{op:UnaryOp}{r:V->ap->ca->Prop}(b:KA C (unaryOp op) r)(h:bn C a bt):bn C (.UnaryOp op a bj)<|U_ r bt:=by
 intro am s D H Q e d;show UnaryOp_<|h.K e d λv f x al g i j=>b am f D al x v Q g i j
def aiQ{f:bc->bc->js bc}{ar:N->N->Prop}{g:N->N->N}
 (rule:∀(i j:N)(t u:nl)(s:cQ)(Q:bc->cQ->Prop)(au:bc->cQ->Prop),ar i j->Q (ew (g i j) s.toks) {s with toks:=s.toks+1}->bP (b' aAw aAx) C.R (f (ew i t)<|ew j u) Q au s):
  hV C f<|aiP ar λi j=>.R<|g i j:=by
 intro am s D H x y v u Q b bC e d;let(i,j,rfl,rfl,h,q):=d;let(t,rfl):=bC;let(cZ,rfl):=e;show rule i j t cZ s _ _ h (.R<|g i j,H,b.X _,(_,aa),q)
def Vb{f:bc->bc->js bc}{g:N->N->N}
 (rule:∀(i j:N)(t u:nl)(s:cQ)(Q:bc->cQ->Prop)(au:bc->cQ->Prop),Q (ew (g i j) s.toks) {s with toks:=s.toks+1}->bP (b' aAw aAx) C.R (f (ew i t)<|ew j u) Q au s):
  hV C f<|oi λi j=>.R<|g i j:=by
 intro am s D H x y v u Q b bC e d;let(i,j,rfl,rfl,q):=d;let(t,rfl):=bC;let(cZ,rfl):=e;show rule i j t cZ s _ _ (.R<|g i j,H,b.X _,(_,aa),q)
def yc{f:bc->bc->js bc}{g:N->N->dq}
 (rule:∀(i j:N)(t u:nl)(s:cQ)(Q:bc->cQ->Prop)(au:bc->cQ->Prop),Q (ic<|g i j) s->bP (b' aAw aAx) C.R (f (ew i t)<|ew j u) Q au s):
  hV C f<|oi λi j=>.X<|g i j:=by
 intro am s D H x y v u Q b bC e d;let(i,j,rfl,rfl,q):=d;let(t,rfl):=bC;let(cZ,rfl):=e;show rule i j t cZ s _ _ (.X<|g i j,H,b,aa,q)
def KG:hV C (Ca wZ)<|oi λi j=>.R<|i+j:=Vb λ_ _ _ _ _ _ _ q=>add_int q
def aiR{f:bc->js bc}{g:N->N}
 (rule:∀(i:N)(t:nl)(s:cQ)(Q:bc->cQ->Prop)(au:bc->cQ->Prop),Q (ew (g i) s.toks) {s with toks:=s.toks+1}->bP (b' aAw aAx) C.R (f<|ew i t) Q au s):
  KA C f<|KC λi=>.R<|g i:=by
 intro am s D H x v Q b bC d;let(i,rfl,q):=d;let(t,rfl):=bC;show rule i t s _ _ (.R<|g i,H,b.X _,(_,aa),q)
def Dn:KA C (unaryOp .USub)<|KC λi=>.R<|-i:=aiR λ_ _ _ _ _ q=>neg_int q
end
noncomputable def An:V->V->dq|.a0,.a0=>J|.a0,.R _=>J|.R _,.a0=>J|.a0,.X _=>J|.X _,.a0=>J|.a0,.S _=>J|.S _,.a0=>J|.R _,.R _=>J|.X _,.X _=>J|.S _,.S _=>J|.a1 _,.a1 _=>J|.R _,.S _=>J|.S _,.R _=>J|.X _,.S _=>J|.S _,.X _=>J|_,_=>aX
inductive Vc(x y:V)(H:ap)(Q:ca):Prop|mk:An x y=J->Q (.X<|bp<|x=y) H->Vc x y H Q
def Do:lu:=λx y H Q=>Vc x y H Q
inductive Vd(x y:V)(H:ap)(Q:ca):Prop|mk:An x y=J->Q (.X<|!bp (x=y)) H->Vd x y H Q
def aiS:lu:=λx y H Q=>Vd x y H Q
def Ve{i j}:bp (V.R i=V.R j)=(i==j):=by
 rw[oa];simp
def Vf{i j}:bp (V.X i=V.X j)=(i==j):=by
 rw[oa];simp
def Vg{i j}:bp (V.S i=V.S j)=(i==j):=by
 rw[oa];simp
def Vh{i j}:bp (V.a1 i=V.a1 j)=(i.toList==j.toList):=by
 rw[oa];simp_all
section
variable[bz]{C:bW}{a B c:dD}{bt cd mF:bT}
def hG{s k}(b:aS C am D H s)(q:Q (.X k) H)(e:k=h):lR C am D Q (ic h) s:=by
 subst e;show(.X k,H,b,aa,q)
def ql:hV C (jt .Eq) Do:=by
 intro am s D H x y v u Q b bC e d;let(aw,q):=d
 cases x with
 |a0=>
  cases bC
  cases y with|a0=>cases e;show azw<|hG b q<|avG V.a0|X j=>cases e;show azx<|hG b q<|rd lG|R j=>let(cZ,rfl):=e;show azy<|hG b q<|rd lG|S j=>let(cZ,rfl):=e;show azz<|hG b q<|rd lG|_=>show bB (aw) gh
 |X i=>
  cases bC
  cases y with|a0=>cases e;show azA<|hG b q<|rd lG|X j=>cases e;show eq_bool<|hG b q Vf|S j=>let(cZ,rfl):=e;show azB<|hG b q<|rd lG|_=>show bB (aw) gh
 |R i=>
  let(t,rfl):=bC
  cases y with|a0=>cases e;show azC<|hG b q<|rd lG|R j=>let(cZ,rfl):=e;show eq_int<|hG b q Ve|S j=>let(cZ,rfl):=e;show azD<|hG b q<|rd lG|_=>show bB (aw) gh
 |S i=>
  let(t,rfl):=bC
  cases y with|a0=>cases e;show azF<|hG b q<|rd lG|X j=>cases e;show azG<|hG b q<|rd lG|R j=>let(cZ,rfl):=e;show azH<|hG b q<|rd lG|S j=>let(cZ,rfl):=e;show eq_str<|hG b q Vg|_=>show bB (aw) gh
 |a1 i=>
  let(t,rfl):=bC
  cases y with|a1 j=>let(cZ,rfl):=e;show PySem.W.eq_bytes<|hG b q Vh|_=>show bB (show aX=J from aw) gh
 |_=>cases y<;>show bB (show aX=J from aw) gh
def Vi:hV C (jt SR) aiS:=by
 intro am s D H x y v u Q b bC e d;let(aw,q):=d
 cases x with
 |a0=>
  cases bC
  cases y with|a0=>cases e;show azK<|hG b q<|ra.2 aw|X j=>cases e;show azP<|hG b q<|eW<|(λ{a B}=>ra.1) aa|R j=>let(cZ,rfl):=e;show azQ<|hG b q<|eW<|(λ{a B}=>ra.1) aa|S j=>let(cZ,rfl):=e;show azR<|hG b q<|eW<|(λ{a B}=>ra.1) aa|_=>show bB (aw) gh
 |X i=>
  cases bC
  cases y with|a0=>cases e;show azS<|hG b q<|eW<|(λ{a B}=>ra.1) aa|X j=>cases e;show ne_bool<|hG b q<|dP not Vf|S j=>let(cZ,rfl):=e;show azT<|hG b q<|eW<|(λ{a B}=>ra.1) aa|_=>show bB (aw) gh
 |R i=>
  let(t,rfl):=bC
  cases y with|a0=>cases e;show azU<|hG b q<|eW<|(λ{a B}=>ra.1) aa|R j=>let(cZ,rfl):=e;show ne_int<|hG b q<|dP not Ve|S j=>let(cZ,rfl):=e;show azV<|hG b q<|eW<|(λ{a B}=>ra.1) aa|_=>show bB (aw) gh
 |S i=>
  let(t,rfl):=bC
  cases y with|a0=>cases e;show azW<|hG b q<|eW<|(λ{a B}=>ra.1) aa|X j=>cases e;show azX<|hG b q<|eW<|(λ{a B}=>ra.1) aa|R j=>let(cZ,rfl):=e;show azZ<|hG b q<|eW<|(λ{a B}=>ra.1) aa|S j=>let(cZ,rfl):=e;show ne_str<|hG b q<|dP not Vg|_=>show bB (aw) gh
 |a1 i=>
  let(t,rfl):=bC
  cases y with|a1 j=>let(cZ,rfl):=e;show PySem.W.ne_bytes<|hG b q<|dP not Vh|_=>show bB (show aX=J from aw) gh
 |_=>cases y<;>show bB (show aX=J from aw) gh
def KH:hV C (jt .Lt)<|oi λi j=>.X<|bp<|i<j:=yc λ_ _ _ _ _ _ _ q=>awb q
def ti:hV C (jt .LtE)<|oi λi j=>.X<|bp<|i<=j:=yc λ_ _ _ _ _ _ _ q=>le_int q
def KP:hV C (jt .Gt)<|oi λi j=>.X<|bp<|j<i:=yc λ_ _ _ _ _ _ _ q=>gt_int q
def tj{op r}(b:hV C (jt op) r)(h:bn C a bt)(a1:bn C B cd)(a2:w_ op B=aX):bn C (w' a [op] [B] bj)<|uF r bt cd:=by
 intro am s D H Q e d;show wpAny_Compare1 (KD h a1 e d λv u f x y aH g bC i q=>b am f D aH x y v u Q g bC i q) a2
inductive Vj(Q:dq->ap->Prop)(x:V)(af:ap):Prop|mk(k:_):(x=.X k)->(Q k af)->Vj Q x af
def we(t:bT):iR:=λD H Q=>t D H λx af=>Vj Q x af
def nw{op:CmpOp}{r:lu}(b:hV C (jt op) r)(h:bn C a bt)(a1:bn C B cd)(a2:w_ op B=aX):kj C (w' a [op] [B] bj)<|we<|uF r bt cd:=by
 intro am s D H Q f d;show afR (h.K f d λv V x al g i j=>a1.K g j λu l y aH m o p=>
  fR (b am l D aH x y v u _ m i o p) λc a0 q=>?_) a2;let(z,w,A,T,k,e,U):=q;subst e;cases T;show nn (w,A,U)
def Dp(r h:lu)(bt cd mF:bT):bT:=λD H Q=>bt D H λx al=>cd D al λy aH=>r x y aH λz b=>∃k,z=.X k/\
 (if k=J then mF D b λe f=>h y e f Q else Q (.X aX) b)
def aiT{op b:CmpOp}{r h:lu}(a1:hV C (jt op) r)(a2:hV C (jt b) h)(a3:bn C a bt)(a4:bn C B cd)(a5:bn C c mF)
 (a6:autoParam (lastMarks [op,b] [B,c]=aX) r_6):bn C (w' a [op,b] [B,c] bj)<|Dp r h bt cd mF:=by
 intro am s D H Q j d;show Compare_chain (a3.K j d λv b2 x al l m o=>chain_link<|a4.K l o λu p y aH q f w=>
  fR (a1 am p D aH x y v u _ q m f w) λae b3 A=>?_) a6;let(z,T,g,U,k,e,i):=A;subst e;cases U;show nn ?_
 cases k with|false=>show ite_ff (.X aX,T,g,aa,i)|true=>show ite_tt<|chain_last<|a5.K g i λV a0 a7 a8 a9 b0 b1=>a2 am a0 D a8 y a7 u V Q a9 f b0 b1
def KQ{op b:CmpOp}{r h:lu}(a1:hV C (jt op) r)(a2:hV C (jt b) h)(a3:bn C a bt)(a4:bn C B cd)(a5:bn C c mF)
 (a6:autoParam (lastMarks [op,b] [B,c]=aX) r_6):kj C (w' a [op,b] [B,c] bj)<|we<|Dp r h bt cd mF:=by
 intro am s D H Q l d;show isTrue_chain (a3.K l d λv b8 x al m o p=>test_link<|a4.K m p λu q y aH w g A=>
  fR (a1 am q D aH x y v u _ w o g A) λae b9 f=>?_) a6;let(z,T,i,U,k,e,j):=f;subst e;cases U;show nn ?_
 cases k with
 |false=>
  obtain⟨c0,⟨⟩,V⟩:=j;show ite_ff (T,i,V)
 |true=>
  show ite_tt<|test_last<|a5.K i j λa0 a7 a8 a9 b0 b1 b2=>fR (a2 am a7 D a9 y a8 u a0 _ b0 g b1 b2) λc1 c2 f=>?_;let(c3,b3,b4,b5,c4,b6,b7):=f;subst b6;cases b5;show nn (b3,b4,b7)
def Dq(aA:eh)(x:V)(H:ap)(k:dq):Prop:=
 match x with|.a0=>k=aX|.X B=>k=B|.R i=>k=(i !=0)|.S y=>y.length<=ch/\k=((y.length:N) !=0)|.a1 y=>y.size<=ch/\k=((y.size:N) !=0)|.K p=>(∃xs,fa aA H p xs/\k=!xs.isEmpty)∨(∃xs,lT aA H p xs/\k=!xs.isEmpty)∨∃aP,H p=Y (.a1 aP)/\k=!aP.isEmpty|_=>fC
def aiU{κ:Type}{aP:#[κ×V]}{vs:#[κ×bc]}(r:kG aP vs):(!vs.isEmpty)=!aP.isEmpty:=by
 cases r<;>rfl
def Vk{xs bh}(r:dm xs bh):(!bh.toArray.isEmpty)=!xs.isEmpty:=by
 cases r<;>simp
def yd:(ch:O)<2 ^ 63:=by simp[afW]
def Vl:aiK C<|λx H Q=>∃k,Dq aAv x H k/\Q k H:=by
 intro am s D H x v Q f bC d;let(k,e,q):=d;let aw:=afW
 cases x with
 |a0=>
  cases bC;let b:=e;subst b;show truthy_none (H,f,q)
 |X B=>
  cases bC;let b:=e;subst b;show nn (H,f,q)
 |R i=>
  let(t,rfl):=bC;let b:=e;subst b;show PySem.P.truthy_int (H,f,q)
 |S y=>
  let(t,rfl):=bC;obtain⟨l,b⟩:y.length<=ch/\k=((y.length:N) !=0):=e;subst b;show PySem.P.truthy_str (by lia) (H,f.X _,q)
 |a1 y=>
  let(t,rfl):=bC;obtain⟨l,b⟩:y.size<=ch/\k=((y.size:N) !=0):=e;subst b;show PySem.W.truthy_bytes (by lia) (H,f.X _,q)
 |K p=>
  cases bC;let b:=e;let (xs,g,b)||(xs,g,b)||(aP,g,b):=b;.exists o;subst b;let(bh,r,h,hz):=f.a1 g;let j:=r.length;show o<|wpAny_truthy_list h.isList (by simp;lia) (H,f.X _,(Vk r)▸q)
  .subst b;let(bh,r,h,hz):=f.b2 g;let j:=r.length;show truthy_tuple h (by simp;lia) (H,f.X _,(Vk r)▸q)
  .subst b;obtain⟨hz,w,vs,r,m⟩:↑aP<=ch/\(p==lg)=aX/\∃vs,kG aP vs/\s.heap.DictOf (jx aAw aAx) p vs:=f.R p _ g;let j:=jR r;show wpAny_truthy_dict w m (by lia) (H,f.X _,(aiU r)▸q)
 |_=>show(e).elim
def uG(b:bn C a bt)(h:∀qj,wX a C.K qj=(do let v<- qj;ub a.pos;rC [v] (truthy v))):
  kj C a<|λD H Q=>bt D H λx af=>∃k,Dq aAv x af k/\Q k af:=by
 intro am s D H Q e d;show afS (b.K e d λv f x al g i j=>Vl am f D al x v Q g i j)<|h _
def ye{x}(r:dm [x] b):∃u,b=[u]/\dk x u:=by
 cases r with|cons e f=>cases f;show(_,aa,e)
def Vm:qk C (ju "ord")<|λxs H Q=>∃x,xs=[.S x]/\x.length=1/\Q (.R (x.cps.getD 0 0:O)) H:=by
 intro am s D H xs e Q b r d;let(x,rfl,hz,q):=d;let(u,rfl,t,rfl):=ye r;show ord_of_one hz (.R _,H,b.X _,(_,aa),q)
end
structure yf(d:ez)(x aG ar:L)(hf:E->bs bc):Prop where
 K:d.get? x=Y (BU ar aG)
 R:d.Ns1 aG hf
 S:aG≠x
set_option tactic.hygienic true in
def aiV{d:ez}{aG:L}{hf:E->bs bc}(n:d.Ns1 aG hf):∃ei,d.get? aG=Y ei/\∀gH,lookIn gH ei=Y (hf gH):=by
 let(o,bf,dz,b,f,g,_,h):=n;show(o,b,λgH=>?_);let e:=h gH;unfold nsFind findBy at e;rw[<- Array.find?_toList]at e;unfold lookIn;rw[f];dsimp only;split;.rename_i y q;rw[q]at e;show dP Y e
 .rename_i q;rw[q]at e;let a:bf.toList.any (·.refKey)=aX:=by
   rw[afX];intro y i;let(z,t,j):=g y (Array.mem_toList_iff.1 i);simp[DictEntry.refKey,j]
  rw[be<|a▸gh];show dP Y e
theorem yf.X{d x aG ar hf}(b:yf d x aG ar hf):∃ei,PySem.W.InstAt d x (BU ar aG) ar (Y ei)/\∀gH,lookIn gH ei=Y (hf gH):=
 (aiV b.R).elim λei z=>(ei,(b.K,aa,aa,z.1),z.2)
section
variable{eR:fs}{aA:eh}{x aG ar f:L}{hf:E->bs bc}{gH:E}{v:bc}
def aiW{h}(C:aA.In s.heap)(a1:yf s.heap x aG ar hf)(b:SX aA ar gH=J)
 (a2:sC aA (I ar) gH=Y (Y<|I f))(a3:Hn aA (I f)=J)(a4:hf gH=M)(d:Q (I f,[I x]) s):
  bP (b' eR w) A (xa (I x) gH h) Q au s:=by
 let(ei,e,g):=a1.X;show PySem.W.method_fn C e (afZ b).1 (afZ b).2 a2 (rQ.1 a3) (by change(lookIn gH ei).map (·.isSome)=Y aX;simp_all) d
def aiX{co}(C:aA.In s.heap)(b:yf s.heap x aG ar hf)
 (aw:sC aA (I ar) "__setattr__"=Y (Y<|ju "object.__setattr__"))(h:aga aA ar=J)(a1:takerIn aA ar gH=Y M)(a2:agb aA ar=J)
 (a3:afG hf co)(hsz:↑co<=ch)
 (d:∀bg,yf bg x aG ar (λy=>if y=gH then Y v else hf y)->wU aG s.heap bg->Q () {s with heap:=bg,toks:=s.toks+2}):
  bP (b' eR w) A (setAttr (I x) gH v) Q au s:=by
 let(ei,e,q):=b.X;show PySem.W.set_plain C e aw<|PySem.W.osa_open C e h a1 λB=>?_;let(T,i,j):=PySem.W.any_some a2;show bq<|c_<|bq<|bq<|wpAny_loadPart b.K<|bq<|Looks.here (PySem.W.looks_clsIn C i) ?_;rw[j];show c_<|bq<|c_<|bq<|wpAny_nsSet1 b.R λbg f g=>?_;exists l;let(U,V,a0,m,o,p):=f.count (aAa gH v a3);show l<|bq<|wpAny_lookBehind m (by rw[o];show pastItsLine_dict<|db p<|Nat.le_add_of_sub_le hsz)<|c_<|d _ ((g.2 _<|mT b.S).trans b.K,f,b.S) g
def aiZ{ax}(C:aA.In s.heap)(h:makesIn aA ar=J)
 (aR:sC aA (I ar) "__init__"=Y (Y<|I f))(a1:typeIn aA (I f)=Y (cF "function"))
 (d:xb (b' eR w) (A.under<|Cb "type.__call__" (I ar::vs,b)) (.call (I f) (I (s.heap.objs.size+1)::vs,b)) (PySem.W.InitBack (s.heap.objs.size+1) ax)
   {s with heap:=(s.heap.push Cc).push<|BU ar s.heap.objs.size}):
  xb (b' eR w) A (.call (I ar) (vs,b)) ax s:=by
 let(i,g,ae,t,os):=s;show PySem.W.make_core (PySem.W.makes_of C h) (PySem.W.looks_findIn C aR) (λe=>PySem.W.bind_fn C e a1) (aQ aa) d
end
noncomputable def kH(f:E)(v:V):#[E×V]->#[E×V]|[]=>[(f,v)]|(g,x)::r=>if g=f then(g,v)::r else(g,x)::kH f v r
theorem Vn(f g:E)(v:V):∀ah:#[E×V],(kH f v ah).lookup g=if g=f then Y v else ah.lookup g
 |[]=>by
  change uc g [(f,v)]=_;by_cases d:g=f;.let b:=rQ.2 d;simp only[uc,b,bK d]
  .let b:=un.2 d;simp only[uc,b,be d]
 |(k,x)::r=>by
  rw[show kH f v ((k,x)::r)=(if k=f then(k,v)::r else(k,x)::kH f v r)from aa];by_cases h:k=f
  .rw[bK h];by_cases d:g=k;.let b:=rQ.2 d;simp only[uc,b,bK (d.trans h)]
   .let b:=un.2 d;simp only[uc,b,be (λe:g=f=>d<|e.trans h.symm)]
  .rw[be h];by_cases d:g=k;.simp_all
   .let b:=un.2 d;simp only[uc,b];show(Vn f g v r)
theorem KR(f:E)(v:V):∀ah:#[E×V],f>(kH f v ah).map (·.1)/\∀g,g>ah.map (·.1)->g>(kH f v ah).map (·.1)
 |[]=>(by simp[kH],λg d=>by simp at d)
 |(k,x)::r=>by
  let(im,b):=KR f v r;rw[show kH f v ((k,x)::r)=(if k=f then(k,v)::r else(k,x)::kH f v r)from aa];grind
theorem Vo(f:E)(v:V):∀ah:#[E×V],↑(kH f v ah)<=↑ah+1
 |[]=>by simp[kH]
 |(k,x)::r=>by
  let b:=Vo f v r;rw[show kH f v ((k,x)::r)=(if k=f then(k,v)::r else(k,x)::kH f v r)from aa];by_cases e:k=f;.simp_all
  simp_all
theorem iw.K{v o}(r:iw (Y v) o):∃u,o=Y u/\dk v u:=by
 cases o with|none=>show(r).elim|some u=>show(u,aa,r)
theorem iw.S{o}(r:iw M o):o=M:=by
 cases o with|none=>rfl|some u=>show(r).elim
def aja{v}(r:dk v u):PySem.W.handedIn u=J:=by
 cases v with|a0=>cases(r);rfl|X B=>cases(r);rfl|R i=>let(t,e):=(r);cases e;rfl|S x=>let(t,e):=(r);cases e;rfl|a1 B=>let(t,e):=(r);cases e;rfl|a2 B=>let(t,e):=(r);cases e;rfl|K a=>cases(r);rfl|a3 n=>cases(r);rfl
section
variable{aq:fs}{H af:ap}{d bg:ez}{ar aG:L}{ah pK:#[E×V]}
def KS(b:gj aq w H d)(e:H a=Y (.S ar aG ah)):∃hf,yf d a aG ar hf/\(∀f,iw (ah.lookup f) (hf f))/\afG hf (ah.map (·.1))/\↑ah<=1000/\H aG=Y (.a2 a):=by
 let(ae,z,g,h,hf,n,r,q):=(b a _ e);show(hf,(h,n,g),r,q,z,ae)
end
structure kK(aA:eh)(ar:L):Prop where
 S:SX aA ar Str.empty=J
 K:agb aA ar=J
 X:aga aA ar=J
 a0:sC aA (I ar) "__setattr__"=Y (Y<|ju "object.__setattr__")
theorem kK.R{aA ar}(c:kK aA ar)(f:E):SX aA ar f=J:=c.S
def jW(aA:eh)(ar:L)(f:E):Prop:=sC aA (I ar) f=Y M
structure Ao(aA:eh)(ar:L)(m:E)(f:L):Prop where
 R:sC aA (I ar) m=Y (Y<|I f)
 S:Hn aA (I f)=J
 K:rD aA (I f)=J
section
variable[bz]{C:bW}{D:ck}{H:ap}{ar aG:L}{ah:#[E×V]}{f:E}{v:V}
def Dr{B}(b:aS C am D H s)(e:H a=Y (.S ar aG ah))(c:kK aAv ar)(n:jW aAv ar f)(l:ah.lookup f=Y v)
 (d:∀u aT,aS C am D H aT->dk v u->Q u aT):bP (b' aAw aAx) A (getAttr (I a) f B) Q au s:=by
 exists h;let(hf,ct,r,_,_,_):=KS b.R e;let(u,i,g):=iw.K (by rw[<- l];show r f);show h<|((λC b j m o p q d=>by
   let(ei,w,x):=b.X;show PySem.W.get_value C w (afZ j).1 (PySem.W.findObj_own m o aa<|by rw[x,p]) q d) b.a0 ct (c.R f) c.K n i (aja g)<|d u _ (b.X _) g)
def Ds{g h}(b:aS C am D H s)(e:H a=Y (.S ar aG ah))(c:kK aAv ar)(k:Ao aAv ar m g)(l:ah.lookup m=M)
 (d:Q (I g,[I a]) s):bP (b' aAw aAx) A (xa (I a) m h) Q au s:=by
 let(hf,ct,r,_,_,_):=KS b.R e;show aiW b.a0 ct (c.R m) k.R k.S (iw.S<|by rw[<- l];show r m) d
def Dt(b:aS C am D H s)(e:H a=Y (.S ar aG ah))(c:kK aAv ar)(n:jW aAv ar f)(a1:↑ah<1000)(a2:dk y u)
 (d:∀aT,aS C am D (a' H a<|.S ar aG<|kH f y ah) aT->Q () aT):bP (b' aAw aAx) A (setAttr (I a) f u) Q au s:=by
 let(hf,ct,r,i,_,j):=KS b.R e;let hz:↑(ah.map (·.1))<=ch:=by rw[aV,afW];lia
 show aiX b.a0 ct c.a0 c.X (by
   delta takerIn;rw[n];rfl) c.K i hz λbg h l=>d _<|b.b7 (by rw[e];show⟨⟩) (bl j) (λB q m z=>(l.2 B m).trans z) (h.R.elim λo z=>z.elim λ_ z=>z.elim λ_ z=>(o,z.1)) ((bS ct.S)▸j,?_,ct.S,h.K,_,h.R,λg=>?_,λg p=>?_);.have:=Vo f y ah;show db this a1
 .rw[Vn];by_cases q:g=f;.rwa [bK q,bK q]
  .rw[be q,be q];show r g
 .by_cases q:g=f;.rw[q];show(KR f y ah).1
  .show(KR f y ah).2 g<|i g λz=>p ?_;grind
def aS.f2(h:aS C am D H s):aS C am D (a' (a' H s.heap.objs.size<|.a2<|s.heap.objs.size+1) (s.heap.objs.size+1)<|.S ar s.heap.objs.size [])
  {s with heap:=(s.heap.push Cc).push<|BU ar s.heap.objs.size}:=by
 let aB:(s.heap.push Cc).get? s.heap.objs.size=Y Cc:=jf s.heap aa;let f:=by
  have:=jf (s.heap.push Cc) (o:=BU ar s.heap.objs.size) aa;rwa [qc]at this
 show(h.b1 (o:=.a2<|s.heap.objs.size+1) (cZ:=s.toks) (λB u q=>hr _ q) dw (_,aB)).b1 (λB u q=>hr _ q) (o'<|qc _ _) ?_;let b:s.heap.objs.size≠s.heap.objs.size+1:=ie<|pa _;show(by rw[bS b,bG],ex _,b,f,λ_=>M,(Heap.Ns1.of_empty<|(Cc, #[],_,aB,aa,(λe g=>bB g<|Array.not_mem_empty e),λ_=>rfl)).at λo q=>hr _ q,λ_=>⟨⟩,λy i=>bB aa i)
def Vp{eR w dp f s}(b:sD e f dp (dx e dp)=dx e dp)
 (d:bP (b' eR w) A (dx e dp) (λo h=>bP (b' eR w) A (getAttr o f J) Q au h) au s):bP (b' eR w) A (dx (hU e f bj) dp) Q au s:=
 Attribute_any_ d<|by rw[arm_eval_Attribute,b]
end
def ajb[bz](C:bW)(op:Operator)(b:V->V->ap->ca->Prop):Prop:=
 ∀am s D H x y u v Q,aS C am D H s->dk x u->dk y v->b x y H Q->bP (b' aAw aAx) C.R (afT op u v) (lR C am D Q) C.S s
section
variable[bz]{C:bW}{o e iG:dD}{f:E}{jH vu:iK}{bt hv:bT}
def ajc:V->V->ap->ca->Prop:=λx y H Q=>∃i j,x=.R i/\y=.R j/\Q (.R<|i+j) H
def KU:ajb C wZ ajc:=by
 rintro am s D H x y u v Q b bC e ⟨i,j,rfl,rfl,q⟩;let(t,rfl):=(bC);let(cZ,rfl):=(e);show aAb (.R<|i+j,H,b.X _,(_,aa),q)
end
section
variable[bz]{C:bW}{D:ck}{H:ap}{Q:bc->cQ->Prop}{c:bc}{B:dq}
end
structure fz(k:O)(A:vx):Prop where
 R:A.handled=M
 S:A.depth+3*k+5<recursionLimit
 X:A.units+16*k+200<it
theorem fz.K{j k A}(r:fz k A)(d:j<=k):fz j A:=(r.R,by have:=r.S;lia,by have:=r.X;lia)
theorem fz.a2{k A}(r:fz (k+1) A)(dp:ml):fz k<|A.deeper dp:=
 (r.R,by have:=r.S;change A.depth+1+3*k+5<_;lia,by have:=r.X;change A.units+3+16*k+200<_;lia)
theorem fz.a1{k A}(r:fz (k+1) A):fz k A.in1:=
 (r.R,by have:=r.S;lia,by have:=r.X;lia)
theorem ajd{ar:L}{b:#[bc]}{h:#[E×bc]}:(A.under<|Cb "type.__call__" (I ar::b,h)).depth=A.depth+1:=by
 rfl
theorem aje{ar:L}{b:#[bc]}{h:#[E×bc]}:(A.under<|Cb "type.__call__" (I ar::b,h)).units=A.units+1:=by
 rfl
theorem fz.a3{k:O}(r:fz (k+1) A)(ar:L)(b:#[bc])(h:#[E×bc]):fz k<|A.under<|Cb "type.__call__" (I ar::b,h):=
 (r.R,by have:=r.S;rw[ajd];lia,by have:=r.X;rw[aje];lia)
theorem fz.a4{k A}(r:fz k A):A.depth<recursionLimit:=by have:=r.S;lia
theorem fz.a0{k A}(r:fz k A):A.units+64<it:=by have:=r.X;lia
def kl:gP:=λ_ H Q=>Q [] H
def ii(bt:bT)(nf:gP):gP:=λD H Q=>bt D H λx al=>nf D al λxs aH=>Q (x::xs) aH
section
variable[bz]{C:bW}{e:dD}{bf:#[dD]}{ej:bT}{t:gP}
def aF:jU C [] kl:=λ_ _ _ _ H Q b d=>S_ ([],H,b,ed,d)
def ak(b:bn C e ej)(h:jU C bf t)(aw:autoParam (er (e::bf) C.K=(aX,dx e C.K)::er bf C.K) r_5):jU C (e::bf)<|ii ej t:=by
 intro bj am s D H Q f d;rw[aw];show xu<|b.K f d λu p x al g i j=>h.K bj g j λq v xs aH l m o=>(x::xs,aH,l,eS i m,o)
inductive Vq(xs:#[V])(al:ap)(Q:ca):Prop|mk:↑xs<=ch->(∀p,al p=M->Q (.K p) (a' al p<|.R xs))->Vq xs al Q
def Ap(t:gP):bT:=λD H Q=>t D H λxs al=>Vq xs al Q
inductive Du(xs:#[V])(al:ap)(Q:ca):Prop|mk:↑xs<=ch->(∀p,al p=M->Q (.K p) (a' al p<|.K xs))->Du xs al Q
def yg(t:gP):bT:=λD H Q=>t D H λxs al=>Du xs al Q
def es{h}(d:jU C bf t):bn C (SS bf h bj)<|Ap t:=by
 intro am s D H Q g i;show wpAny_Tuple_spliced<|d.K bj g i λj b xs al f r l=>?_;let(z,q):=l;show(r.length▸z,(.K b.heap.objs.size,a' al b.heap.objs.size<|.R xs,f.b1 (λB u e=>hr _ e) dw ?_,aa,q _<|f.R.K dw));show(z,j,r,(_,jf _ aa,aa,_,aa))
def eP(d:jU C bf t):bn C (.List bf bj)<|yg t:=by
 intro am s D H Q g h;show wpAny_List_spliced<|d.K bj g h λi b xs al f r j=>?_;let(z,q):=j;show(r.length▸z,(.K b.heap.objs.size,a' al b.heap.objs.size<|.K xs,f.b1 (λB u e=>hr _ e) dw ?_,aa,q _<|f.R.K dw));show(z,i,0,r,jf _ aa)
end
abbrev cq:=#[V]->ap->ca->fQ->Prop
abbrev jj:=#[ml]->ap->cQ->fQ->bc->cQ->Prop
structure wf(aq:fs)(w:hC)(aA:eh)(a5:E->bs bc)(b:ez)(A:vx)(h:#[ml])(s:cQ)(H:ap):Prop where
 a3:A.frames=Y h
 K:Kl aA a5 b
 R:∀B o,b.get? B=Y o->s.heap.get? B=Y o/\H B=M
 X:b.objs.size<=s.heap.objs.size
 a0:s.heap.FunFrames b h
 a1:∀B∈gk h,H B=M
 S:gj aq w H s.heap
 a2:wW s.gens
inductive Dv(b:#[ml])(aq:fs)(w:hC)(H:ap)(s:cQ)(Q:ca)(u:bc)(aT:cQ):Prop|mk(v af):aT.os=s.os->wW aT.gens->ih (gk b) [] H af s.heap aT.heap->gj aq w af aT.heap->dk v u->Q v af->Dv b aq w H s Q u aT
def ajf(da:jj)(b:#[ml])(aq:fs)(w:hC)(H:ap)(s:cQ)(Q:ca)(au:fQ)(r:Result)(aT:cQ):Prop:=
 match r with|mm (pT u)=>Dv b aq w H s Q u aT|mm _=>fC|pU e=>da b H s au e aT
structure km(aq:fs)(w:hC)(aA:eh)(a2:E->bs bc)(a3:ez)(da:jj)(k:O)(f:L)(dv:qW)(ay:#[E])(bX:cq):Prop where
 R:∀vs H Q au,bX vs H Q au->↑vs=↑ay
 K:∀A b s H h a1 vs Q au,fz k A->wf aq w aA a2 a3 A b s H->Cd s dv h (ay.zip a1)->dm vs a1->bX vs H Q au->
  xb (b' aq w) A (.call (I f) h) (ajf da b aq w H s Q au) s
theorem km.S{aq:fs}{b:E->bs bc}{da:jj}{dv:qW}{bX:cq}{w aA h j k f ay}(aC:km aq w aA b h da j f dv ay bX)(d:j<=k):
  km aq w aA b h da k f dv ay bX:=(aC.R,λA e s H g i vs Q au l=>aC.K A e s H g i vs Q au<|l.K d)
theorem wf.a4{w aA b A h s}(e:wf aq w aA a5 b A h s H)(ar:L)(a6:#[bc])(a7:#[E×bc]):
  wf aq w aA a5 b (A.under<|Cb "type.__call__" (I ar::a6,a7)) h s H:=(by first|show e.a3|grind,e.K,e.R,e.X,e.a0,e.a1,e.S,e.a2)
section
variable[bz]{C:bW}{D:ck}{H:ap}{aT:cQ}
def aS.d6(b:aS C am D H s)(d:Dv C.X aAw aAx H s Q u aT):lR C am D Q u aT:=by
 let(v,af,os,e,f,h,r,q):=d;let(j,g,ae,t,i):=aT;obtain rfl:i=s.os:=os;show(v,af,b.e3 f h e<|λB z=>bB z<|hD,r,q)
end
def ajg(ar:L)(bX:cq)(sz:#[V])(au:fQ)(t:gP):bT:=λD H Q=>t D H λvs al=>∀x aG,al x=M->al aG=M->aG≠x->
 bX (.K x::(vs++sz)) (a' (a' al aG<|.a2 x) x<|.S ar aG []) (λv aH=>v=.a0/\Q (.K x) aH) au
def pi(aA:eh)(dv:qW)(ay:#[E])(bb:#[bc]):Prop:=
 ∀s b,aA.In s.heap->↑(b++bb)=↑ay->Cd s dv (b,[]) (ay.zip<|b++bb)
def pi.all{aA ay}(d:∀b:#[bc],↑b=↑ay->S' dv (b,[])=gt (ay.zip b)):pi aA dv ay []:=λs b _ e=>by
 rw[e']at e⊢;show .of_eq<|d b e
def kP(da:jj)[bz](C:bW)(au:fQ):Prop:=∀am D H s e aT,aS C am D H s->da C.X H s au e aT->C.S e aT
section
variable[bz]{C:bW}{da:jj}{k:O}{f ar:L}{dv:qW}{ay:#[E]}{bX:cq}{sz:#[V]}{bb:#[bc]}{au:fQ}{x m:E}{p fm:iK}{e o:dD}{bf:#[dD]}{bt:bT}{t:gP}
def aS.b5(b:aS C am D H s):wf aAw aAx aAv aAy aAB C.R C.X s H:=
 (b.K.a0,b.K.S,b.c4,db b.K.a2 b.b9,b.c6,b.c7,b.R,b.a3)
def yh{s}(aC:km aAw aAx aAv aAy aAB da k f dv ay bX)(a1:fz k C.R)(a2:pi aAv dv ay bb)(a3:dm sz bb)(a4:kP da C au)
 (b:aS C am D H s)(r:dm vs h)(d:bX (vs++sz) H Q au):bP (b' aAw aAx) C.R (qX (I f) h) (lR C am D Q) C.S s:=by
 let i:=r.R a3;let j:↑(h++bb)=↑ay:=by rw[<- i.length];show aC.R _ _ _ _ d
 show agc<|Ho (aC.K C.R C.X s H (h,[]) (h++bb) (vs++sz) Q au a1 ((b.K.a0,b.K.S,b.c4,db b.K.a2 b.b9,b.c6,b.c7,b.R,b.a3)) (a2 s h b.a0 j) i d) λr aT g=>?_
 cases r with
 |error e=>show a4 am D H s e aT b g
 |ok l=>
  cases l with|ret u=>show b.d6 g|next=>assumption|brk=>assumption|cont=>show lh g
structure yi(aA:eh)(ar f:L):Prop where
 R:makesIn aA ar=J
 S:sC aA (I ar) "__init__"=Y (Y<|I f)
 X:Hn aA (I f)=J
 K:rD aA (I ar)=J
def Vr{s}(av:yi aAv ar f)(aC:km aAw aAx aAv aAy aAB da k f dv ay bX)(a1:fz (k+1) C.R)(a2:pi aAv dv ay bb)(a3:dm sz bb)
 (a4:kP da C au)(h:aS C am D H s)(r:dm vs b)
 (d:∀x aG,H x=M->H aG=M->aG≠x->bX (.K x::(vs++sz)) (a' (a' H aG<|.a2 x) x<|.S ar aG []) (λv aH=>v=.a0/\Q (.K x) aH) au):
  bP (b' aAw aAx) C.R (qX (I ar) b) (lR C am D Q) C.S s:=by
 let j:=d (s.heap.objs.size+1) s.heap.objs.size (h.R.K<|ll _) (h.R.K dw)<|ie<|pa _;let g:=aS.f2 (ar:=ar) h;let l:dm (V.K (s.heap.objs.size+1)::(vs++sz))<|I (s.heap.objs.size+1)::(b++bb):=eS aa<|r.R a3;let m:=by
  let e:=l.length;rw[aC.R _ _ _ _ j]at e;show e.symm
 show agc<|aiZ h.a0 av.R av.S (rQ.1 av.X)<|Ho (aC.K _ C.X _ _ (I (s.heap.objs.size+1)::b,[]) (I (s.heap.objs.size+1)::(b++bb)) _ _ au (a1.a3 ar b [])
  (g.b5.a4 ar b []) (a2 _ (I (s.heap.objs.size+1)::b) g.a0 m) l j) λr aT i=>?_
 cases r with
 |error e=>show a4 am D _ _ e aT g i
 |ok o=>
  cases o with
  |ret u=>
   exists p;let(v,af,q,w,rfl,A):=g.d6 i;show p (w,(V.K<|s.heap.objs.size+1,af,q,aa,A))
  |next=>assumption
  |brk=>show lh i
  |cont=>show lh i
def ajh(av:yi aAv ar f)(aC:km aAw aAx aAv aAy aAB da k f dv ay bX)(h:fz (k+1) C.R)(a1:jV C x)(a2:aAy x=Y (I ar))(a3:pi aAv dv ay bb)(a4:dm sz bb)(a5:kP da C au)
 (a6:autoParam ((x==("__debug__":E))=aX) r_1):bn C (gw (ge x p) [] [] bj)<|ajg ar bX sz au kl:=by
 intro am s D H Q b d;show vQ<|xV b a1 a2 (agd b.a0 av.K<|Vr av aC h a3 a4 a5 b ed d) a6
end
def Dw[bz](C:bW)(G_:#[ud])(t:gP):Prop:=
 ∀bj am s D H Q,aS C am D H s->t D H Q->bP (b' aAw aAx) C.R (evalAll ((sF bj<|sG G_ C.K).map (·.2))) (Uu C am D Q) C.S s
section
variable[bz]{C:bW}{da:jj}{k:O}{f ar:L}{dv:qW}{ay bu:#[E]}{bX:cq}{au:fQ}{x m:E}{p fm avr:iK}{e o:dD}{bf:#[dD]}{G_:#[ud]}{ej bt:bT}{t ee:gP}{ga:bs E}
def Vs:Dw C [] kl:=λ_ _ _ _ H Q b d=>wpAny_evalAll_nil ([],H,b,ed,d)
def Vt(b:bn C e ej)(h:Dw C G_ t):Dw C ((ga,e,avr)::G_)<|ii ej t:=by
 intro bj am s D H Q f d;show wpAny_evalAll_cons<|bq<|b.K f d λu g x al i j l=>bq<|SU<|c_<|fR (h bj am g D al _ i l)<|by rintro q v ⟨xs,aH,m,o,p⟩;show(x::xs,aH,m,eS j o,p)
variable{g:#[bc]->#[bc]->#[bc]}{azs:#[V]->#[V]->#[V]}
end
structure fu(br aq:#[E])(cB:mQ):Prop where
 S:cB.kind=rB
 a0:cB.isCoroutine=aX
 a1:cB.isGenerator=aX
 K:br.Nodup
 R:br.take ↑aq=aq
 X:∀x∈aq,cB.names.lookup x=Y gp∨cB.names.lookup x=Y iu
 a2:∀y∈cB.names,y.2≠gX
theorem Vu{kindOf x}:∀{b m},(∀v,(x,v)∉b)->zj kindOf b m x=m x
 |[],_,_=>rfl
 |(n,v)::r,m,d=>by
  unfold zj;rw[Vu λw e=>d w<|eo _ e];split
  .have:x≠n:=by rintro rfl;show d v<|cp _
   simp[this]
  .rfl
theorem Vv{kindOf x}:∀{b m},(∀v,(x,v)∉b)->zk kindOf b m x=m x
 |[],_,_=>rfl
 |(n,v)::r,m,d=>by
  unfold zk;rw[Vv λw e=>d w<|eo _ e];split;.rfl
  .have:x≠n:=by rintro rfl;show d v<|cp _
   simp[this]
theorem Vw{kindOf:E->bs xc}{x:E}{v:bc}:∀{aq:#[E]}{vs:#[bc]}{i:O}{m:E->bs bc},aq.Nodup->aq[i]? =Y x->vs[i]? =Y v->kindOf x=Y gp->
  zj kindOf (aq.zip vs) m x=Y v
 |[],_,_,_,_,d,_,_=>by simp at d
 |_::_,[],_,_,_,_,d,_=>by simp at d
 |p::aq,w::vs,0,m,aD,ab,ag,b=>by
  simp at ab ag;subst ab;subst ag;change zj kindOf ((p,w)::aq.zip vs) m p=_;unfold zj;rw[Vu λv e=>(f_.1 aD).1 (sU e).1,bK b];show bK aa
 |p::aq,w::vs,i+1,m,aD,ab,ag,b=>by
  unfold zj;show Vw (f_.1 aD).2 ‹ab› ‹ag› b
theorem Vx{kindOf:E->bs xc}{x:E}{v:bc}:∀{aq:#[E]}{vs:#[bc]}{i:O}{m:E->bs bc},aq.Nodup->aq[i]? =Y x->vs[i]? =Y v->kindOf x≠Y gp->
  zk kindOf (aq.zip vs) m x=Y v
 |[],_,_,_,_,d,_,_=>by simp at d
 |_::_,[],_,_,_,_,d,_=>by simp at d
 |p::aq,w::vs,0,m,aD,ab,ag,b=>by
  simp at ab ag;subst ab;subst ag;change zk kindOf ((p,w)::aq.zip vs) m p=_;unfold zk;rw[Vv λv e=>(f_.1 aD).1 (sU e).1,be b];show bK aa
 |p::aq,w::vs,i+1,m,aD,ab,ag,b=>by
  unfold zk;show Vx (f_.1 aD).2 ‹ab› ‹ag› b
noncomputable def yj(br:#[E])(vs:#[V]):ck:=vs.map Y++age (↑br - ↑vs) M
def yk[bz](C:bW)(b:#[dK])(br:#[E])(vs:#[V])(Q:ca)(H:ap):Prop:=∃t,oh C b t/\t (Ae Q) (yj br vs) H
structure Aq where
 a0:L
 a1:bc
 R:vx
 S:#[ml]
 X:cQ
def Aq.K(z:Aq)(fo:E)(ce:mQ):ml:=envOfC fo ce z.X.heap.objs.size z.a0 z.a1
noncomputable def iy[bz](da:jj)(br:#[E])(fo:E)(ce:mQ)(z:Aq)(H:ap)(au:fQ):bW where
 R:=z.R.deeper<|z.K fo ce
 a0:=br
 a1:=z.X
 a6:=H
 K:=z.K fo ce
 a7:=z.S
 X:=z.K fo ce::z.S
 a4:=[]
 a3:=J
 a8:=λ_=>J
 a9:=[]
 S:=λe aT=>bP (b' aAw aAx) (z.R.deeper<|z.K fo ce) (leaving (z.K fo ce) e) (λ_ b=>da z.S H z.X au e b) (λf b=>da z.S H z.X au f b) aT
def Vy{cB:mQ}{n:O}{x:E}(d:cB.names.lookup x=Y iu):∃c,(li n cB.names []).lookup x=Y c:=CB.1<|cellsFrom_some cB.names n []<|aQ d
def aji{au:fQ}[bz]{br ay ce f a1 A a2 s vs}
 (ai:fu br ay ce)(a4:A.handled=M)(b:wf aAw aAx aAv aAy aAB A a2 s H)(a5:↑vs=↑ay)(r:dm vs a3)
 (x:InCallC s s.heap.objs.size (zj (envOfC fo ce s.heap.objs.size f a1).kindOf (ay.zip a3) λ_=>M) (li (s.heap.objs.size+1) ce.names []) (zk (envOfC fo ce s.heap.objs.size f a1).kindOf (ay.zip a3) λ_=>M) a6):
  aS (iy da br fo ce (f,a1,A,a2,s) H au) [] (yj br vs) H a6:=by
 let V:↑ay<=↑br:=by have:=dP mR ai.R;rw[iQ]at this;lia
 let(ab,ee,rfl,l):=x.done;let j:∀B:L,B∉(iy da br fo ce (f,a1,A,a2,s) H au).a4:=λB z=>bB (show B>([]:#[L])from z)<|hD;show((b.K,ai.S,aa,aa,dw,λy z c ab ag=>?_,λy g=>?_,λy c _ d=>?_,λ_=>a4,Around.frames_deeper b.a3,bl (aa,aa),λB z=>bB z<|j B,b.R,b.X,λB _ _=>j B,λB z=>bB z<|j B,b.a0,b.a1),
  aa,b.a2,ih.a4 l,(_,x.toInCall.ns,λi y v ab ag a0=>?_),λy c d=>(_,x.cell y c d),b.S.K dw,λy c d=>?_,λp h=>bB (show p>([]:#[L×hn])from h)<|hD,b.S.R l,?_);.show name_of_addr x.apart (no ab)<|no ag
 .let g||g:=g;.show Vy g
  .show bB aa<|ai.a2 _<|no g
 .show sT<|x.above y c<|no d
 .exists w;let aR:i<↑vs:=by
   unfold yj at ag;by_cases aR:i<↑vs;.show aR
   .rw[pb<|‹aR›]at ag;rw[awc]at ag;split at ag<;>cases ag
  let T:vs[i]? =Y v:=by
   unfold yj at ag;rw[oc<|‹aR›,cV]at ag
   cases e:vs[i]? with|none=>rw[e]at ag;cases ag|some a=>rw[e]at ag;cases ag;rfl
  let(u,m,U):=r.K T;let h:ay[i]? =Y y:=by
   rwa [<- ai.R,List.getElem?_take_of_lt<|n' aR a5]
  let o:ay.Nodup:=by rw[<- ai.R];show ai.K.sublist<|List.take_sublist _ _
  show w (u,U,?_);let k||k:=ai.X y (gs h);.show aQ (k,Vw o h m k)
  .let(c,e):=Vy k;show bl (aQ k,c,e,?_);let q:=x.cell y c e;rw[Vx o h m (by change ce.names.lookup y≠_;rw[k];decide)]at q;show q
 .show b.S.K (sT (x.above y c (no d)))
 .delta yj;change _=↑br;rw[cW,aV,awd];lia
def Vz[bz]{k f gH iZ iH br ay}(a2:aAv.lookup f=Y (gb,ei,xd<|pV gH fo a3 a1 ce a4 iZ ke eF kf hw iH,pP))(a5:xe aAv hw fo=J)(ai:fu br ay ce)
 (hx:∀vs H Q au,bX vs H Q au->↑vs=↑ay)
 (a6:∀z H vs Q au,fz k (z.R.deeper<|z.K fo ce)->bX vs H Q au->yk (iy da br fo ce z H au) a1 br vs Q H):
  km aAw aAx aAv aAy aAB da (k+1) f (pV gH fo a3 a1 ce a4 iZ ke eF kf hw iH) ay bX:=by
 show(hx,λA h s H b2 p vs Q au i g w r l=>?_);let m:=g.K.K.keeps λB o e=>(g.R B o e).1;let T:∀y∈ay.zip p,ce.names.lookup y.1=Y gp∨(ce.names.lookup y.1=Y iu/\((li (s.heap.objs.size+1) ce.names []).lookup y.1).isSome=J):=λ(n,v) U=>by
  let q||q:=ai.X n (sU U).1;.show aQ q
  .show bl (q,cellsFrom_some _ _ _<|aQ q)
 show codeAny_call_function i.a4 (m _ _ a2) aa ai.a0 ai.a1 aa (PySem.W.codeRec_of m a5)<|w _ _ _ _<|wpAny_newFunctionEnv_cells ai.S T λdp a0 a7 x=>?_;subst a0;show((g.K.X.keeps λB o e=>(g.R B o e).1).keeps x.toInCall.keep,codeAny_func ?_);exists a8;let(t,a9,b0):=a6 (f,hw,A,h,s) H vs Q au (i.a2 _) l;show a8<|ob (a9 [] a7 (yj br vs) H _ (aji ai i.R g (hx _ _ _ _ l) r x) b0) (λb1 aT aw=>?_) λe aT aw=>aw;let fin:∀{aU af v u},aS (iy da br fo ce (f,hw,A,h,s) H au) [] aU af aT->dk v u->Q v af->Dv h aAw aAx H s Q u aT:=
  λ{aU af v u} b j q=>(v,af,b.os,b.a3,b.S,b.R,j,q)
 cases b1 with
 |ret u=>
  let(v,aU,af,b,j,q):=aw;show fin b j q
 |next=>
  let(aU,af,b,q):=aw;show fin (v:=V.a0) b aa q
 |brk=>
  let(_,_,_,q):=aw;show lh q
 |cont=>
  let(_,_,_,q):=aw;show lh q
section
variable[bz]{C:bW}{x:E}{p:iK}{e:dD}{bf:#[dD]}{t:gP}{hy T:oT}{r:#[V]->ap->ca->Prop}
def KV(r:#[V]->ap->ca->Prop)(t:gP):bT:=λD H Q=>t D H λvs al=>r vs al Q
def mW(h:qk C (ju hy) r)(a1:jV C x)(a2:aAy x=M)(a3:BV x=Y (ju hy))(a4:jU C (e::bf) t)(a5:autoParam (x≠"__name__") r_1)(a6:autoParam ((x==("__debug__":E))=aX) r_1)
 (a7:autoParam (er (e::bf) C.K=(aX,dx e C.K)::er bf C.K) r_5)(a8:autoParam ((h' bj<|er bf C.K).any (·.1)=aX) r_5):bn C (gw (ge x p) (e::bf) [] bj)<|KV r t:=by
 intro am s D H Q b d;show vQ<|xW b a1 a2 a3 (aAc (a4.K bj b d λf g vs al i j l=>h am g D al vs f Q i j l) a7 a8) a5 a6
def Ar(h:qk C (cF T) r)(a1:jV C x)(a2:aAy x=M)(a3:BV x=Y (cF T))(a4:jU C (e::bf) t)(a5:autoParam (x≠"__name__") r_1)(a6:autoParam ((x==("__debug__":E))=aX) r_1)
 (a7:autoParam (er (e::bf) C.K=(aX,dx e C.K)::er bf C.K) r_5)(a8:autoParam ((h' bj<|er bf C.K).any (·.1)=aX) r_5):bn C (gw (ge x p) (e::bf) [] bj)<|KV r t:=by
 intro am s D H Q b d;show vQ<|xW b a1 a2 a3 (Aa (a4.K bj b d λf g vs al i j l=>h am g D al vs f Q i j l) a7 a8) a5 a6
end
noncomputable def hH:#[N]->#[N]->dq|[],[]=>aX|[],_::_=>J|_::_,[]=>aX|x::xs,y::cv=>if x=y then hH xs cv else bp (x<y)
theorem wg(x y:N)(xs cv:#[N]):hH (x::xs) (y::cv)=if x=y then hH xs cv else bp (x<y):=rfl
def ajj(A:vx)(s:cQ)(a:N)(t:nl)(c:N)(u:nl):∃e,He A s (ew a t) (ew c u) e/\(e=J↔a=c):=
 ((a==c),Ab a t c u,bi_ieq)
def ajk(A:vx)(s:cQ)(a:N)(t:nl)(c:N)(u:nl)(eR:fs)(w:hC)(au:bc->cQ->Prop)(Q:bc->cQ->Prop)(d:Q (ic<|bp<|a<c) s):
  bP (b' eR w) A (richCompare .Lt (ew a t)<|ew c u) Q au s:=
 (awb d:bP (b' eR w) A (jt .Lt (ew a t)<|ew c u) Q au s)
section
open PySem.SeqAt
open PySem.AutoSeq1 (wpAny_loadPart')
open PySem.MeetsSeq PySem.MeetsSeq2 PySem.MeetsSeq3
inductive VA(h a1:O)(aq:dq->Prop)(a2:cQ)(hS:#[bc×bc])(B:bs Ce×Unit)(aT:cQ):Prop|mk(vs dg co b):B.1=M->aT=a2->hS=vs.zip dg->nm vs co->nm dg b->↑co+a1=↑b+h->aq (hH co b)->VA h a1 aq a2 hS B aT
theorem ajl{vs dg co b}(hz:[]=vs.zip dg)(a2:nm vs co)(a1:nm dg b)(h:↑co+a3=↑b+a4):hH co b=bp (a4<a3):=by
 cases a2 with
 |nil=>cases a1 with|nil=>show(iv<|by simp at h;omega).symm|cons=>show(hp<|by simp at h;omega).symm
 |cons=>cases a1 with|nil=>show(iv<|by simp at h;omega).symm|cons=>cases hz
def ajm(l B:L)(a1 a2:gv bc)(n a5:O)(a6 a7:bs L)(dU a8:gv<|bs bc)(co a3:#[N])(aR:nm a1.toList co)(a4:nm a2.toList a3):
  Meets (Builtin.«tuple.__lt__» ([I l,I B],[]))
  <|λ_ ax s=>s.heap.get? l=Y {cls:=cF "tuple",dict:=a6,data:=fp a1 n,slots:=dU}/\s.heap.get? B=Y {cls:=cF "tuple",dict:=a7,data:=fp a2 a5,slots:=a8}/\
    ax (mm<|pT<|ic<|hH co a3) s:=
 .of_wp λeR w A ax s d=>by
  let(o,p,d):=d;let b1:=AutoSeq1.sub_tuple_tuple;let b2:a1.size=↑co:=by rw[<- aR.length];show awe
  let b3:a2.size=↑a3:=by rw[<- a4.length];show awe
  wp_walk using wpAny_loadPart' o,wpAny_loadPart' p,avQ _ (VA a1.size a2.size (λv=>ax (mm<|pT<|ic v) s) s) _
  case turn=>
   rintro⟨y,x⟩ hS B aT ⟨vs,dg,T,U,j,e,hz,f,g,i,b⟩;subst e
   cases f with
   |nil=>cases hz
   |cons a t V=>
    cases g with
    |nil=>cases hz
    |cons c u a0=>
     cases hz;simp at i;let(e,a9,m):=ajj A.in1 aT a t c u;show bq<|a9 eR w _ _ ?_
     cases e with
     |true=>
      wp_walk;show .mk _ _ _ _ aa aa aa V a0 (by omega)<|(bK<|m.1 aa).symm.trans (wg ..).symm▸b
     |false=>
      rw[wg,be<|λq=>bB (m.2 q) gh]at b;let b0:=ajk A.in1 aT a t c u eR w;wp_walk using b0;show(_,aa,‹b›)
  case fin=>
   rintro⟨b4,b5⟩ aT ⟨vs,dg,T,U,j,e,hz,f,g,i,b⟩;subst j e;rw[ajl hz f g i]at b;wp_walk;show(_,aa,by simpa [aAd]using b)
  case h=>
   show .mk _ _ _ _ aa aa aa aR a4 (by omega) d
end
section
variable{eR:fs}
def ajn{l B b h co}(a2:oU s.heap l b)(a3:oU s.heap B h)(aR:nm b.toList co)(a4:nm h.toList a1)
 (a5:A.units<it)(d:Q (ic<|hH co a1) s):bP (b' eR w) A (jt .Lt (I l)<|I B) Q au s:=by
 exists o;let((oF,p,U,dU),e,f,n,g):=id a2;let((V,q,data2,v),i,j,T,m):=id a3;simp only at f g j m;subst f g j m;show o<|richCompare_meets_room (op:=.Lt) (_,e,aa) (_,i,aa) PySem.F.slot_tuple_lt PySem.F.entry_tuple_lt (PySem.F.args_tuple_lt_2 _ _) (ajm l B b h n T p q dU v co a1 aR a4)
  (e,i,((λx=>(by cases x)),d)) a5
def ajo{t B vs dg}(a1:oU s.heap t vs.toArray)(a2:oU s.heap B dg.toArray)(h:vs≠[])
 (ab:dg=[]->Q (I t) s)(ag:dg≠[]->Q (I s.heap.objs.size) {s with heap:=s.heap.push {cls:=cF "tuple",data:=fp (vs++dg).toArray}})
 (hsz:↑vs+↑dg<=ch):bP (b' eR w) A (Ca wZ (I t)<|I B) Q au s:=by
 let((oF,i,a3,dU),b,j,n,l):=id a1;let((x,m,data2,o),f,p,q,v):=id a2;simp only at j l p v;subst j l p v;let e:vs.toArray++dg.toArray=(vs++dg).toArray:=by show CC vs dg
 by_cases g:dg=[]
 .show concat_meets (_,b,aa) (_,f,aa) awf seq_tuple_add awg awh (awi _ _)
   (tuple_addW1 t B vs.toArray dg.toArray n q i m dU o ‹h›<|by simp[g]) (b,f,ab g)
 .show concat_meets (_,b,aa) (_,f,aa) awf seq_tuple_add awg awh (awi _ _)
   (tuple_addW2 t B vs.toArray dg.toArray n q i m dU o ‹h› (by simp_all)<|Ta hsz) (b,f,?_);rw[e];show ag g
noncomputable def dn(n ae:O):bs N->O|M=>ae|Y v=>if v<0 then(v+(n:N)).toNat else pS v.toNat n
theorem KW(n ae:O):dn n ae M=ae:=rfl
theorem sc(n ae k:O):dn n ae (Y (k:N))=pS k n:=by
 rfl
def VB(n ae:O)(h:ae<=n)(o:bs N):dn n ae o<=n:=by
 cases o with
 |none=>show h
 |some v=>
  change(if v<0 then(v+(n:N)).toNat else pS v.toNat n)<=n;by_cases b:v<0;.rw[bK b];lia
  .rw[be b];show awj _ _
def VC(v:N)(n ae:O):(if v<0 then max (v+(n:N)) 0 else pS v (n:N))=((dn n ae<|Y v:O):N):=by
 change(if v<0 then max (v+(n:N)) 0 else pS v (n:N))=(((if v<0 then(v+(n:N)).toNat else pS v.toNat n):O):N);grind
def ajp(bQ aR:bs N)(n:O):aAe bQ aR 1 (n:N)=(((dn n 0 bQ:O):N),((dn n n aR:O):N)):=by
 show pc ?_ ?_
 .cases bQ with|none=>rfl|some v=>show VC v n 0
 .cases aR with|none=>rfl|some v=>show VC v n n
def ajq(i j:O):awk (i:N) (j:N) 1=j - i:=by
 delta awk;simp;split<;>lia
def VD{v o}(p:sH v o)(d:Q o s):bP (b' eR w) A (aAf v) Q au s:=by
 cases p with|none=>show slicePart_none d|int i t=>show slicePart_int d
def VF{dU:L}{b h:bc}{bQ aR:bs N}{n:O}{Q:N×N×O->cQ->Prop}(aw:s.heap.IsSliceOf dU b h go)(a1:sH b bQ)(a2:sH h aR)
 (d:Q (((dn n 0 bQ:O):N),1,dn n n aR - dn n 0 bQ) s):bP (b' eR w) A (aAg (I dU)<|gt (n:N)) Q au s:=by
 let(os,e,g,f):=id aw;show bq<|bq<|agf e f (x:=b) aa<|bq<|agf e f (x:=h) aa<|bq<|agf e f (x:=go) aa<|c_<|bq<|slicePart_none ?_;rw[be ⋯];show bq<|VD a1<|bq<|VD a2<|bq<|c_ ?_;simp_all [ajp,ajq,c_]
theorem ajr(xs:gv bc)(i k:O):((oS k).filterMap λ(m:O)=>xs[((i:N)+(m:N)*1).toNat]?).toArray=((xs.toList.drop i).take k).toArray:=by
 let e:(λ(m:O)=>xs[((i:N)+(m:N)*1).toNat]?)=λm=>xs[i+m]? :=by
  funext m;have:((i:N)+(m:N)*1).toNat=i+m:=by lia
  rw[this]
 rw[e];have:=pick_run xs i k;rw[awl]at this;let b:((λx=>xs[x]?)∘λx=>i+x)=λm=>xs[i+m]? :=aa;rw[b]at this;rw[this]
def ajs{t dU b bQ}(h:oU s.heap t b)(aw:s.heap.IsSliceOf dU a1 a2 go)(a3:sH a1 bQ)(a4:sH a2 aR)
 (a5:¬(dn b.size 0 bQ=0/\dn b.size b.size aR=b.size))
 (d:Q (I s.heap.objs.size) {s with heap:=s.heap.push {cls:=cF "tuple",data:=fp ((b.toList.drop<|dn b.size 0 bQ).take<|dn b.size b.size aR - dn b.size 0 bQ).toArray}})
 (hsz:b.size<=ch):bP (b' eR w) A (rF (I t)<|I dU) Q au s:=by
 let e:=by
  change((b.toList.drop<|dn b.size 0 bQ).take<|dn b.size b.size aR - dn b.size 0 bQ).toArray.size<=ch;rw[jw,iQ,sV,sS];omega
 let(os,f,g,l):=id aw;delta rF;try with_reducible show qb ?_
 first|show bq<|c_ ?_|skip
 show bq<|agg h.typeIs ⋯<|bq<|zD h.typeIs uy
 <|rS uy h.typeIs awm ?_<|awn _ _;change bP _ _ (afC (I t)>>=_) _ _ s;show bq<|tupleItemsOf_ h<|bq<|agh ((os,f,g)) ?_;rw[bK ⋯];show bq<|VF aw a3 a4 ?_;let i:¬((((dn b.size 0 bQ:O):N)==0&&(1:N)==1&&(dn b.size b.size aR - dn b.size 0 bQ)==b.size)=J):=by
  intro q;rw[fV,fV]at q;let j:=oV q.1.1;let m:=oV q.2;show a5 (Int.ofNat_eq_zero.1 j,by omega)
 change bP _ _ (if(((dn b.size 0 bQ:O):N)==0&&(1:N)==1&&(dn b.size b.size aR - dn b.size 0 bQ)==b.size)=J then _ else _) _ _ s;rw[be i,ajr];first
  |show bq<|sW (c_ (_,aa,c_ d)) e
  |show bq<|sW (bq<|c_<|c_ (_,aa,c_ d)) e
  |show bq<|bq<|sW (c_<|c_ (_,aa,c_ d)) e
  |show bq<|bq<|sW (c_ (_,aa,c_ d)) e
end
abbrev As:=ck->ap->(bs N->ap->Prop)->Prop
def Dx[bz](C:bW)(e:bs dD)(t:As):Prop:=
 ∀am s D H Q,aS C am D H s->t D H Q->
  bP (b' aAw aAx) C.R (evalPart e C.K) (λu aT=>∃o af,aS C am D af aT/\sH u o/\Q o af) C.S s
def ajt:As:=λ_ H Q=>Q M H
inductive VG(Q:bs N->ap->Prop)(x:V)(al:ap):Prop|mk(i:_):(x=.R i)->(Q (Y i) al)->VG Q x al
def KX(t:bT):As:=λD H Q=>t D H λx al=>VG Q x al
def Dy{co}:∀{b},dm (co.map V.R) b->nm b co:=by
 induction co with
 |nil=>intro b r;rw[sX]at r;cases r;show .nil
 |cons n co e=>
  intro b r;rw[fg]at r
  cases r with
  |cons f g=>
   let(t,rfl):=f;show .cons n t<|e g
section
variable[bz]{C:bW}{e:dD}{ej:bT}{bQ aR:bs dD}{t' wQ:As}{eG:iK}
def yl:Dx C M ajt:=by
 intro am s D H Q b d;rw[evalPart_none];show c_ (M,H,b,.none,d)
def sd(d:bn C e ej):Dx C (Y e)<|KX ej:=by
 intro am s D H Q b f;rw[evalPart_some];show d.K b f λu l x al g h j=>?_;let(i,rfl,q):=j;let(t,rfl):=h;show(Y i,al,g,.int i t,q)
def Au[bz](C:bW)(r:V->bs N->bs N->ap->ca->Prop):Prop:=
 ∀am s D H x v b e bQ aR dU Q,aS C am D H s->dk x v->s.heap.IsSliceOf dU b e go->sH b bQ->sH e aR->r x bQ aR H Q->
  ∃T hy,typeLookup (cF T) "__getitem__"=gt (Y<|ju hy)/\s.TypeIs v T/\bP (b' aAw aAx) C.R (rF v<|I dU) (lR C am D Q) C.S s
def VH(r:V->bs N->bs N->ap->ca->Prop)(ej:bT)(t' wQ:As):bT:=λD H Q=>ej D H λx al=>t' D al λl aH=>wQ D aH λu b=>r x l u b Q
def uH{r}(a1:Au C r)(a2:bn C e ej)(a3:Dx C bQ t')(a4:Dx C aR wQ):bn C (sB e (.Slice bQ aR M eG) bj)<|VH r ej t' wQ:=by
 intro am s D H Q j d;show agi<|a2.K j d λv m x al o p w=>wpAny_Slice<|fR (a3 am m D al _ o w) λf A g=>?_;let(l,aH,U,V,a0):=g;show fR (a4 am A D aH _ U a0) λh b g=>?_;let(u,i,a5,a6,a7):=g;rw[evalPart_none];show c_ ?_;let a8:aS C am D i {b with heap:=b.heap.push {cls:=cF "slice",data:=qV #[f,h,go]}}:=a5.b0 λB b2 q=>hr _ q;let(T,hy,a9,b0,b1):=a1 am {b with heap:=b.heap.push {cls:=cF "slice",data:=qV #[f,h,go]}} D i x v f h l u b.heap.objs.size Q a8 p (aAh ..) V a6 a7;show tail_any b0 a9 b1<|by rfl
noncomputable def rh(xs:#[V])(bQ aR:bs N):#[V]:=(xs.drop<|dn ↑xs 0 bQ).take<|dn ↑xs ↑xs aR - dn ↑xs 0 bQ
def VK(xs:#[V])(bQ aR:bs N):↑(rh xs bQ aR)<=↑xs:=by
 delta rh;rw[iQ,sV];lia
def aju(aA:eh):V->bs N->bs N->ap->ca->Prop:=λx bQ aR H Q=>∃a xs,x=.K a/\lT aA H a xs/\
 ¬(dn ↑xs 0 bQ=0/\dn ↑xs ↑xs aR=↑xs)/\∀p,H p=M->Q (.K p) (a' H p<|.R<|rh xs bQ aR)
def ajv:Au C<|aju aAv:=by
 intro am s D H x v m o bQ aR dU Q b bC aw g h d;exists i;let(a,xs,rfl,j,l,q):=d;cases bC;let(bh,r,f,hz):=b.b2 j;let e:=jw▸r.length.symm;show i ("tuple",_,uy.lookup,f.typeIs,ajs f aw g h (e▸l) ?_<|e▸hz);rw[e];show(.K s.heap.objs.size,_,b.b1 (λB p q=>hr _ q) dw ?_,aa,q _<|b.R.K dw);show(db (VK xs bQ aR) hz,_,(r.a0<|dn ↑xs 0 bQ).X<|dn ↑xs ↑xs aR - dn ↑xs 0 bQ,agj _ _)
def ajw(aA:eh):lu:=λx y H Q=>∃a B xs cv,x=.K a/\y=.K B/\lT aA H a xs/\lT aA H B cv/\xs≠[]/\↑xs+↑cv<=ch/\
 (cv=[]->Q (.K a) H)/\(cv≠[]->∀p,H p=M->Q (.K p) (a' H p<|.R<|xs++cv))
theorem dm.a1(r:dm xs b):b=[]↔xs=[]:=by
 cases r with|nil=>show(iff_true_right aa).mpr aa|cons _ _=>simp
def ajx:hV C (Ca wZ)<|ajw aAv:=by
 intro am s D H x y v u Q b bC g d;exists h;let(a,B,xs,cv,rfl,rfl,i,j,l,hz,m,o):=d;cases bC;cases g;let(bh,f,p,_):=b.b2 i;let(A,e,eG,_):=b.b2 j;show h (ajo p eG (λz=>l<|f.a1.1 z) (λz=>(.K a,H,b,aa,m<|e.a1.1 z)) (λz=>(.K s.heap.objs.size,_,b.b1 (λB T q=>hr _ q) dw ?_,aa,o (λw=>z<|e.a1.2 w) _<|b.R.K dw)) (by rwa [<- f.length,<- e.length]));show(cW▸hz,_,f.R e,agj _ _)
end
noncomputable def pj(n:O)(i:N):bs O:=if 0<=i then(if i<n then Y i.toNat else M)else if -(n:N)<=i then Y (i+n).toNat else M
noncomputable def oj{α:Type}(xs:#[α])(i:N):bs α:=(pj ↑xs i).bind λj=>xs[j]?
def VP{n i j}(d:pj n i=Y j):seqIndex? i n=Y j/\j<n/\ -(n:N)<=i/\i<n:=by
 unfold pj at d;by_cases b:0<=i
 .rw[bK b]at d;by_cases ab:i<n;.rw[bK ab]at d;let e:=hq d;show(by rw[agk b ab,e],by lia,by lia,ab)
  .rw[be ab]at d;cases d
 .rw[be b]at d;by_cases ab: -(n:N)<=i;.rw[bK ab]at d;let e:=hq d;show(by rw[agl (zF b) ab,e],by lia,ab,by lia)
  .rw[be ab]at d;cases d
def KZ{xs:#[α]}{i:N}{v:α}(d:oj xs i=Y v):∃j,seqIndex? i ↑xs=Y j/\xs[j]? =Y v/\j<↑xs/\ -(↑xs:N)<=i/\i<↑xs:=by
 delta oj at d
 cases e:pj ↑xs i with
 |none=>simp_all
 |some j=>
  rw[e]at d;let(ab,ag,b,f):=VP e;show(j,ab,d,ag,b,f)
def lU{xs:#[α]}{j:O}{v:α}(d:xs[j]? =Y v):oj xs (j:N)=Y v:=by
 let b:=(ff.1 d).1;let e:pj ↑xs (j:N)=Y j:=by
  delta pj;simp_all
 delta oj;rwa [e]
def Dz(xs:#[α])(v:α):oj (xs++[v]) (-1)=Y v:=by
 let b:↑(xs++[v])=↑xs+1:=by simp
 let e:pj ↑(xs++[v]) (-1)=Y ↑xs:=by
  delta pj;rw[b,be ⋯,bK<|Rat.intCast_le_intCast.1 aa];congr 1;lia
 delta oj;rw[e];simp
def K_(B:dD):Prop:=∀o i,Tb B aX o i=operate [o,i] (rF o i)
def wh[bz](C:bW)(r:lu):Prop:=
 ∀iG b am s D H x y v u Q,aS C am D H s->dk x v->dk y u->r x y H Q->
  Tb b aX v u=operate [v,u] (rF v u)->bP (b' aAw aAx) C.R (subscriptTail iG b v u) (lR C am D Q) C.S s
def se[bz](C:bW)(hy:oT)(r:V->#[V]->ap->ca->Prop):Prop:=
 ∀am s D H x xs v b Q,aS C am D H s->dk x v->dm xs b->r x xs H Q->
  bP (b' aAw aAx) C.R (qX (ju hy)<|v::b) (lR C am D Q) C.S s
section
variable[bz]{C:bW}{a B:dD}{bt cd:bT}
def fW{r}(b:wh C r)(h:bn C a bt)(a1:bn C B cd)(aw:K_ B):bn C (sB a B bj)<|uF r bt cd:=by
 intro am s D H Q e d;show agi<|KD h a1 e d λv u f x y aH g bC i q=>b a B am f D aH x y v u Q g bC i q<|aw _ _
inductive VQ(aA:eh)(x:V)(y:V)(H:ap)(Q:ca):Prop|mk(p:_)(xs:_)(i:_)(v:_):(x=.K p)->(y=.R i)->(fa aA H p xs)->(oj xs i=Y v)->(Q v H)->VQ aA x y H Q
def ajy(aA:eh):lu:=λx y H Q=>VQ aA x y H Q
inductive VR(aA:eh)(x:V)(y:V)(H:ap)(Q:ca):Prop|mk(p:_)(xs:_)(i:_)(v:_):(x=.K p)->(y=.R i)->(lT aA H p xs)->(oj xs i=Y v)->(Q v H)->VR aA x y H Q
def VS(aA:eh):lu:=λx y H Q=>VR aA x y H Q
inductive VT(x:V)(y:V)(H:ap)(Q:ca):Prop|mk(z:_)(i:_)(c:_):(x=.S z)->(y=.R i)->(z.length<=ch)->(oj z.cps.toList i=Y c)->(Q (.S ⟨[c].toArray⟩) H)->VT x y H Q
def ajz:lu:=λx y H Q=>VT x y H Q
def kQ:wh C<|ajy aAv:=by
 intro iG a0 am s D H x y v u Q g bC l d aw;let(p,xs,i,z,rfl,rfl,m,o,q):=d;cases bC;let(t,rfl):=l;let(bh,r,e,hz):=g.a1 m;let(j,ab,ag,a1,A,T):=KZ o;let(w,h,U):=r.K ag;let V:=r.length;let a2:=yd;let fin:lR C am D Q w s:=(z,H,g,U,q);by_cases b:0<=i
 .let f:=by
   rw[agk b T]at ab;show hq ab
  show item_listR e.isList b (by lia) (by rw[f];simpa using h) fin aw
 .let f:(i+(bh.toArray.size:N)).toNat=j:=by
   rw[agl (zF b) A]at ab;rw[jw,<- V];show hq ab
  show awo e.isList.typeIs awp.lookup
   (wpAny_getItem_list_neg e.isList (zF b) (by rw[jw]<;>lia) (by lia) (by rw[f];simpa using h) (aa,fin)) aw
def kR:wh C<|VS aAv:=by
 intro iG A am s D H x y v u Q b bC f d aw;exists g;let(p,xs,i,z,rfl,rfl,h,l,q):=d;cases bC;let(t,rfl):=f;let(bh,r,e,hz):=b.b2 h;let(j,ab,ag,T,U,V):=KZ l;let(w,m,o):=r.K ag;let a0:=yd;show g<|awo e.typeIs uy.lookup
  (getItem_tuple e (by lia) (by lia) (by rwa [jw,<- r.length]) ‹m› (aa,((z,H,b,o,q)))) aw
def VU:wh C ajz:=by
 intro iG o am s D H x y v u Q b bC e d aw;exists f;let(z,i,c,rfl,rfl,hz,g,q):=d;let(t,rfl):=bC;let(cZ,rfl):=e;let(j,ab,ag,p,h,l):=KZ g;let m:↑z.cps.toList=z.length:=by simp[Str.length]
 rw[m]at ab h l;let w:=yd;show f<|tail_any (Hp s z t) slot_str_getitem.lookup (getItem_str (by
  lia) (by rw[ab];simpa using ag) (.S ⟨[c].toArray⟩,H,b.X _,(_,aa),q)) aw
def ajA(bh:#[bc])(n j:O)(u:bc):sK (·.setIfInBounds j u) {cls:=cF "list",data:=fp bh.toArray n}={cls:=cF "list",data:=fp (bh.set j u).toArray n}:=by
 simp[sK]
def aS.f3{am:#[L×hn]}{D:ck}{H:ap}{s p xs}(b:aS C am D H s)(d:H p=Y (.K xs)):
  ∃(bh:#[bc])(n:O),dm xs bh/\s.heap.get? p=Y {cls:=cF "list",data:=fp bh.toArray n}/\↑xs<=ch:=by
 let(z,bh,n,r,e):=b.R p _ d;show(bh,n,r,e,z)
def aS.f4{D:ck}{H:ap}{p:L}{xs cv:#[V]}{bh qP:#[bc]}{n iX:O}{f:hn->hn}(h:aS C am D H s)(d:H p=Y (.K xs))
 (f7:s.heap.get? p=Y {cls:=cF "list",data:=fp bh.toArray n})(b:f {cls:=cF "list",data:=fp bh.toArray n}={cls:=cF "list",data:=fp qP.toArray iX})(r:dm cv qP)(hz:↑cv<=ch)(t:O):
  aS C am D (a' H p<|.K cv) {s with heap:=s.heap.update p f,toks:=t}:=by
 let e:(s.heap.update p f).get? p=Y {cls:=cF "list",data:=fp qP.toArray iX}:=by
  rw[agm f f7<|by rw[b]<;>rfl,b]
 show h.b7 (by rw[d];trivial) (aQ aa) (λB u g q=>(awq _ _<|mT g).trans q) (_,e) ?_;show(hz,qP,iX,r,e)
def K':V->V->V->ap->(ap->Prop)->Prop:=λo i v H Q=>∃p xs k j,o=.K p/\i=.R k/\H p=Y (.K xs)/\pj ↑xs k=Y j/\Q (a' H p<|.K<|xs.set j v)
def DA:US C K':=by
 intro am s D H o i v a0 a1 u Q h w x A d;let(p,xs,k,j,rfl,rfl,l,T,q):=d;cases w;let(t,rfl):=x;let(bh,n,r,e,hz):=h.f3 l;let(ab,ag,U,V):=VP T;let f:=r.length;let a2:=yd;let m:=
  h.f4 l e (ajA bh n j u) (r.a4 A j) (by rwa [Tc]) s.toks;by_cases b:0<=k
 .let g:=by
   rw[agk b V]at ab;show hq ab
  show PySem.W.ki_setAt e b (by lia) (by rwa [jw,<- f])<|by rw[g];show(_,m,q)
 .let g:(k+(bh.toArray.size:N)).toNat=j:=by
   rw[agl (zF b) U]at ab;rw[jw,<- f];show hq ab
  show PySem.W.ki_setBack e (zF b) (by rwa [jw,<- f]) (by lia)<|by rw[g];show(_,m,q)
def ajB(bQ aR:bs N)(n:O):(zl bQ aR M n).1=((dn n 0 bQ:O):N)/\(zl bQ aR M n).2.1=((dn n n aR:O):N)/\(zl bQ aR M n).2.2=1:=by
 show(?_,?_,aa)
 .cases bQ with
  |none=>simp[zl,dn]
  |some i=>
   dsimp only[zl,dn,awr,xf];by_cases d:i<0;.simp only[d,xf]<;>lia
   .simp only[d,Hq]<;>lia
 .cases aR with
  |none=>simp[zl,dn]
  |some i=>
   dsimp only[zl,dn,awr,xf];by_cases d:i<0;.simp only[d,xf]<;>lia
   .simp only[d,Hq]<;>lia
theorem ajC(bh:#[bc])(bQ aR:bs N):slicePick bh.toArray bQ aR M=((bh.drop<|dn ↑bh 0 bQ).take<|dn ↑bh ↑bh aR - dn ↑bh 0 bQ).toArray:=by
 let(ab,ag,b):=ajB bQ aR bh.toArray.size;delta slicePick;rw[ab,ag,b];simp only[sliceRange_one,pick_run,jw]<;>rfl
def ajD(aA:eh):V->bs N->bs N->ap->ca->Prop:=λx bQ aR H Q=>∃a xs,x=.K a/\fa aA H a xs/\∀p,H p=M->Q (.K p) (a' H p<|.K<|rh xs bQ aR)
def VV:Au C<|ajD aAv:=by
 intro am s D H x v l m bQ aR dU Q b bC aw f g d;exists h;let(a,xs,rfl,i,q):=d;cases bC;let(bh,r,e,hz):=b.a1 i;let j:=r.length;show h ("list",_,awp.lookup,e.isList.typeIs,wpAny_getItem_list_slice e.isList aw f g .none (mT<|Option.some_ne_none 0) ?_<|by simp_all);rw[ajC,<- j];show(.K s.heap.objs.size,_,b.b1 (λB o q=>hr _ q) dw ?_,aa,q _<|b.R.K dw);show(db (VK xs bQ aR) hz,_,0,(r.a0<|dn ↑xs 0 bQ).X<|dn ↑xs ↑xs aR - dn ↑xs 0 bQ,jf _ aa)
noncomputable def qm:V->dq|.a0=>J|.X _=>J|.R _=>J|.S _=>J|_=>aX
noncomputable def ri:V->V->dq|.a0,.a0=>J|.X a,.X B=>a==B|.X a,.R B=>(if a then 1 else 0)==B|.R a,.X B=>a==(if B then 1 else 0)|.R a,.R B=>a==B|.S a,.S B=>a==B|_,_=>aX
def ajF{A s x v}(b:dk y u)(bC:dk x v)(a1:qm y=J)(h:qm x=J):He A s u v<|ri y x:=by
 cases y with
 |a0=>
  cases b
  cases x with|a0=>cases bC;show avF _|X B=>cases bC;show SeqAt.EqAt.none_bool B|R B=>let(t,rfl):=bC;show SeqAt.EqAt.none_int B t|S B=>let(t,rfl):=bC;show SeqAt.EqAt.none_str B t|_=>show bB (h) gh
 |X a=>
  cases b
  cases x with|a0=>cases bC;show SeqAt.EqAt.bool_none a|X B=>cases bC;show aws a B|R B=>let(t,rfl):=bC;show SeqAt.EqAt.bool_int a B t|S B=>let(t,rfl):=bC;show SeqAt.EqAt.bool_str a B t|_=>show bB (h) gh
 |R a=>
  let(cZ,rfl):=b
  cases x with|a0=>cases bC;show SeqAt.EqAt.int_none a cZ|X B=>cases bC;show SeqAt.EqAt.int_bool a cZ B|R B=>let(t,rfl):=bC;show Ab a cZ B t|S B=>let(t,rfl):=bC;show avB a cZ B t|_=>show bB (h) gh
 |S a=>
  let(cZ,rfl):=b
  cases x with|a0=>cases bC;show SeqAt.EqAt.str_none a cZ|X B=>cases bC;show SeqAt.EqAt.str_bool a cZ B|R B=>let(t,rfl):=bC;show avC a cZ B t|S B=>let(t,rfl):=bC;show SeqAt.EqAt.str_str a cZ B t|_=>show bB (h) gh
 |_=>show bB (a1) gh
noncomputable def mr(x:V)(u:bc):dq:=match u with|go=>ri .a0 x|ic B=>ri (.X B) x|ew i _=>ri (.R i) x|nk z _=>ri (.S z) x|_=>aX
theorem Pa{x}(r:dk y u)(f:qm y=J):mr x u=ri y x:=by
 cases y with|a0=>cases r;rfl|X B=>cases r;rfl|R i=>let(t,rfl):=r;rfl|S z=>let(t,rfl):=r;rfl|_=>show bB (f) gh
theorem DB{x}:∀{xs b},dm xs b->xs.all qm=J->b.any (mr x)=xs.any λy=>ri y x:=by
 intro xs b d
 induction d with
 |nil=>intro;rfl
 |cons r t e=>
  intro f;rw[uo,fV]at f;rw[xv,xv,Pa r f.1,e f.2]
def Av{A s x v}(bC:dk x v)(a1:qm x=J){xs h}(d:dm xs h)(f:xs.all qm=J)(u)(b:u>h):He A s u v<|mr x u:=by
 induction d with
 |nil=>cases b
 |cons r t e=>
  rw[uo,fV]at f;let rfl||b:=cc.1 b;.rw[Pa r f.1];show ajF r bC f.1 a1
  .show e f.2 b
noncomputable def uK(x:V)(xs:#[V]):dq:=xs.any λy=>ri y x
inductive VW(aA:eh)(b:dq)(x:V)(y:V)(H:ap)(Q:ca):Prop|mk(p:_)(xs:_):(y=.K p)->((fa aA H p xs∨lT aA H p xs))->(qm x=J)->(xs.all qm=J)->(Q (.X<|if b then !uK x xs else uK x xs) H)->VW aA b x y H Q
def Pb(aA:eh)(b:dq):lu:=λx y H Q=>VW aA b x y H Q
def ajG:hV C (jt .In)<|Pb aAv aX:=by
 intro am s D H x y v u Q e bC i d;let(p,xs,rfl,b,h,ah,q):=d;cases i;let b||b:=b;.let(bh,r,f,hz):=e.a1 b;show awt (mr x) f.isList (λw g=>Av bC h r ah w<|‹g›) (.X _,H,e,aa,?_);rwa [show bh.toArray.any (mr x)=bh.any (mr x)from zG,DB r ah]
 .let(bh,r,f,hz):=e.b2 b;show SeqAt.in_tupleAt (mr x) f (λw g=>Av bC h r ah w<|‹g›) (.X _,H,e,aa,?_);rwa [show bh.toArray.any (mr x)=bh.any (mr x)from zG,DB r ah]
def VX:hV C (jt B_)<|Pb aAv J:=by
 intro am s D H x y v u Q e bC i d;let(p,xs,rfl,b,h,ah,q):=d;cases i;let b||b:=b;.let(bh,r,f,hz):=e.a1 b;show SeqAt.notIn_listAt (mr x) f.isList (λw g=>Av bC h r ah w<|‹g›) (.X _,H,e,aa,?_);rwa [show bh.toArray.any (mr x)=bh.any (mr x)from zG,DB r ah]
 .let(bh,r,f,hz):=e.b2 b;show SeqAt.notIn_tupleAt (mr x) f (λw g=>Av bC h r ah w<|‹g›) (.X _,H,e,aa,?_);rwa [show bh.toArray.any (mr x)=bh.any (mr x)from zG,DB r ah]
def Aw:qk C (ju "len")<|λxs H Q=>∃p cv,xs=[.K p]/\(fa aAv H p cv∨lT aAv H p cv)/\Q (.R ↑cv) H:=by
 intro am s D H xs i Q e r d;let(p,cv,rfl,b,q):=d;obtain⟨u,rfl,⟨⟩⟩:=ye r;let j:=yd;let b||b:=b;.let(bh,f,g,hz):=e.a1 b;let h:=f.length;show Calls.call_len_list g.isList (by simp<;>lia) (.R ↑cv,H,e.X _,(s.toks+1,by rw[jw,h]),q)
 .let(bh,f,g,hz):=e.b2 b;let h:=f.length;show len_tuple g (by simp<;>lia) (.R ↑cv,H,e.X _,(s.toks+1,by rw[jw,h]),q)
def ym:qk C (ju "len")<|λxs H Q=>∃z,xs=[.S z]/\z.length<=ch/\Q (.R z.length) H:=by
 intro am s D H xs e Q b r d;let(z,rfl,hz,q):=d;let(u,rfl,t,rfl):=ye r;let f:=yd;show len_str (by lia) (.R z.length,H,b.X _,(_,aa),q)
def ajH:qk C (cF "tuple")<|λxs H Q=>∃p cv,xs=[.K p]/\((fa aAv H p cv/\∀l,H l=M->Q (.K l) (a' H l<|.R cv))∨(lT aAv H p cv/\Q (.K p) H)):=by
 intro am s D H xs v Q b r d;let(p,cv,rfl,d):=d;obtain⟨u,rfl,⟨⟩⟩:=ye r;let (f,q)||(f,q):=d
 .let(bh,g,h,hz):=b.a1 f;let w:=g.length;show call_tuple_list h.isList (λbg j=>?_) (by simp<;>lia);let i:=b.b0 (cZ:=s.toks) j;let m:=
   i.b1 (cZ:=s.toks) (λB o e=>hr _ e) dw (show jy aAw aAx _ _ _ (.R cv)from(hz,bh,g,agj _ _));show(.K bg.objs.size,_,m,aa,q _ (i.R.K dw))
 .let(bh,g,h,hz):=b.b2 f;show call_tuple_same h (.K p,H,b,aa,q)
def DC(aA:eh)(T:oT)(x:V)(H:ap):Prop:=match x with
 |.S _=>T="str"
 |.R _=>T="int"
 |.K p=>(T="list" /\∃xs,fa aA H p xs)∨(T="tuple" /\∃o,aA.lookup p=Y o/\o.cls=cF "tuple" /\o.dict=M)∨
   (T="dict" /\((∃aP,H p=Y (.a1 aP))∨∃aP,H p=Y (.X aP)))∨(T="set" /\∃ai n,H p=Y (.a4 ai n))
 |_=>fC
def DD{s T x v}(h:aS C am D H s)(r:dk x v)(ev:DC aAv T x H):
  s.TypeIs v T/\∀a,v=I a->∃a1,s.heap.get? a=Y a1/\a1.dict=M:=by
 cases x with
 |S z=>
  let(t,rfl):=r;cases(ev);show(Hp s z t,λ_ e=>(by cases e))
 |R i=>
  let(t,rfl):=r;cases(ev);show(typeIs_int s i t,λ_ e=>(by cases e))
 |K p=>
  cases r;let (rfl,xs,l)||(rfl,o,b,m,f)||(rfl,b)||(rfl,ai,n,b):=ev;.let(bh,_,j,_):=h.a1 l;show(j.isList.typeIs,λa e=>?_);cases e;let(o,n,e,c,f,_):=j;show(o,e,f)
  .show((o,h.a0 p o b,m),λa e=>?_);cases e;show(o,h.a0 _ o b,f)
  .let z:∃o,s.heap.get? p=Y o/\o.ExactDict:=by
    let (aP,b)||(aP,b):=b;.let(_,_,_,_,o,_,_,e,d',_):=h.R p _ b;show(o,e,d')
    .let(_,_,_,_,o,_,_,e,d',_):=h.R p _ b;show(o,e,d')
   let(o,e,d'):=z;show((o,e,d'.1),λa g=>?_);cases g;show(o,e,d'.2.1)
  .let(o,_,_,_,e,d',_):=h.R p _ b;show((o,e,d'.1),λa g=>?_);cases g;show(o,e,d'.2.1)
 |_=>show lh ev
inductive VZ(aA:eh)(T:oT)(r:V->#[V]->ap->ca->Prop)(Q:ca)(x:V)(al:ap):Prop|mk:DC aA T x al->r x [] al Q->VZ aA T r Q x al
def ajK(aA:eh)(T:oT)(r:V->#[V]->ap->ca->Prop)(jr:bT):bT:=λD H Q=>jr D H λx al=>VZ aA T r Q x al
inductive V_(aA:eh)(T:oT)(r:V->#[V]->ap->ca->Prop)(t:gP)(D:ck)(Q:ca)(x:V)(al:ap):Prop|mk:DC aA T x al->(t D al λxs aH=>r x xs aH Q)->V_ aA T r t D Q x al
def ajP(aA:eh)(T:oT)(r:V->#[V]->ap->ca->Prop)(jr:bT)(t:gP):bT:=λD H Q=>jr D H λx al=>V_ aA T r t D Q x al
variable{o e:dD}{bf:#[dD]}{jr:bT}{t:gP}{gH:E}{fm ks:iK}{T hy:oT}{r:V->#[V]->ap->ca->Prop}
def Pc(h:PlainAttrs T)(a1:Slot T gH hy)(a2:typeOf (ju hy)=gt (cF "method_descriptor"))(a3:se C hy r)(a4:bn C o jr)
 (a5:autoParam (sD o gH C.K (dx o C.K)=dx o C.K) r_5)(a6:autoParam ((fm.endLine==ks.line)=J) r_5):bn C (gw (hU o gH fm) [] [] ks)<|ajK aAv T r jr:=by
 intro am s D H Q f d;show wpAny_Call_method0_late a5 a6<|a4.K f d λv g x al b e i=>?_;exists j;let(ev,l):=i;let(ab,ag):=DD b e ev;show j (T,hy,h,a1,a2,ab,ag,up aa<|awu<|a3 am g D al x [] v [] Q b e ed l)
def tk(h:PlainAttrs T)(a1:Slot T gH hy)(a2:typeOf (ju hy)=gt (cF "method_descriptor"))(a3:se C hy r)(a4:bn C o jr)(a5:jU C (e::bf) t)
 (a6:autoParam (sD o gH C.K (dx o C.K)=dx o C.K) r_5)
 (a7:autoParam (((h' ks<|er (e::bf) C.K).all (λx=>!x.1)&&(sF ks<|sG [] C.K).all (λx=>x.1.isSome)
   &&bp (↑(e::bf)+↑([]:#[ud])+(if([]:#[ud]).isEmpty then 0 else 1)<30))=J) r_5)
 (a8:autoParam ((fm.endLine==ks.line)=J) r_5)(aw:autoParam (er (e::bf) C.K=(aX,dx e C.K)::er bf C.K) r_5)(a9:autoParam ((h' ks<|er bf C.K).any (·.1)=aX) r_5):
  bn C (gw (hU o gH fm) (e::bf) [] ks)<|ajP aAv T r jr t:=by
 intro am s D H Q i d;show agn a6 a7 a8 aa<|a4.K i d λv j x al b f l=>?_;exists m;let(ev,p):=l;let(ab,ag):=DD b f ev;show m (T,hy,h,a1,a2,ab,ag,?_);let g:=a5 ks am j D al _ b p;rw[aw]at g⊢;show up (by change(aX||(h' ks<|er bf C.K).any (·.1))=aX;rw[a9]<;>rfl)<|xw<|fR g<|by rintro q w ⟨vs,aH,A,U,V⟩;show a3 am w D aH x vs v q Q A f U V
end
def Pd[bz](C:bW)(hy:oT)(r:V->#[V]->ap->ca->Prop):Prop:=
 ∀am s D H x xs v b Q,aS C am D H s->dk x v->dm xs b->r x xs H Q->
  bP (b' aAw aAx) C.R (qX (ju hy)<|v::b) (lR C am D Q) C.S s
theorem dm.a2:∀{x b},dm [x] b->∃u,b=[u]/\dk x u:=by
 intro x b d;cases d with|cons r t=>cases t;show(_,aa,r)
theorem dm.a5:∀{b},dm [] b->b=[]|_,ed=>rfl
def dm.a6{xs b}(d:dm xs b):dm xs.dropLast b.dropLast:=by
 induction d with
 |nil=>show ed
 |cons r t e=>
  cases t with|nil=>show ed|cons q cZ=>show eS r e
section
variable[bz]{C:bW}{D:ck}{H:ap}{l B:L}{xs cv fG:#[V]}
theorem aS.b4{bh qP:#[bc]}{n:O}{f:gv bc->gv bc}{cZ:O}(b:aS C am D H s)(h:H l=Y (.K xs))
 (e:s.heap.get? l=Y {cls:=cF "list",data:=fp bh.toArray n})(f7:f bh.toArray=qP.toArray)(f8:dm cv qP)(hz:↑cv<=ch):
  aS C am D (a' H l<|.K cv) {s with heap:=s.heap.update l<|sK f,toks:=cZ}:=by
 let q:=PySem.IsL.update e f;rw[f7]at q;show b.b7 (by rw[h];show⟨⟩) (aQ aa) (λj u g i=>(awq s.heap (sK f)<|mT g).trans i) (_,q) ?_;show(hz,qP,_,f8,q)
def aS.d1{bh}(b:aS C am D H s)(h:dm cv bh)(hz:↑cv<=ch):
  aS C am D (a' H s.heap.objs.size<|.K cv) {s with heap:=s.heap.push {cls:=cF "list",data:=fp bh.toArray},toks:=cZ}:=
 b.b1 (λ_ _ q=>hr _ q) dw (hz,bh,0,h,jf _ aa)
def aS.d2(b:aS C am D H s):H s.heap.objs.size=M:=b.R.K dw
def aS.b3(b:aS C am D H s)(h:H l=Y (.K xs)):↑xs<=ch/\∃(bh:#[bc])(n:O),dm xs bh/\↑xs=↑bh/\s.heap.get? l=Y {cls:=cF "list",data:=fp bh.toArray n}:=by
 let(z,bh,n,r,e):=b.R l _ h;show(z,bh,n,r,r.length,e)
theorem V'{n}(d:n<=ch):ago n=aX:=iv<|np.2 d
end
section
variable[bz]{C:bW}
inductive Wa(x:V)(vs:#[V])(H:ap)(Q:ca):Prop|mk(l:_)(xs:_)(y:_):(x=.K l)->(vs=[y])->(H l=Y (.K xs))->(↑xs<ch)->(Q .a0<|a' H l<|.K<|xs++[y])->Wa x vs H Q
def ajQ:V->#[V]->ap->ca->Prop:=λx vs H Q=>Wa x vs H Q
def Ax:Pd C "list.append" ajQ:=by
 intro am s D H x vs v j Q b bC g d;exists h;let(l,xs,y,rfl,rfl,f,hz,q):=d;cases bC;let(u,rfl,i):=g.a2;let(z,bh,n,r,m,e):=b.b3 f;show h<|Hr v' (_,e,aa) F.entry_list_append (F.args_list_append_2 _ _) (PySem.list_append l bh.toArray n u<|by simp_all) (e,(.a0,_,b.b4 f e (List.push_toArray bh u) (r.R<|eS i ed) ?_,aa,q));rw[cW,afA];show Ta hz
inductive Wb(x:V)(vs:#[V])(H:ap)(Q:ca):Prop|mk(l:_)(B:_)(xs:_)(fG:_):(x=.K l)->(vs=[.K B])->(H l=Y (.K xs))->(H B=Y (.K fG))->(↑xs+↑fG<=ch)->(Q .a0<|a' H l<|.K<|xs++fG)->Wb x vs H Q
def ajR:V->#[V]->ap->ca->Prop:=λx vs H Q=>Wb x vs H Q
def DF:Pd C "list.extend" ajR:=by
 intro am s D H x vs v A Q f bC h d;exists i;let(l,B,xs,fG,rfl,rfl,g,j,hz,q):=d;cases bC;obtain⟨u,rfl,⟨⟩⟩:=h.a2;let(z,bh,n,r,T,e):=f.b3 g;let(U,b,m,o,V,p):=f.b3 j;let hsz:bh.toArray.size+b.toArray.size<=ch:=by simp_all
 let w:¬(!bh.toArray.isEmpty&&ago (bh.toArray.size+b.toArray.size))=J:=by
  rw[V' hsz,xx];show gh
 show i<|Hr wa (_,e,aa) awv (aww _ _)
  (AutoSeq1.list_extend_list_list_0 l bh.toArray n B b.toArray m w (Kb hsz)<|awx hsz) (e,p,(.a0,_,f.b4 g e (CC bh b) (r.R o) ?_,aa,q));simp_all
inductive Wc(x:V)(vs:#[V])(H:ap)(Q:ca):Prop|mk(l:_)(xs:_)(y:_):(x=.K l)->(vs=[])->(H l=Y (.K xs))->(xs[↑xs - 1]? =Y y)->(Q y<|a' H l<|.K xs.dropLast)->Wc x vs H Q
def ajS:V->#[V]->ap->ca->Prop:=λx vs H Q=>Wc x vs H Q
def Pe:Pd C "list.pop" ajS:=by
 intro am s D H x vs v w Q b bC g d;exists h;let(l,xs,y,rfl,rfl,f,i,q):=d;cases bC;let j:=g.a5;subst j;let(z,bh,n,r,m,e):=b.b3 f;let(u,A,o):=r.K i;let p:=by
  change bh.toArray[↑bh - 1]? =Y u;rwa [<- zH,<- m]
 show h<|Hr Td (_,e,aa) F.entry_list_pop (F.args_list_pop_1 _) (MeetsSeq.list_pop_last l bh.toArray n u p<|by rw[jw];lia) (e,(y,_,b.b4 f e ?_ r.a6 ?_,o,q));.simp_all
 .rw[List.length_dropLast];lia
def ajT:lu:=λx y H Q=>∃l B xs fG,x=.K l/\y=.K B/\H l=Y (.K xs)/\H B=Y (.K fG)/\↑xs+↑fG<=ch/\∀p,H p=M->Q (.K p) (a' H p<|.K<|xs++fG)
def Wd:hV C (Ca wZ) ajT:=by
 intro am s D H x y v u Q b bC g d;exists h;let(l,B,xs,fG,rfl,rfl,i,j,hz,q):=d;cases bC;cases g;let(z,bh,n,r,p,e):=b.b3 i;let(w,f,A,m,T,o):=b.b3 j;show h (PySem.P.add_list e o ?_ (by simp_all));let ea:bh.toArray++f.toArray=(bh++f).toArray:=by show CC bh f
 rw[ea];show(.K _,_,b.d1 (r.R m)<|by rw[cW];show Ta hz,aa,q _ b.d2)
end
section
variable{eR:fs}
end
section
variable[bz]{C:bW}
end
theorem dm.a3:∀{h:#[dq]}{b:#[bc]},dm (h.map V.X) b->b=h.map ic
 |[],b,d=>by
  rw[sX]at d;cases d;rfl
 |B::h,b,d=>by
  rw[fg]at d
  cases d with
  |cons r t=>
   cases r;rw[dm.a3 t,fg]
theorem dm.S{a}(r:dm [V.K a] b):b=[I a]:=by
 cases r with
 |cons r t=>
  cases t;cases r;rfl
section
variable{eR:fs}{l:L}{bh:#[bc]}{co:#[N]}{Q:bc->cQ->Prop}
end
section
variable[bz]{C:bW}
end
section
variable[bz]{C:bW}
end
section
variable[bz]{C:bW}
end
def We{eR w A s l}(h:s.heap.IsList l a1)
 (d:∀b:cQ,b={s with heap:=s.heap.push {cls:=cF "list_iterator",data:=qV #[I l,ew 0 0]}}->
   (b.heap.IsListIter s.heap.objs.size l 0/\b.heap.IsList l a1)->l≠s.heap.objs.size->Q (I s.heap.objs.size) b):bP (b' eR w) A (Hm<|I l) Q au s:=by
 let f:l<s.heap.objs.size:=by let(_,e,_):=h;show fZ e
 show awa h<|d _ aa ((_,jf _ aa,aa,aa),h.push _)<|ie f
def Wf{eR:fs}{b:#[dq]}{bh:#[bc]}(e:bh=b.map ic):
  TruthOf eR w A (λi v=>bh.toArray[i]? =Y v)<|λi=>b.getD i aX:=λi v s Q au g h=>by
 let f:=‹g›
 rw[e,cV]at f;let(B,j,rfl):=e_.1 f;simp_all [nn]
theorem Wg:∀b:#[dq],(oS ↑b).any (λi=>b.getD i aX)=b.any id
 |[]=>rfl
 |B::b=>by
  rw[hs,awy,xv,agp,xv,<- Wg b];all_goals rfl
theorem Wh:∀b:#[dq],(oS ↑b).all (λi=>b.getD i aX)=b.all id
 |[]=>rfl
 |B::b=>by
  rw[hs,awy,uo,Hs,uo,<- Wh b];all_goals rfl
section
variable[bz]{C:bW}
def ajU(aA:eh):#[V]->ap->ca->Prop:=λvs H Q=>∃(a:L)(b:#[dq]),vs=[V.K a]/\fa aA H a (b.map V.X)/\Q (.X<|b.any id) H
def ajV(aA:eh):#[V]->ap->ca->Prop:=λvs H Q=>∃(a:L)(b:#[dq]),vs=[V.K a]/\fa aA H a (b.map V.X)/\Q (.X<|b.all id) H
def ajW(h:C.a3=J):qk C (ju "any")<|ajU aAv:=by
 intro am s D H vs v Q b r d;let(a,w,rfl,aw,q):=d;let(bh,i,j,_):=b.a1 aw;rw[dm.S r];let f:=i.a3;show call_any_walk<|We j.isList λx l st m=>?_;subst l;show(_,_,_,_,_,_,_,aa,awz (A:=C.R.in1) (b.K.K h) _ a m bh.toArray,st,Wf f,λbg ee p=>(.X _,H,b.b0 λB o g=>p B o (λe=>?_)<|hr _ g,?_,q))
 .let aB||e:=cc.1 e;.show bB (aB▸fZ g)<|q_ _
  .cases e
 .change ic _=ic _;rw[<- Wg,f,jw,aV]
def ajX(h:C.a3=J):qk C (ju "all")<|ajV aAv:=by
 intro am s D H vs v Q b r d;let(a,w,rfl,aw,q):=d;let(bh,i,j,_):=b.a1 aw;rw[dm.S r];let f:=i.a3;show call_all_walk<|We j.isList λx l st m=>?_;subst l;show(_,_,_,_,_,_,_,aa,awz (A:=C.R.in1) (b.K.K h) _ a m bh.toArray,st,Wf f,λbg ee p=>(.X _,H,b.b0 λB o g=>p B o (λe=>?_)<|hr _ g,?_,q))
 .let aB||e:=cc.1 e;.show bB (aB▸fZ g)<|q_ _
  .cases e
 .change ic _=ic _;rw[<- Wh,f,jw,aV]
end
mutual
inductive lv(aA:eh)(H:ap):V->ue->Prop|a1:lv aA H .a0 .none|a2(B:dq):lv aA H (.X B)<|.bool B|S(i:N):lv aA H (.R i)<|.int i|a3(x:E):lv aA H (.S x)<|.str x|X{a:L}{xs:#[V]}{bb:#[ue]}:fa aA H a xs->yn aA H xs bb->lv aA H (.K a) (.list bb)|a0{a:L}{xs:#[V]}{bb:#[ue]}:lT aA H a xs->yn aA H xs bb->lv aA H (.K a) (.tuple bb)
inductive yn(aA:eh)(H:ap):#[V]->#[ue]->Prop|R:yn aA H [] []|K{v:V}{vs:#[V]}{ae:ue}{bb:#[ue]}:lv aA H v ae->yn aA H vs bb->yn aA H (v::vs) (ae::bb)
end
section
variable[bz]{C:bW}{D:ck}{H:ap}
mutual
theorem lv.K(b:aS C am D H s):∀(ae:ue)(v:V)(u:bc),lv aAv H v ae->dk v u->∃as,Reads s.heap u ae as
 |.none,_,_,d,r=>by
  cases d;cases r;show(_,Reads.none)
 |.bool B,_,_,d,r=>by
  cases d;cases r;show(_,Reads.bool B)
 |.int i,_,_,d,r=>by
  cases d;let(t,rfl):=r;show(_,Reads.int i t)
 |.str x,_,_,d,r=>by
  cases d;let(t,rfl):=r;show(_,Reads.str x t)
 |.list bb,_,_,d,r=>by
  cases d with
  |X aw e=>
   cases r;let(bh,f,(o,n,g,h,_,j),_):=b.a1 aw;let(as,l):=lv.R b bb _ bh e f;show(_,Reads.list g h j l)
 |.tuple bb,_,_,d,r=>by
  cases d with
  |a0 aw e=>
   cases r;let(bh,f,(o,g,h,n,j),_):=b.b2 aw;let(as,l):=lv.R b bb _ bh e f;show(_,Reads.tuple g h j l)
 |.dict _,_,_,d,_=>by cases d
theorem lv.R(b:aS C am D H s):∀(bb:#[ue])(vs:#[V])(a4:#[bc]),yn aAv H vs bb->dm vs a4->∃as,ReadsAll s.heap a4 bb as
 |[],_,_,d,r=>by
  cases d;cases r;show(_,ReadsAll.nil)
 |ae::bb,_,_,d,r=>by
  cases d with
  |K ab ag=>
   cases r with
   |cons m p=>
    let(as,q):=lv.K b ae _ _ ab m;let(A,w):=lv.R b bb _ _ ag p;show(_,ReadsAll.cons q w)
end
end
section
variable[bz]{C:bW}
def ajZ(aA:eh):lu:=λx y H Q=>∃ae e,lv aA H x ae/\lv aA H y e/\Te ae=J/\Te e=J/\Q (.X<|!awA ae e) H
def aka(h:C.R.units+64<it):hV C (jt SR)<|ajZ aAv:=by
 intro am s D H x y v u Q b bC f d;let(ae,e,g,i,j,l,q):=d;let(as,m):=lv.K b ae x v g bC;let(p,o):=lv.K b e y u i f;show SeqAt.compareNe_shaped m o j l h (.X _,H,b,aa,q)
end
abbrev Wi(d:ez)(c:L)(v:bs bc):Prop:=d.IsCell c v
noncomputable def akb(ce cB:mQ):mQ:=
 {ce with names:=ce.names.map λ(n,k)=>if(k==gX&&cB.kind==rB&&cB.names.lookup n==Y iu)then(n,iu)else(n,k)}
noncomputable def kS(iz:#[E×L]):#[E×xc]->#[E×L]->#[E×L]|[],cK=>cK|(n,k)::r,cK=>if k==gX then kS iz r ((n,(iz.lookup n).getD 0)::cK)else kS iz r cK
theorem Wj(dp:ml)(f:E×xc->#[E×L]->js (agq #[E×L]))
 (a1:∀n k c,f (n,k) c=if k==gX then(do let a<- cellOf dp n;gt (wV<|(n,a)::c))else gt (wV c)):
  ∀h cK,(∀y∈h,y.2=gX->∃c,dp.cells.lookup y.1=Y c)->BS h cK f=gt (kS dp.cells h cK)
 |[],cK,_=>by rfl
 |(n,k)::r,cK,d=>by
  rw[SK,a1];let g:=λcK=>Wj dp f a1 r cK λy j=>d y<|eo _ j;unfold kS;by_cases b:(k==gX)=J
  .rw[bK b,bK b];let(c,i):=d (n,k) (cp _) ‹b›;let e:cellOf dp n=gt c:=by delta cellOf;rw[i]
   rw[e];let l:(dp.cells.lookup n).getD 0=c:=by rw[i];rfl
   rw[l];show g _
  .rw[be b,be b];show g _
def akc{ce dp}(d:∀y∈ce.names,y.2=gX->∃c,dp.cells.lookup y.1=Y c):closureFor ce dp=gt (kS dp.cells ce.names []):=by
 rw[closureFor];rw[Wj dp _ (λn k c=>rfl) ce.names [] d];rfl
theorem Pf{α}:∀{l:#[E×α]}{n:E}{c:α},(n,c)>l->∃b,l.lookup n=Y b
 |(k,v)::r,n,c,d=>by
  rw[sZ]
  cases f:n==k with
  |true=>show(_,aa)
  |false=>
   let e||d:=cc.1 d;.grind
   .show Pf d
theorem DG{iz}:∀{b cK n c},(n,c)>kS iz b cK->(n,c)>cK∨((n,gX)>b/\c=(iz.lookup n).getD 0)
 |[],_,_,_,d=>aQ d
 |(m,k)::r,cK,n,c,d=>by
  unfold kS at d;split at d
  .let d||(ab,ag):=DG d;.grind
   .show bl (el _ ab,ag)
  .let d||(ab,ag):=DG d;.show aQ d
   .show bl (el _ ab,ag)
theorem Pg{iz}:∀{b cK p},p>cK->p>kS iz b cK
 |[],_,_,d=>d
 |(m,k)::r,cK,p,d=>by
  unfold kS;split;.show Pg<|eo _ d
  .show Pg d
theorem Ph{iz}:∀{b cK n},(n,gX)>b->(n,(iz.lookup n).getD 0)>kS iz b cK
 |(m,k)::r,cK,n,d=>by
  unfold kS;let e||d:=cc.1 d;.cases e;show Pg<|cp _
  .split;.show Ph d
   .show Ph d
set_option tactic.hygienic true in
theorem Ay:∀{h d cK x c},(x,c)>li d.objs.size h cK->
  (x,c)>cK∨((x,iu)>h/\d.objs.size<=c/\Wi (xg d h) c M)
 |[],_,_,_,_,d=>aQ d
 |(n,k)::r,d,cK,x,c,b=>by
  unfold li at b;unfold xg;split at b
  .rename_i f;rw[bK f];let f:=‹f›
   rw[<- qc d {cls:=cF "cell",data:=BW M}]at b;let b||(ab,ag,g):=Ay b
   .let e||b:=cc.1 b;.cases e;show bl (f▸(cp _),dw,_,Tf r _ _ _<|jf _ aa,aa)
    .show aQ b
   .rw[qc]at ag;show bl (el _ ab,lm ag,g)
  .rename_i f;rw[be f];let b||(ab,ag,g):=Ay b;.show aQ b
   .show bl (el _ ab,ag,g)
theorem DH:∀{b n cK p},p>cK->p>li n b cK
 |[],_,_,_,d=>d
 |(m,k)::r,n,cK,p,d=>by
  unfold li;split;.show DH<|eo _ d
  .show DH d
theorem Pj:∀{b n cK x},(x,iu)>b->∃c,(x,c)>li n b cK
 |(m,k)::r,n,cK,x,d=>by
  unfold li;let e||d:=cc.1 d;.cases e;show(n,DH<|cp _)
  .split;.show Pj d
   .show Pj d
set_option tactic.hygienic true in
theorem Pk:∀{h:#[E×xc]}{d:ez}{cK:#[E×L]}{x y:E}{c:L},(∀p∈cK,p.2<d.objs.size)->(∀x y c,(x,c)>cK->(y,c)>cK->x=y)->
  (x,c)>li d.objs.size h cK->(y,c)>li d.objs.size h cK->x=y
 |[],_,_,_,_,_,_,aR,ab,ag=>aR _ _ _ ab ag
 |(n,k)::r,d,cK,x,y,c,f,aR,ab,ag=>by
  unfold li at ab ag;split at ab
  .rename_i b;rw[bK b]at ag;rw[<- qc d {cls:=cF "cell",data:=BW M}]at ab ag;show Pk (λp e=>?_) (λx y c a B=>?_) ab ag
   .rw[qc];let rfl||e:=cc.1 e;.show pa _
    .show CD<|f p e
   grind
  .rename_i b;rw[be b]at ag;show Pk f aR ab ag
def akd{av A s ce code b}
 (d:Q (newEnv ce s.heap.objs.size globals (li (s.heap.objs.size+1) ce.names h) fo a1 code (Y b) a2)
   {s with heap:=xg (s.heap.push {cls:=cF "dict",data:=i' #[]}) ce.names}):
  bP av A (newFunctionEnv ce globals h [] fo a1 code (Y b) a2) Q au s:=by
 dsimp only[newFunctionEnv,xf];show bq<|wpAny_alloc<|bq<|wpAny_layCells _ (λn k c=>rfl) ce.names h _ _ ?_;rw[qc ..];rw[List.forIn_nil];show bq<|c_<|c_ d
theorem Pl{cB:mQ}:∀{a1:#[E×xc]}{x:E}{k:xc},
  (a1.map λ(n,k)=>if(k==gX&&cB.kind==rB&&cB.names.lookup n==Y iu)then(n,iu)else(n,k)).lookup x=Y k->
  ∃h,a1.lookup x=Y h/\(k=h∨(h=gX/\k=iu))
 |[],_,_,d=>by simp at d
 |(n,f)::r,x,k,d=>by
  let g:=@Pl cB r x k;let bg:uc x ((if(f==gX&&cB.kind==rB&&cB.names.lookup n==Y iu)=J then(n,iu)else(n,f))::(r.map _))=Y k:=d
  cases e:x==n with
  |true=>
   simp only[sZ,e];by_cases b:(f==gX&&cB.kind==rB&&cB.names.lookup n==Y iu)=J;.rw[bK b]at bg;simp only[sZ,e]at bg;cases bg;simp at b;show(f,aa,bl (b.1.1,aa))
   .rw[be b]at bg;simp only[sZ,e]at bg;cases bg;show(_,aa,aQ aa)
  |false=>
   simp only[sZ,e];by_cases b:(f==gX&&cB.kind==rB&&cB.names.lookup n==Y iu)=J;.rw[bK b]at bg;simp only[sZ,e]at bg;show g bg
   .rw[be b]at bg;simp only[sZ,e]at bg;show g bg
structure pk(br:#[E])(cB ce:mQ)(K:#[E×O]):Prop where
 X:ce.kind=rB
 S:∀y∈ce.names,ce.names.lookup y.1=Y y.2
 a0:∀p∈K,br[p.2]? =Y p.1
 R:∀y∈ce.names,y.2=gX->cB.names.lookup y.1=Y iu∨cB.names.lookup y.1=Y gX
 K:∀y∈ce.names,y.2=gp∨y.2=iu->y.1>K.map (·.1)∨y.1∉br
noncomputable def kn(D:ck):#[O]->ck|[]=>D|v::vs=>(kn D vs).set v M
theorem Pm(D:ck):∀vs:#[O],↑(kn D vs)=↑D|[]=>rfl|v::vs=>by unfold kn;rw[Tc,Pm D vs]
theorem Pn{D:ck}{i x}:∀{vs},(kn D vs)[i]? =Y (Y x)->D[i]? =Y (Y x)/\i∉vs
 |[],d=>(d,hD)
 |v::vs,d=>by
  unfold kn at d;by_cases aR:v=i
  .subst aR;by_cases b:v<↑(kn D vs);.simp_all
   simp_all
  .rw[xt aR]at d;let(ab,ag):=Pn d;show(ab,by rw[cc,not_or];show(λe=>aR e.symm,ag))
noncomputable abbrev bW.a2(C:bW)(s:cQ)(H:ap)(ce:mQ)(b:ml)(h:#[L]):bW:={C with a1:=s,a6:=H,K:=b,a7:=C.X,a4:=h,a8:=λx=>ce.names.lookup x==Y iu,a9:=[],S:=λ_ _=>fC}
section
variable[bz]{C:bW}{D:ck}{H:ap}
def ake{ce:mQ}{mf:#[E×O]}{b0:#[L]}(b:aS C am D H s)(a1:pk C.a0 C.K.scope ce mf)(b7:C.a0.Nodup)(a2:∀B∈b0,rf C am H B/\B<s.heap.objs.size):
  aS (C.a2 s H ce (qZ ce (li (s.heap.objs.size+1) ce.names<|kS C.K.cells ce.names []) s.heap.objs.size C.K) b0) [] (kn D (mf.map (·.2))) H {s with heap:=xg (s.heap.push {cls:=cF "dict",data:=i' #[]}) ce.names}:=by
 let b8:∀y∈ce.names,y.2=gX->∃c,C.K.cells.lookup y.1=Y c:=λy l e=>by
  let k||k:=a1.R y l e;.show b.K.a1 _<|aQ k
  .show b.K.a1 _<|bl k
 generalize a3:qZ ce (li (s.heap.objs.size+1) ce.names<|kS C.K.cells ce.names []) s.heap.objs.size C.K=f;let a5:∀B o,s.heap.get? B=Y o->(xg (s.heap.push {cls:=cF "dict",data:=i' #[]}) ce.names).get? B=Y o:=λB o e=>Tf _ _ _ _<|hr _ e;let a6:f.locals=s.heap.objs.size:=by rw[<- a3];rfl
 let T:f.cells=li (s.heap.objs.size+1) ce.names (kS C.K.cells ce.names []):=by rw[<- a3];rfl
 let b1:f.scope=akb ce C.K.scope:=by rw[<- a3];rfl
 rw[<- qc s.heap {cls:=cF "dict",data:=i' #[]}]at T;let a4:∀{y c},(y,c)>kS C.K.cells ce.names []->C.K.cells.lookup y=Y c/\c<s.heap.objs.size:=λ{y c} g=>by
  let g||(ab,rfl):=DG g;.cases g
  .let(c,b4):=b8 _ ab aa;rw[b4];let(w,z):=b.a4 _ _ b4;show(aa,z.lt)
 let b2:∀{y c},f.cells.lookup y=Y c->(C.K.cells.lookup y=Y c/\c<s.heap.objs.size)∨(s.heap.objs.size+1<=c/\Wi (xg (s.heap.push {cls:=cF "dict",data:=i' #[]}) ce.names) c M):=λ{y c} e=>by
  rw[T]at e;let g||(_,ag,b9):=Ay (no e);.show aQ (a4 g)
  .rw[qc]at ag;show bl (ag,b9)
 let b5:∀{y},ce.names.lookup y=Y gX->∃c,f.cells.lookup y=Y c/\C.K.cells.lookup y=Y c:=λ{y} a7=>by
  let l:=no a7;let(a8,h):=Pf (DH (Ph l));rw[<- T]at h;show(a8,h,?_);rw[T]at h;let g||(ab,_,_):=Ay (no h);.show(a4 g).1
  .have:=a1.S _ ab;rw[a7]at this;cases this
 let c0:(C.a2 s H ce f b0).b0:=by
  show(b.K.S,b1▸a1.X,a3▸b.K.a5,a3▸b.K.a9,a6▸dw,
   λy z c aB v=>?_,λy l=>?_,λy c z e=>?_,b.K.K,b.K.a0,aQ aa,λB x=>(?_,λy c e z=>?_),b.c4,db b.K.a2 b.b9,λB o e x=>?_,λB x z=>?_,b.c6,b.c7);.let aB:=aB;let v:=v;rw[T]at aB v;show Pk (λp V=>?_) (λy z c a B=>b.K.inj y z c (a4 a).1 (a4 B).1) (no aB) (no v);rw[qc];show CD (a4 V).2
  .let a0:∀k,f.kindOf y=Y k->(k=iu∨k=gX)->∃c,f.cells.lookup y=Y c:=λk U b3=>by
    delta Env.kindOf at U;rw[b1]at U;let(A,e,r):=Pl U;have:A=iu∨A=gX:=by
     let rfl||(rfl,_):=r;.show b3
     .show bl aa
    let rfl||rfl:=this;.let(c,g):=Pj (no e);let(a8,h):=Pf g;show(a8,T▸h)
    .let(c,ab,_):=b5 e;show(c,ab)
   let l||l:=l;.show a0 _ l (aQ aa)
   .show a0 _ l (bl aa)
  .let z:=z;let z:=‹z›
   let e:=e;rw[T]at e;let g||(_,ag,_):=Ay (no e)
   .let g||(ab,_):=DG g;.cases g
    .let q:=a1.S _ ab;rw[z]at q;cases q
   .rw[qc]at ag;show lm ag
  .rw[a6];show ie (a2 B x).2
  .let e:=e;let (ab,_)||(ab,_):=b2 e;.show(a2 B x).1.2.2.2.2.1 y c ab z
   .let ag:s.heap.objs.size+1<=B:=z▸ab;show bB (ia (a2 B x).2 (lm ag)) (q_ _)
  .let z||z:=(a2 B x).1.2.2.2.1;.show b.K.a7 B o e z
   .show bB (ia (fZ e) (db b.K.a2 z)) (q_ _)
  .let z||z:=cc.1 (b.b6 B z);.show(a2 B x).1.2.1 z
   .show(a2 B x).1.2.2.1 z
 show(c0,aa,b.a3,ih.a4 a5,(λ_=>M,?_,λi y c1 aB v j=>?_),λy c e=>?_,?_,λy c e=>?_,λp V=>?_,b.R.R a5,by rw[Pm];show b.a9);.rw[a6];show Heap.Ns.keeps (Heap.Ns.new ..) λB o e=>Tf _ _ _ _ e
 .let(v,c2):=Pn v
  let a9:ce.names.lookup y=Y gX/\(f.kindOf y=Y iu∨f.kindOf y=Y gX):=by
   let a0:∀k,f.scope.names.lookup y=Y k->k=gp∨k=iu∨k=gX->ce.names.lookup y=Y gX/\(f.kindOf y=Y iu∨f.kindOf y=Y gX):=λk U b3=>by
    let b6:=U;rw[b1]at U;let(A,e,r):=Pl U;let bU:¬(A=gp∨A=iu):=λc3=>by
     let h||h:=a1.K _ (no e) c3;.let(p,V,c4):=bx.1 h;let j:=a1.a0 p V;have:=c4;rw[this]at j;show c2 (bx.2 (p,V,Km b7 j aB))
     .show h (gs aB)
    let rfl||(rfl,rfl):=r
    .let rfl||rfl||rfl:=b3;.show bB (aQ aa) bU
     .show bB (bl aa) bU
     .show(e,bl b6)
    .show(e,aQ b6)
   let j:=j;let j||j||j:=j;.show a0 _ j (aQ aa)
   .show a0 _ j (bl (aQ aa))
   .show a0 _ j (bl (bl aa))
  let(m,c5,a7):=b.a2;let(w,r,q):=a7 i y c1 aB v ((a1.R _ (no a9.1) aa).elim (λk=>bl (aQ k)) (λk=>bl (bl k)));show(w,r,bl (a9.2,?_));let(c,ab,ag):=b5 a9.1;let (k,_)||(_,a8,h,z):=q;.let k:C.K.scope.names.lookup y=Y gp:=k;let A||A:=a1.R _ (no a9.1) aa<;>rw[A]at k<;>cases k
  .rw[ag]at h;cases h;show(c,ab,z.keeps a5)
 .let e:=e;let (ab,_)||(_,z):=b2 e;.let(w,z):=b.a4 y c ab;show(w,z.keeps a5)
  .show(_,z)
 .rw[a6];show b.R.K dw
 .let e:=e;let (ab,_)||(ab,_):=b2 e;.show b.a7 y c ab
  .show b.R.K (lm ab)
 .show bB (V) (by simp)
def akf{xs v}(b:aS C am D H s)(h:H aj=Y (.K xs))(hz:↑xs<ch)(r:dk y v)
 (d:∀aT,aS C am D (a' H aj<|.K<|xs++[y]) aT->Q go aT):bP (b' aAw aAx) C.R (qX (ju "list.append") [I aj,v]) Q au s:=by
 let(l,bh,n,f,e):=b.R aj _ h;let m:=f.length;show append_at (hsz:=by simp_all) e λbg i g=>d {s with heap:=bg}<|b.b7 (by rw[h];trivial) (aQ aa) (λB u j q=>(i.2 B j).trans q) (_,g) (cW▸hz,bh++[v],n+1,f.R<|eS r ed,?_);rw[g];simp
def Az[bz](C:bW)(b:#[dD])(t:iR):Prop:=
 ∀am s D H Q,aS C am D H s->t D H Q->
  bP (b' aAw aAx) C.R (BS b J λc r=>if r=J then do let e<- wX c C.K (dx c C.K);gt (wV e)else gt (wV r)) (Dg C am D Q) C.S s
def qn:iR:=λ_ H Q=>Q J H
def sf:Az C [] qn:=λ_ _ _ H _ b d=>wpAny_tests_nil (H,b,d)
def akg{c t}(d:kj C c t):Az C [c] t:=λam s D H Q b e=>wpAny_tests_one<|d am s D H Q b e
end
def DK{t:js α}{Q b:α->cQ->Prop}{av:BX}(d:bP av A t Q (λ_ _=>fC) s)(h:∀a s,Q a s->b a s):bP av A t b au s:=ob d h λ_ _ z=>lh z
def yo(aq:fs)(w:hC)(A:vx)(dp:ml)(ax:Result->cQ->Prop):bc->cQ->Prop:=notedBy (b' aq w) A dp λe aT=>ax (pU e) aT
def Wk(b:O->cQ->Prop)(n:O)(s:cQ):Prop:=∃m,m<n/\b m s
def akh(aq:fs)(w:hC)(A:vx)(dp:ml)(ax:Result->cQ->Prop)(ng:dD)(cK:bc)(b:cQ->Prop):dq->cQ->Prop|J,s=>bP (b' aq w) A (dx ng dp) (λx s=>bP (b' aq w) A (qX (ju "list.append") [cK,x]) (λ_=>b) (yo aq w A dp ax) s) (yo aq w A dp ax) s|aX,s=>b s
def aki{eR w A ax s iter dp}(b:O->cQ->Prop)
 (turn:∀n s,b n s->bP (b' eR w) A (Hl cx) (λr h=>match r with
   |M=>ax (mm .next) h
   |Y v=>bP (b' eR w) A (afV a2 cx v) (λ_ a3=>bP (b' eR w) A (Hj a2 dp v) (λ_ a4=>
     bP (b' eR w) A (BS a5 J λc r=>if r=J then do let a1<- wX c dp (dx c dp);gt (wV a1)else gt (wV r)) (akh eR w A dp ax ng cK<|Wk b n) (yo eR w A dp ax) a4) (yo eR w A dp ax) a3) (yo eR w A dp ax) h) (yo eR w A dp ax) s)
 (n:O)(d:b n s):
  xb (b' eR w) A (.compLoop (vz ng [(a2,iter,a5,0)] ce bj) 0 cx cK dp) ax s:=by
 show codeAny_loop aa b (λn s g=>wpAny_noted ?_) n d;rw[compTurn_list];show bq<|SU<|bq<|ob (turn n s g) (λr h e=>?_) λ_ _ bg=>bg
 cases r with
 |none=>show c_ e
 |some v=>
  show bq<|ob e (λ_ a3 i=>bq<|ob i (λ_ a4 j=>bq<|ob j (λa1 o f=>?_) λ_ _ bg=>bg) λ_ _ bg=>bg) λ_ _ bg=>bg
  cases a1 with
  |false=>show c_ (aa,f)
  |true=>
   show bq<|bq<|ob f (λx p l=>bq<|ob l (λ_ q m=>c_<|c_ (aa,m)) λ_ _ bg=>bg) λ_ _ bg=>bg
section
variable[bz]{C:bW}
def DP(g:mU)(h:iR)(ej:bT)(vs:#[O])(D:ck)(aj:L)(br:ap->Prop)(x:V)(H:ap):Prop:=g x (kn D vs) H λb aH=>kn b vs=kn D vs/\h b aH λB e=>
 if B=J then ej b e λy f=>∃cK,f aj=Y (.K cK)/\↑cK<ch/\br (a' f aj<|.K<|cK++[y])else br e
def wi(b:mV)(g:mU)(h:iR)(ej:bT)(vs:#[O])(D:ck)(al:ap)(aj:L)(a1:ap->Prop):Prop:=∃W:O->O->ap->Prop,(∃m,W 0 m (a' al aj<|.K []))/\∀i m H,W i m H->
 (b.S i H/\a1 H)∨(b.K i H/\∃rj:ap->Prop,(∀af,rj af->∃e,e<m/\W (i+1) e af)/\∀x af,b.R i H x af->DP g h ej vs D aj rj x af)
def Po(b:rg)(g:mU)(h:iR)(ej:bT)(vs:#[O]):bT:=λD H Q=>b D H λe al=>∀aj,al aj=M->wi e g h ej vs D al aj (Q<|.K aj)
inductive Pp[bz](dt:bW)(D:ck)(b:#[L])(h:O->ez->Prop)(W:O->O->ap->Prop)(n:O)(aT:cQ):Prop|mk(i:_)(af:_):aS dt [] D af aT->h i aT.heap->(∀B∈b,af B=M)->W i n af->Pp dt D b h W n aT
def Wl{D:ck}{H:ap}{Q:ca}{ng dW iter:dD}{a9:#[dD]}{ce:mQ}{mf:#[E×O]}{jH:iK}{c9:rg}{g:mU}{d0:iR}{ej:bT}{b0:bs<|bc->js Unit}{b1:bc->cQ->Prop}
 (d5:C.a3=J)(f0:C.a0.Nodup)(c1:aS C am D H s)(aR:sb C dW iter c9)(b2:pk C.a0 C.K.scope ce mf)
 (f1:∀(s:cQ)(H:ap)(ar:L)(bw:#[E×L])(h:#[L]),te (C.a2 s H ce (qZ ce bw ar C.K) h) dW g)(f2:∀(s:cQ)(H:ap)(ar:L)(bw:#[E×L])(h:#[L]),Az (C.a2 s H ce (qZ ce bw ar C.K) h) a9 d0)
 (f3:∀(s:cQ)(H:ap)(ar:L)(bw:#[E×L])(h:#[L]),bn (C.a2 s H ce (qZ ce bw ar C.K) h) ng ej)(aw:∀x,SW iter C.K x=gt x)
 (d:Po c9 g d0 ej (mf.map (·.2)) D H Q)
 (f4:∀aj ar aT m af,aS C am D af aT->Q (.K aj) af->aT.heap.Ns ar m->rf C am af ar->compPost (b' aAw aAx) C.R C.S b0 b1 (I aj) ar (mm .next) aT):
  bP (b' aAw aAx) C.R (comprehension (vz ng [(dW,iter,a9,0)] ce bj) ce C.K jH (newList []) aX (dx iter C.K) b0) b1 C.S s:=by
 let f5:∀y∈ce.names,y.2=gX->∃c,C.K.cells.lookup y.1=Y c:=λy c2 e=>by
  let k||k:=b2.R y c2 e;.show c1.K.a1 _<|aQ k
  .show c1.K.a1 _<|bl k
 show wpAny_comprehension_free aa aw (akc f5) b2.X (λy c2 e=>by rw[b2.S y c2,e])
 <|fR (aR am s D H _ c1 d) λi9 j0 f6=>fR f6 λj1 a4 ag=>?_;let(cx,h,b3,j2,aH,e,d1,T,d2,d3,q):=ag;subst e;show sW (akd ?_) (by change 0<=ch;decide);show Af a4.heap.objs.size λaj b4=>?_;let f7:=d1.R.K<|o' b4;let(W,(f8,c3),turn):=q aj f7;show Af ({a4 with heap:=a4.heap.push {cls:=cF "list",data:=fp ([]:#[bc]).toArray}}:cQ) λb d4=>?_;let a5:aS C am D (a' aH aj<|.K []) b:=by
  rw[<- d4];show d1.b1 (λB o e=>hr _ e) (o' b4) (ex _,[],0,ed,?_);rw[<- b4];show jf _ aa
 let d6:b.heap=a4.heap.push {cls:=cF "list",data:=fp ([]:#[bc]).toArray}:=by rw[<- d4]
 let f9:∀B∈h,B<a4.heap.objs.size:=λB f=>by
  let(o,e,_):=T.K _ _ d2 B f;show fZ e
 let V:∀B∈h,rf C am (a' aH aj (.K [])) B/\B<b.heap.objs.size:=λB f=>by
  let d7:=f9 B f;show((?_,(d3 B f).2),by rw[d6,qc];show CD d7);rw[bS (by rw[<- b4];show ie d7)];show(d3 B f).1
 let g0:b3 0 b.heap:=T.R _ _ _ d2 λB _ o e=>by rw[d6];show hr _ e
 let a0:=ake a5 b2 f0 V;let a6:=f1 b (a' aH aj (.K [])) b.heap.objs.size (li (b.heap.objs.size+1) ce.names (kS C.K.cells ce.names [])) h;let a7:=f2 b (a' aH aj (.K [])) b.heap.objs.size (li (b.heap.objs.size+1) ce.names (kS C.K.cells ce.names [])) h;let a8:=f3 b (a' aH aj (.K [])) b.heap.objs.size (li (b.heap.objs.size+1) ce.names (kS C.K.cells ce.names [])) h;change xb _ _ (.compStart (vz ng [(dW,iter,a9,0)] ce bj) 0 (I cx) (I aj) (qZ ce (li (b.heap.objs.size+1) ce.names (kS C.K.cells ce.names [])) b.heap.objs.size C.K)) (compPost (b' aAw aAx) C.R C.S b0 b1 (I aj) b.heap.objs.size) {b with heap:=xg (b.heap.push {cls:=cF "dict",data:=i' #[]}) ce.names};let c4:=λB f=>(V B f).1.1;revert a0 a6 a7 a8;show Af (qZ ce (li (b.heap.objs.size+1) ce.names (kS C.K.cells ce.names [])) b.heap.objs.size C.K) λA g1 a0 a6 a7 a8=>?_;let g2:A.locals=b.heap.objs.size:=by subst g1;rfl
 revert a5 a0 a6 a7 a8 c3 c4 V;show Af (a' aH aj (.K [])) λU j3 c3 a5 V c4 a0 a6 a7 a8=>?_;revert a0;show Af ({b with heap:=xg (b.heap.push {cls:=cF "dict",data:=i' #[]}) ce.names}:cQ) λd8 g3 a0=>?_;let d9:b3 0 d8.heap:=T.R _ _ _ g0 λB _ o e=>by rw[<- g3];show Tf _ _ _ _ (hr _ e)
 let c5:∀{aU:ck}{af:ap}{aT:cQ},aS (C.a2 b U ce A h) [] aU af aT->(∀B∈h,af B=M)->∀B∈h,rf (C.a2 b U ce A h) [] af B:=λ{aU af aT} a2 b5 B f=>
  (b5 B f,(a2.K.b1 B f).1,a2.K.a8 B f,aQ f,λx c e=>(a2.K.b1 B f).2 x c e,λp g4=>bB (g4) (by simp))
 let e0:xb (b' aAw aAx) C.R (.compLoop (vz ng [(dW,iter,a9,0)] ce bj) 0 (I cx) (I aj) A) (compPost (b' aAw aAx) C.R C.S b0 b1 (I aj) b.heap.objs.size) d8:=by
  show aki (Pp (C.a2 b U ce A h) (kn D (mf.map (·.2))) h b3 W) (λn e1 w=>bk λl=>?_) f8 (.mk 0 U a0 d9 c4 c3);let(i,b6,b7,e2,e3,g5):=w;let (g6,g7)||(g8,rj,g9,step):=turn i n b6 g5;.show l (Uv (T.done (C.a2 b U ce A h) d5 i [] e1 _ b6 _ b7 (c5 b7 e3) e2 g6) λe4 a3=>bk λl=>?_);let b8:=a5.e6 a3.os a3.S a3.R a3.a3 λB f=>((V B f).1.2.2.2.1,(V B f).1.2.1,(V B f).1.2.2.2.2.1,(V B f).1.2.2.2.2.2);let e5:=a3.a5;let(m,b5,_):=a3.a2;rw[g2]at b5 e5;show l (f4 aj b.heap.objs.size e4 m b6 b8 g7 b5 (a5.c0 (kD _) e5))
  .show l (Uw (T.S (C.a2 b U ce A h) d5 i [] e1 _ b6 _ b7 (c5 b7 e3) e2 g8) λu e4 h0=>fR h0 λ_ c6 a1=>bk λl=>?_);let(x,e6,b8,h1,h2,c7,h3):=a1;show l (DK (a6 _ c6 _ e6 x u _ (b8.e7 (c5 b8 h3) (T.K _ _ c7)) h1 (step x e6 h2)) λ_ h4 a1=>bk λl=>?_);let(b9,h5,h6,e7,h7):=a1;show l (DK (a7 _ h4 b9 h5 _ h6 h7) λB h8 a1=>bk λl=>?_);let(h9,e8,c0):=a1;let fin:∀{aT:cQ}{af:ap},aS (C.a2 b U ce A h) ([]++Al h c6.heap) b9 af aT->rj af->Wk (Pp (C.a2 b U ce A h) (kn D (mf.map (·.2))) h b3 W) n aT:=λ{aT af} a2 c8=>by
    let(i0,i1,i2):=g9 af c8;let e9:∀B∈h,∀o,c6.heap.get? B=Y o->aT.heap.get? B=Y o/\af B=M:=λB f o e=>
     let z:=a2.a6 (B,o) (cG _ (cG _ (Ky f e)))
     (z.1,z.2.1);let i3:↑(kn D (mf.map (·.2)))=↑b9:=by rw[<- e7,Pm]
    show(i0,i1,.mk (i+1) af ((a2.d0).e4 i3 (λj v e=>?_)) (T.R _ _ _ c7 λB f o e=>(e9 B f o e).1) (λB f=>?_) i2);.rw[<- e7]at e;show(Pn e).1
    .let(o,e,_):=T.K _ _ c7 B f;show(e9 B f o e).2
   cases B with
   |false=>
    simp only[awB,Hq]at c0;show l (fin e8 c0)
   |true=>
    simp only[xf]at c0;show l (DK (a8 _ h8 b9 h9 _ e8 c0) λz j4 a1=>?_);let(j5,j6,i4,i5,cK,i6,i7,c8):=a1;show akf (C:=C.a2 b U ce A h) i4 i6 i7 i5 λj7 i8=>fin i8 c8
 show codeAny_compStart_list e0 (T.X C.R 0 _ _ _ d9 e0)
def tl{dW iter mf g}(h:C.a3=J)(a1:C.a0.Nodup)(aR:sb C dW iter a2)(a3:pk C.a0 C.K.scope ce mf)
 (a4:∀s H ar bw b,te (C.a2 s H ce (qZ ce bw ar C.K) b) dW g)(a5:∀s H ar bw b,Az (C.a2 s H ce (qZ ce bw ar C.K) b) a6 a7)
 (a8:∀s H ar bw b,bn (C.a2 s H ce (qZ ce bw ar C.K) b) ng ej)(aw:autoParam (∀x,SW iter C.K x=gt x) r_4):
  bn C (vz ng [(dW,iter,a6,0)] ce bj) (Po a2 g a7 ej (mf.map (·.2))):=by
 intro am s D H Q i d;rw[eval_ListComp];show Wl h a1 i aR a3 a4 a5 a8 aw d λaj ar aT m af j q l f=>(m,l,λa0 p=>?_);let(v,w,a9,A,T,U):=f;show(.K aj,af,j.a8 (λB o V e=>(p.2 B V).trans e) v w A T U,aa,q)
def Wm{i dW iter mf h g}(a4:C.a3=J)(a1:C.a0.Nodup)(a5:C.a0[i]? =Y y)(a2:C.K.scope.names.lookup y=Y gp)
 (a6:vy (vz ng [(dW,iter,a3,0)] ce bj) (Y<|ge y a7) h.line C.K=gt J)(aR:sb C dW iter a8)(a9:pk C.a0 C.K.scope ce mf)
 (b0:∀s H ar bw b,te (C.a2 s H ce (qZ ce bw ar C.K) b) dW g)(b1:∀s H ar bw b,Az (C.a2 s H ce (qZ ce bw ar C.K) b) a3 b2)
 (b3:∀s H ar bw b,bn (C.a2 s H ce (qZ ce bw ar C.K) b) ng ej)(aw:autoParam (∀x,SW iter C.K x=gt x) r_4):
  ix C (zi [ge y a7] (vz ng [(dW,iter,a3,0)] ce bj) h) (sa (Po a8 g b2 ej (mf.map (·.2)))<|r' i):=by
 intro am s D H aj l d;rw[exec_Assign_Name_used _ _ _ _ a6];show bq<|SU<|bq<|bq<|fR (Wl a4 a1 l aR a9 b0 b1 b3 aw d λp ar aT m af w q A f=>avZ<|Ut (v:=V.K p) w a1 a5 (aQ a2) aa (λc4 T U=>?_)<|bl a2) λ_ aT a0=>c_<|c_ a0;exists b4;let(a,b5,b6):=U;let(b7,b8,c5,b9,j,c0):=f;let c1:ar≠a:=by
  let z||z:=b6;.rwa [z]
  .show λe=>j y a z e.symm
 show b4 (m,A.sameBut b5 c1,λc6 c2=>(_,af,T.a8 (λB o c3 e=>(c2.2 B c3).trans e) b7 b8 b9 j c0,q))
def Wn{ce bj b l dp}(h:dp.scope.kind=rB)(a1:dp.scope.names.lookup y=Y gp)(a2:(b.line==bj.line)=J)
 (a3:(ce.names.any λ(n,k)=>n==y&&(k==gp||k==iu))=aX):vy (vz ng dc ce bj) (Y<|ge y b) l dp=gt J:=by
 let e:dp.kindOf y=Y gp:=a1;let f:dp.blockKind=rB:=by delta Env.blockKind;rw[h];rfl
 let g:(vz ng dc ce bj).pos=bj:=aa;delta vy;simp only[f,e,a3,g,a2];rfl
end
def Wo{bQ n g}(Pv:O->ap->Prop)(h:Pv 0<|a' al aj<|.K [])
 (aw:∀i H,i<n->Pv i H->DP g a1 ej vs D aj (Pv<|i+1) (.R<|bQ+i) H)(a2:∀H,Pv n H->a3 H):
  wi (ya bQ n) g a1 ej vs D al aj a3:=by
 show(λi m H=>m=n - i/\i<=n/\Pv i H,(n,eW<|ul n,ex _,h),?_);rintro i m H ⟨rfl,aR,p⟩;by_cases b:i<n;.show bl (b,Pv<|i+1,λaf f=>(n -(i+1),um n i b,aa,b,f),λx af y=>?_);let(e,y):=y;subst e y;show aw i _ b p
 .obtain rfl:i=n:=by lia
  show aQ (dw,a2 H p)
def wj{aA a xs g}(Pv:O->ap->Prop)(h:Pv 0<|a' al aj<|.K [])(a1:∀i H,i<=↑xs->Pv i H->fa aA H a xs)
 (aw:∀i x H,xs[i]? =Y x->Pv i H->DP g a2 ej vs D aj (Pv<|i+1) x H)(a3:∀H,Pv ↑xs H->a4 H):
  wi (Ak aA a) g a2 ej vs D al aj a4:=by
 show(λi m H=>m=↑xs - i/\i<=↑xs/\Pv i H,(↑xs,eW<|ul ↑xs,ex _,h),?_);rintro i m H ⟨rfl,aR,p⟩;let q:=a1 i H aR p;by_cases b:i<↑xs;.show bl ((xs,xs[i],q,by simp[b]),Pv<|i+1,λaf f=>(↑xs -(i+1),um ↑xs i b,aa,b,f),λx af y=>?_);let(e,y):=y;subst e;show aw i x _ (y xs q) p
 .let e:i=↑xs:=by lia
  subst e;show aQ ((xs,q,dw),a3 H p)
section
variable{eR:fs}{ax:Result->cQ->Prop}{ng kZ Sz ef im:dD}{azt azu:#[dD]}{ce:mQ}{cx cK:bc}{dp:ml}
end
section
variable[bz]{C:bW}
end
section
variable{κ:Type}[i_ κ]
noncomputable def fq(aP:#[κ×V])(k:κ):bs V:=(aP.find? λb=>bp<|b.1=k).map (·.2)
noncomputable def gS(aP:#[κ×V])(k:κ)(v:V):#[κ×V]:=
 if(aP.any λb=>bp<|b.1=k)=J then aP.map (λb=>if b.1=k then(b.1,v)else b)else aP++[(k,v)]
theorem ms{p:κ×V}{r:#[κ×V]}{k:κ}(e:p.1=k):fq (p::r) k=Y p.2:=by simp[fq,e]
theorem mu{p:κ×V}{r:#[κ×V]}{k:κ}(e:¬p.1=k):fq (p::r) k=fq r k:=by simp[fq,e]
theorem uP(k:κ):∀aP:#[κ×V],(aP.any λb=>bp<|b.1=k)=(fq aP k).isSome
 |[]=>rfl
 |p::r=>by
  rw[xv];by_cases e:p.1=k;.rw[ms e,hp e,Bool.true_or,Option.isSome_some]
  .rw[mu e,iv e,Bool.false_or];show uP k r
theorem Wp(k j:κ)(y:V):∀aP:#[κ×V],fq (aP.map λb=>if b.1=k then(b.1,y)else b) j=(fq aP j).map λx=>if j=k then y else x
 |[]=>rfl
 |p::r=>by
  let f:=Wp k j y r;rw[fg];by_cases d:p.1=k
  .rw[bK d];by_cases e:p.1=j;.rw[ms (p:=(p.1,y)) e,ms e,agr,bK<|e.symm.trans d]
   .rw[mu (p:=(p.1,y)) e,mu e,f]
  .rw[be d];by_cases e:p.1=j;.rw[ms e,ms e,agr,be<|λz=>d<|e.trans z]
   .rw[mu e,mu e,f]
theorem Wq(k j:κ)(y:V):∀aP:#[κ×V],fq aP k=M->fq (aP++[(k,y)]) j=if j=k then Y y else fq aP j
 |[],_=>by
  by_cases e:k=j;.rw[bK e.symm];show ms e
  .rw[be<|λz=>e z.symm];show mu e
 |p::r,b=>by
  rw[mK];let f:¬p.1=k:=λz=>by rw[ms z]at b;cases b
  rw[mu f]at b;by_cases e:p.1=j;.rw[ms e,ms e,be<|λz=>f<|e.trans z]
  .rw[mu e,mu e,(Wq k j y r b)]
theorem Pq(aP:#[κ×V])(k j:κ)(y:V):fq (gS aP k y) j=if j=k then Y y else fq aP j:=by
 delta gS;by_cases a:(aP.any λb=>bp<|b.1=k)=J
 .rw[bK a,Wp];rw[uP]at a;by_cases e:j=k;.let(x,f):=CB.1 a;grind
  simp_all
 simp_all [be,Wq,uP]
def yp(aP:#[κ×V])(k:κ)(v:V):↑(gS aP k v)<=↑aP+1:=by
 delta gS;split;.simp_all
 simp_all
theorem Wr{aP:#[κ×V]}{k:κ}(v:V)(d:fq aP k=M):gS aP k v=aP++[(k,v)]:=by
 delta gS;simp_all [uP]
theorem iw.R{o u}(r:iw o u):o.isSome=u.isSome:=by
 cases o with
 |none=>cases u with|none=>rfl|some _=>show(r).elim
 |some _=>cases u with|none=>show(r).elim|some _=>rfl
theorem iw.X{ae:V}{b:bc}{o u}(r:iw o u)(h:dk ae b):dk (o.getD ae)<|u.getD b:=by
 cases o with
 |none=>cases u with|none=>show h|some _=>show(r).elim
 |some _=>cases u with|none=>show(r).elim|some _=>show r
theorem kG.K{aP:#[κ×V]}{vs:#[κ×bc]}(r:kG aP vs)(k:κ):iw (fq aP k)<|Cf vs k:=by
 induction r with
 |nil=>show⟨⟩
 |@cons p q ay b d t g=>
  let(ab,ag):=d;by_cases e:p.1=k
  .let f:=ab.symm.trans e;let B:Cf (q::b) k=Y q.2:=by simp[Cf,f]
   rwa [ms e,B]
  .let f:¬q.1=k:=λz=>e<|ab.trans z;let B:Cf (q::b) k=Cf b k:=by simp[Cf,f]
   rwa [mu e,B]
theorem kG.S{aP vs}(r:kG aP vs)(k:κ):(aP.any λb=>bp<|b.1=k)=vs.any λb=>bp<|b.1=k:=by
 induction r with|nil=>rfl|cons d t e=>simp_all
theorem kG.X{aP vs}(r:kG aP vs)(k:κ)(h:dk y u):
  kG (aP.map λb=>if b.1=k then(b.1,y)else b)<|vs.map λb=>if b.1=k then(b.1,u)else b:=by
 induction r with
 |nil=>show ed
 |@cons p q ay g d t f=>
  rw[fg,fg];show eS ?_ f;let(ab,ag):=d;by_cases e:p.1=k;.simp_all
  simp_all
theorem kG.R(r:kG aP vs)(k:κ)(b:dk y u):kG (gS aP k y)<|stored vs k u:=by
 delta gS stored;rw[r.S k];by_cases e:(vs.any λf=>bp<|f.1=k)=J;.rw[bK e,bK e];show r.X k b
 .rw[be e,be e];show ux r (aa,b)
theorem kG.length{aP:#[κ×V]}{vs:#[κ×bc]}(r:kG aP vs):↑aP=↑vs:=jR r
end
def tm{w k}(r:dk (og k) u):(jx aq w).is k u=J:=by
 cases k with|inl i=>let(t,e):=(r);subst e;show(ahP i t)|inr x=>let(t,e):=(r);subst e;show(ahQ x t)
def akj{a B}(e:og a=og B):a=B:=by
 cases a with
 |inl i=>cases B with
  |inl j=>let b:=e;injection b with b;rw[b]
  |inr y=>show nomatch (e)
 |inr x=>cases B with|inl j=>show nomatch (e)|inr y=>let b:=e;injection b with b;rw[b]
theorem Ws{aq:fs}{w}:∀{bu b},dm (bu.map og) b->ItemsAre (jx aq w) bu b
 |[],_,r=>by rw[sX]at r;cases r;show .nil
 |k::bu,_,r=>by
  rw[fg]at r
  cases r with|cons d t=>show .cons (tm d)<|Ws t
abbrev ol(H:ap):#[#[ft]×V]->#[#[ft]×L×bc]->Prop:=eq λp q=>p.1=q.1/\eK H q.2.1 p.1/\dk p.2 q.2.2
theorem ol.K{H:ap}{aP:#[#[ft]×V]}{xs:#[#[ft]×L×bc]}(r:ol H aP xs)(k:#[ft]):iw (fq aP k) ((pW xs k).map (·.2)):=by
 induction r with
 |nil=>show⟨⟩
 |@cons p q ay b d t g=>
  let(ab,_,ag):=d;by_cases e:p.1=k
  .let f:=ab.symm.trans e;let B:pW (q::b) k=Y q.2:=by simp[pW,f]
   rwa [ms e,B]
  .let f:¬q.1=k:=λz=>e<|ab.trans z;let B:pW (q::b) k=pW b k:=by simp[pW,f]
   rwa [mu e,B]
theorem ol.X{aP xs}(r:ol H aP xs)(k:#[ft])(h:dk y u):
  ol H (aP.map λb=>if b.1=k then(b.1,y)else b)<|xs.map<|putAt k u:=by
 induction r with
 |nil=>show ed
 |@cons p q ay i d t f=>
  rw[fg,fg];show eS ?_ f;let(ab,ag,g):=d;delta putAt;by_cases e:p.1=k;.rw[bK e,bK<|ab.symm.trans e];show(ab,ag,h)
  .rw[be e,be<|λz=>e<|ab.trans z];show(ab,ag,g)
theorem ol.R(r:ol H aP xs)(k:#[ft]){B}(h:eK H B k)(b:dk y u):
  ol H (gS aP k y)<|Tg xs k B u:=by
 let e:(aP.any λf=>bp<|f.1=k)=(pW xs k).isSome:=by
  rw[uP,(r.K k).R,zK]
 delta gS Tg;rw[e];by_cases q:(pW xs k).isSome=J;.rw[bK q,bK q];show r.X k b
 .rw[be q,be q];show ux r (aa,h,b)
theorem ol.S{H af:ap}{aP:#[#[ft]×V]}{xs:#[#[ft]×L×bc]}(r:ol H aP xs)(b:∀B cv,H B=Y (.R cv)->af B=Y (.R cv)):ol af aP xs:=
 Paired.a0 r λ_ _ z=>(z.1,z.2.1.K b,z.2.2)
section
variable{aq:fs}{H:ap}{d:ez}
def Wt{u:bF}(b:gj aq w H d)(e:lq H a u):jy aq w H d a u:=e.K b
def uQ{aP}(b:gj aq w H d)(e:lq H a<|.a1 aP):↑aP<=ch/\(a==lg)=aX/\∃vs,kG aP vs/\d.DictOf (jx aq w) a vs:=
 Wt b e
def Wu{aP}(b:gj aq w H d)(e:H a=Y (.a1 aP)):↑aP<=ch/\(a==lg)=aX/\∃vs,kG aP vs/\d.DictOf (jx aq w) a vs:=uQ b<|aQ e
def akk{bu}(b:gj aq w H d)(e:H a=Y (.R<|bu.map og)):wT (jx aq w) d bu a:=by
 let(_,bh,r,o,ab,ag,n,f):=(b a _ e);show(o,bh.toArray,n,ab,ag,f,‹Ws r›)
def akl(h:gj aq w H d){bu vs b}(p:eq (wc H) bu vs)(r:dm vs b):eq (qh aq w d) bu b:=by
 induction p generalizing b with
 |nil=>cases r;show ed
 |@cons k v bu vs g t e=>
  cases r with
  |cons q u=>
   show eS ?_<|e u
   cases k with
   |inl k=>
    cases(g);show tm (aq:=aq) (w:=w) q
   |inr i=>
    let(c,rfl,f):=g;show(c,q,akk h f)
def sg(b:gj aq w H d)(e:eK H a bu):(jT aq w).is d bu a:=by
 let(vs,e,g):=e;let(_,bh,r,o,ab,ag,n,f):=(b a _ e);show(o,bh.toArray,n,ab,ag,f,‹akl b g r›)
def wk{aq:fs}(b:A.units+2<it):(jT aq w).room A.in1:=b
def tn{aP}(h:gj aq w H d)(e:lq H a<|.X aP):↑aP<=ch/\(a==lg)=aX/\
  ∃xs,ol H aP xs/\d.DictOfH (jT aq w) a xs:=by
 exists g;let(z,y,xs,r,o,bf,dz,ab,ag,i,j,v):=(Wt h e);show g (z,y,xs,r,o,bf,dz,ab,ag,i,j,λx b=>?_,v)
 let all:∀{l m},ol H l m->∀x∈m,(jT aq w).is d x.1 x.2.1:=by
  intro l m q
  induction q with
  |nil=>simp_all
  |@cons p q ay T f t A=>
   intro x b;let e||b:=cc.1 b;.subst e;show sg h<|f.1▸f.2.1
   .show A x b
 show all r x b
def Wv{aP}(b:gj aq w H d)(e:H a=Y (.X aP)):↑aP<=ch/\(a==lg)=aX/\
  ∃xs,ol H aP xs/\d.DictOfH (jT aq w) a xs:=tn b<|aQ e
end
def iA(H:ap)(a:L)(y:V)(r:bs V):Prop:=
 (∃aP k,lq H a (.a1 aP)/\y=og k/\r=fq aP k)∨∃aP k B,lq H a (.X aP)/\y=.K B/\eK H B k/\r=fq aP k
def om(H:ap)(a:L)(y v:V)(af:ap):Prop:=
 (∃aP k,H a=Y (.a1 aP)/\y=og k/\↑aP<ch/\af=a' H a (.a1<|gS aP k v))∨
 ∃aP k B,H a=Y (.X aP)/\y=.K B/\eK H B k/\↑aP<ch/\af=a' H a (.X<|gS aP k v)
theorem iA.K{H:ap}{aP:#[jh×V]}{a k}(e:H a=Y (.a1 aP)):iA H a (og k)<|fq aP k:=aQ (aP,k,aQ e,aa,aa)
theorem iA.R{a B k}(e:H a=Y (.X aP))(b:eK H B k):iA H a (.K B)<|fq aP k:=bl (aP,k,B,aQ e,aa,b,aa)
theorem om.R{H:ap}{a aP k v}(e:H a=Y (.a1 aP))(b:↑aP<ch):om H a (og k) v<|a' H a<|.a1<|gS aP k v:=aQ (aP,k,e,aa,b,aa)
theorem om.K{a B aP k v}(e:H a=Y (.X aP))(b:eK H B k)(h:↑aP<ch):
  om H a (.K B) v<|a' H a<|.X<|gS aP k v:=bl (aP,k,B,e,aa,b,h,aa)
section
variable[bz]{C:bW}{D:ck}{H:ap}{y v:V}{r:bc}{o:bs V}
def aS.d7(b:aS C am D H s):lg<s.heap.objs.size:=s_ ⋯<|(b.c5.R.keeps b.b8).lt
def akm{Q}(a2:A.units+2<it)(h:aS C am D H s)(g:iA H a y<|Y v)(a1:dk y u)(d:∀b aT,aS C am D H aT->dk v b->Q b aT):
  bP (b' aAw aAx) A (rF (I a) u) Q au s:=by
 let (aP,k,e,f,l)||(aP,k,B,e,f,q,l):=g;.subst f;let(z,w,vs,i,j):=uQ h.R e;let(b,m,o):=iw.K (by rw[l];show i.K k);show wpAny_getItem_of (tm a1) j.mapOf m<|d b _ (h.X _) o
 .subst f;cases(a1);let(z,w,xs,i,j):=tn h.R e;let(b,m,o):=iw.K (by rw[l];show i.K k);let(p,x,T):=e_.1 m;show wpAny_getItem_heap (wk a2) (sg h.R q) j x ?_;rw[T];show d b _ (h.X _) o
def akn{Q}(a2:A.units+2<it)(b:aS C am D H s)(g:iA H a y o)(a1:dk y u)(d:∀aT,aS C am D H aT->Q (ic o.isSome) aT):
  bP (b' aAw aAx) A (jt .In u<|I a) Q au s:=by
 let (aP,k,e,f,l)||(aP,k,B,e,f,m,l):=g;.subst f;let(z,h,vs,i,j):=uQ b.R e;show wpAny_in_of (tm a1) h j.mapOf ?_;rw[<-(i.K k).R,<- l];show d _<|b.X _
 .subst f;cases(a1);let(z,h,xs,i,j):=tn b.R e;show wpAny_in_heap (wk a2) (sg b.R m) h j ?_;let q:=(i.K k).R;rw[zK]at q;rw[<- q,<- l];show d _<|b.X _
def ako{Q}(a2:A.units+2<it)(b:aS C am D H s)(g:iA H a y o)(a1:dk y u)(d:∀aT,aS C am D H aT->Q (ic<|!o.isSome) aT):
  bP (b' aAw aAx) A (jt B_ u<|I a) Q au s:=by
 let (aP,k,e,f,l)||(aP,k,B,e,f,m,l):=g;.subst f;let(z,h,vs,i,j):=uQ b.R e;show wpAny_notIn_of (tm a1) h j.mapOf ?_;rw[<-(i.K k).R,<- l];show d _<|b.X _
 .subst f;cases(a1);let(z,h,xs,i,j):=tn b.R e;show wpAny_notIn_heap (wk a2) (sg b.R m) h j ?_;let q:=(i.K k).R;rw[zK]at q;rw[<- q,<- l];show d _<|b.X _
def DQ{bg b}(h:aS C am D H s)(fD:uA<|H a)(aw:wU a s.heap bg)(a1:∃q,bg.get? a=Y q)(a2:jy aAw aAx (a' H a b) bg a b):
  aS C am D (a' H a b) {s with heap:=bg,toks:=cZ}:=
 h.b7 fD (aQ aa) (λB q e z=>(aw.2 B e).trans z) a1 a2
def Ww{w bg aP}(z:↑aP<=ch)(b:(a==lg)=aX)(h:kG aP vs)(a1:bg.DictOf (jx aq w) a vs):
  jy aq w af bg a<|.a1 aP:=(z,b,vs,h,a1)
def akp{af Q}(a3:A.units+2<it)(b:aS C am D H s)(g:om H a y v af)(a1:dk y u)(a2:dk v r)(d:∀aT,aS C am D af aT->Q () aT):
  bP (b' aAw aAx) A (setItem (I a) u r) Q au s:=by
 let (aP,k,e,i,l,j)||(aP,k,B,e,i,w,l,j):=g
 .subst i j;let(z,m,vs,f,o):=Wu b.R e;let hz:=f.length▸z;let p:↑(gS aP k v)<=ch:=by have:=yp aP k v;show db this l
  show wpAny_setItem_pairs (tm a1) o λbg h aw=>d _ ?_;let T:∃q,bg.get? a=Y q:=h.elim λq z=>z.elim λ_ z=>z.elim λ_ z=>(q,z.1);show DQ b (by rw[e];show⟨⟩) aw T<|Ww p m (f.R k a2) h
 .subst i j;cases(a1);let(z,m,xs,f,o):=Wv b.R e;let hz:=(jR f)▸z;let p:↑(gS aP k v)<=ch:=by have:=yp aP k v;show db this l
  show wpAny_setItem_heap (wk a3) (sg b.R w) o λbg h aw=>d _ ?_;exists U;let(q,bf,dz,x,ag,V,a0,_,a4):=h;show U<|DQ b (by rw[e];show⟨⟩) aw (q,x) (p,m,_,(f.R k w a2).S λc cv a5=>?_,q,bf,dz,x,ag,V,a0,a4);rwa [bS<|qi a5 e<|λz=>(by cases z)]
end
section
variable[bz]{C:bW}{D:ck}{H:ap}{aP:#[jh×V]}{k:jh}
end
def Pr(i:dD):Prop:=∀b e,Tb i aX b e=operate [b,e] (rF b e)
def Wx{eR w A s dp T hy}
 (a2:typeLookup (cF T) "__getitem__"=gt (Y<|ju hy))(aw:Pr h)
 (d:bP (b' eR w) A (dx iG dp) (λo a1=>bP (b' eR w) A (dx h dp) (λi b=>b.TypeIs o T/\bP (b' eR w) A (rF o i) Q au b) au a1) au s):
  bP (b' eR w) A (dx (sB iG h bj) dp) Q au s:=by
 show agi<|ob d (λo a1 j=>ob j (λi b e=>?_) λ_ _ x=>x) λ_ _ x=>x;let(f,e):=e;show bq ?_;rw[getitemInPython_of_ne f.not_modules];show bq<|afF f a2 ?_;let fin:bP (b' eR w) A (Tb h aX o i) (λr g=>bP (b' eR w) A (letTemporaryGo iG o r>>=λ_=>gt r) Q au g) au b:=by
  rw[aw o i];show wpAny_operating<|ob e (λr g l=>bq<|wpAny_letTemporaryGo<|c_ l) λ_ _ x=>x
 first
  |show c_<|bq fin
  |grind
  |grind
inductive Wy(Q:ca)(x:V)(y:V)(aH:ap):Prop|mk(a:_)(v:_):(x=.K a)->(iA aH a y<|Y v)->(Q v aH)->Wy Q x y aH
def akq(fK ev:bT):bT:=λD H Q=>fK D H λx al=>ev D al λy aH=>Wy Q x y aH
inductive Wz(Q:ca)(y:V)(x:V)(aH:ap):Prop|mk(a:_)(o:_):(x=.K a)->(iA aH a y o)->(Q (.X o.isSome) aH)->Wz Q y x aH
def akr(ev fK:bT):bT:=λD H Q=>ev D H λy al=>fK D al λx aH=>Wz Q y x aH
inductive WA(Q:ca)(y:V)(x:V)(aH:ap):Prop|mk(a:_)(o:_):(x=.K a)->(iA aH a y o)->(Q (.X<|!o.isSome) aH)->WA Q y x aH
def aks(ev fK:bT):bT:=λD H Q=>ev D H λy al=>fK D al λx aH=>WA Q y x aH
inductive WB(aj:gQ)(D:ck)(v:V)(x:V)(y:V)(b:ap):Prop|mk(a:_)(h:_):(x=.K a)->(om b a y v h)->(aj.K D h)->WB aj D v x y b
def WC(fK ev hv:bT):gz:=λaj D H=>hv D H λv al=>fK D al λx aH=>ev D aH λy b=>WB aj D v x y b
section
variable[bz]{C:bW}{o i e iG:dD}{jH vu:iK}{fK ev hv:bT}
def yq(h:C.R.units+2<it)(a1:bn C o fK)(aR:bn C i ev)(aw:Pr i):bn C (sB o i bj)<|akq fK ev:=by
 intro am s D H Q j d;show Wx awC.lookup aw<|a1.K j d λu V x al l bC m=>aR.K l m λa0 a2 y aH b p q=>?_;exists w;let(a,v,d',g,A):=q;subst d';obtain rfl:u=I a:=bC;show w ((by
   let (aP,k,e,_,_)||(aP,k,B,e,_,_,_):=g;.let(_,_,vs,_,f):=uQ b.R e;show f.typeIs
   .let(_,_,xs,_,f):=tn b.R e;show f.typeIs),akm h b g p λa3 a4 T U=>(v,aH,T,U,A))
def akt(b:C.R.units+2<it)(aR:bn C i ev)(h:bn C o fK):re C .In i o<|akr ev fK:=by
 intro am s D H Q e d;show aR.K e d λA T y al f j l=>h.K f l λu U x aH m bC p=>?_;let(a,q,d',g,v):=p;subst d';obtain rfl:u=I a:=bC;show akn b m g j λV w=>(.X q.isSome,aH,w,aa,v)
def AA(b:C.R.units+2<it)(aR:bn C i ev)(h:bn C o fK):re C B_ i o<|aks ev fK:=by
 intro am s D H Q e d;show aR.K e d λA T y al f j l=>h.K f l λu U x aH m bC p=>?_;let(a,q,d',g,v):=p;subst d';obtain rfl:u=I a:=bC;show ako b m g j λV w=>(.X<|!q.isSome,aH,w,aa,v)
def sh(b:C.R.units+2<it)(h:bn C o fK)(aR:bn C i ev)(a1:bn C iG hv)(aw:vy iG (Y<|sB o i jH) bj.line C.K=gt aX):
  ix C (zi [sB o i jH] iG bj)<|WC fK ev hv:=by
 intro am s D H aj e d;show wpAny_Assign_Subscript (a1.K e d λr a0 v al f j l=>h.K f l λu a2 x aH m bC p=>aR.K m p λa3 a4 y a5 q w A=>?_) aw;let(a,T,d',g,U):=A;subst d';obtain rfl:u=I a:=bC;show akp b q g w j λa6 V=>(D,T,V,U)
end
def aku{w}(d:ez)(b:lg<d.objs.size):jy aq w H (d.push {cls:=cF "dict",data:=i' #[]}) d.objs.size<|.a1 []:=
 (ex _,un.2<|mT<|ie b,[],ed,Heap.DictOf.new d)
def akv:bT:=λ_ H Q=>∀p,H p=M->Q (.K p) (a' H p<|.a1 [])
def akw:bT:=λ_ H Q=>∀p,H p=M->Q (.K p) (a' H p<|.X [])
section
variable[bz]{C:bW}
def yr:bn C (.Dict [] [] bj) akv:=λam s D H Q b d=>
 awD (.K s.heap.objs.size,_,b.b1 (λ_ _ q=>hr _ q) dw<|aku s.heap b.d7,aa,d _<|b.R.K dw)
def pl:bn C (.Dict [] [] bj) akw:=λam s D H Q b d=>
 awD (.K s.heap.objs.size,_,b.b1 (λ_ _ q=>hr _ q) dw<|((λd e=>(ex _,un.2<|mT<|ie e,[],ed,_, #[],0,jf _ aa,(aa,aa,aa),aa,aa,lP)) s.heap b.d7),aa,d _<|b.R.K dw)
end
structure WD[bz](C:bW)(o:dD)(m:E)(fm:iK)(e f:dD)(ks:iK):Prop where
 K:sD o m C.K (dx o C.K)=dx o C.K
 R:((h' ks<|er [e,f] C.K).all (λx=>!x.1)&&(sF ks<|sG [] C.K).all (λx=>x.1.isSome)
  &&bp (↑([e,f]:#[dD])+↑([]:#[ud])+(if([]:#[ud]).isEmpty then 0 else 1)<30))=J
 S:(fm.endLine==ks.line)=J
 X:h' ks (er [e,f] C.K)=[(aX,dx e C.K),(aX,dx f C.K)]
def DR(H:ap)(a:L):Prop:=(∃aP,lq H a (.a1 aP))∨∃aP,lq H a (.X aP)
def WF[bz]{s a}(h:aS C am D H s)(ae:DR H a):
  s.TypeIs (I a) "dict" /\(∀B,I a=I B->∃b,s.heap.get? B=Y b/\b.dict=M)/\(a==lg)=aX:=by
 let (aP,e)||(aP,e):=ae;.let(_,g,vs,_,f):=uQ h.R e;show(f.typeIs,λB q=>?_,g);cases q;let(b,_,_,ab,ag,_):=f;show(b,ab,ag.2.1)
 .let(_,g,xs,_,f):=tn h.R e;show(f.typeIs,λB q=>?_,g);cases q;let(b,_,_,ab,ag,_):=f;show(b,ab,ag.2.1)
section
variable[bz]{C:bW}{D:ck}{H:ap}{y ae:V}{r:bc}{o:bs V}
def akx{Q}(a4:A.units+2<it)(b:aS C am D H s)(g:iA H a y o)(a1:dk y u)(a2:dk ae r)(d:∀a3 aT,aS C am D H aT->dk (o.getD ae) a3->Q a3 aT):
  bP (b' aAw aAx) A (qX (ju "dict.get") [I a,u,r]) Q au s:=by
 let (aP,k,e,h,l)||(aP,k,B,e,h,m,l):=g;.subst h;let(z,i,vs,j,f):=uQ b.R e;show xy ags f.typeIs awF (awG _ _ _) (meets_dict_get_default (jx aAw aAx) a (tm a1) i r) (_,f.mapOf,d _ _ (b.X _) ?_);rw[l];show(j.K k).X a2
 .subst h;cases(a1);let(z,i,xs,j,f):=tn b.R e;show xy ags f.typeIs awF (awG _ _ _) (meetsH_dict_get_default (jT aAw aAx) a B i r) (wk a4,k,xs,sg b.R m,f,d _ _ (b.X _) ?_);rw[l];show(j.K k).X a2
end
def aky(fK ev ry:bT):bT:=λD H Q=>fK D H λx al=>∃a,x=.K a/\DR al a/\ev D al λy aH=>ry D aH λz b=>∃o,iA b a y o/\Q (o.getD z) b
section
variable[bz]{C:bW}{o e f:dD}{fm ks:iK}{fK ev ry:bT}
def DS(h:C.R.units+2<it)(a1:bn C o fK)(a2:bn C e ev)(a3:bn C f ry)(m:WD C o "get" fm e f ks):bn C (gw (hU o "get" fm) [e,f] [] ks)<|aky fK ev ry:=by
 intro am s D H Q i d;show awH m.K m.R m.S awK ags PySem.F.type_dict_get<|a1.K i d λu a4 x al g bC b=>?_;exists j;let(a,d',ae,l):=b;subst d';obtain rfl:u=I a:=bC;let(ef,p,_):=WF g ae;show j (ef,p,?_);rw[m.X];show up aa<|xw<|xu<|a2.K g l λa5 a6 y aH q v w=>
  xu<|a3.K q w λa7 a8 z A T U b=>b.elim λa9 b=>S_<|akx h T b.1 v U λb0 b1 V a0=>(_,A,V,a0,b.2)
end
section
variable[bz]{C:bW}{D:ck}{H:ap}{aP:#[jh×V]}
end
section
variable[bz]{C:bW}{D:ck}{H:ap}{y:V}
end
section
variable{eR:fs}
end
section
variable[bz]{C:bW}
theorem ys:∀{ay:#[L]}{b:#[bc]},dm (ay.map V.K) b->b=ay.map I
 |[],b,r=>by
  rw[sX]at r;cases r;rfl
 |p::ay,b,r=>by
  rw[fg]at r
  cases r with
  |cons d t=>
   cases d;rw[fg,<- ys t]
end
def akz:BV "reversed"=Y (cF "reversed"):=by rfl'
section
variable[bz]{C:bW}{D:ck}{H:ap}{bg:ez}
def aS.f5{cZ:O}{lF:#[L]}{T:L}{f8:bF}(f7:aS C am D H s)(k:∀B o,B∉lF->s.heap.get? B=Y o->bg.get? B=Y o)(h:∀B∈lF,rf C am H B)(f9:s.heap.objs.size<=T)
 (g0:jy aAw aAx (a' H T f8) bg T f8):aS C am D (a' H T f8) {s with heap:=bg,toks:=cZ}:=by
 let g:=f7.R.K f9;let i:∀B u,H B=Y u->B∉lF:=λB u e z=>by
  let q:=(h B z).1;rw[q]at e;cases e
 show f7.step (λB f=>((h B f).2.2.2.1,(h B f).2.1,(h B f).2.2.2.2.1,(h B f).2.2.2.2.2)) (λB o _ _ b e _=>k B o b e) (λB o _ _ b e _=>(o.slots,k B o b e))
  (λB o _ e n=>?_) (λB o b e=>(o,k B o b e)) (λB xs e=>?_) (λB o u e=>?_) (λB ay e=>(#[],?_)) (λm j=>?_) (λB u e=>?_) f7.a3;.rwa [bS<|ie<|ia (fZ e) f9]
 .rwa [bS<|fj e g]
 .rwa [bS<|fj e g]
 .rw[bS<|fj e g,e];show vK.2 aa
 .let(o,bf,dz,l,r):=j;show(o,bf,dz,k _ o (λz=>(h _ z).2.1 aa) l,r)
 .by_cases f:B=T;.simp_all [bG]
  .rw[bS f]at e;show(f7.R B u e).K (λc v b q=>k c v ?_ q) (λc q=>(bS<|fj q g)▸q) λc xs q=>(bS<|fj q g)▸q;let z||z:=b;.rw[z];show i B u e
   .show i c _ z
def aS.e8{u:bF}(b:aS C am D H s)(d:H ae=Y u)(fD:uA<|Y u):∃ei,aS C am D (a' H ae<|.a0 ei u) s:=by
 let x:=b.R ae u d
 let d':∃ei,s.heap.get? ae=Y ei:=by
  cases u with|K xs=>let(_,_,_,_,e):=x;show(_,e)|a1 aP=>let(_,_,_,_,o,_,_,e,_):=x;show(o,e)|X aP=>let(_,_,_,_,o,_,_,e,_):=x;show(o,e)|a4 ai n=>let(o,_,_,_,e,_):=x;show(o,e)|S ar aG ah=>let(_,_,_,e,_):=x;show(_,e)|a5 g=>let(_,(_,e),_):=x;show(_,e)|_=>show lh fD
 let(ei,e):=d';let f:jy aAw aAx (a' H ae<|.a0 ei u) s.heap ae<|.a0 ei u:=by
  show(e,x.K (λB v _ q=>q) (λB q=>?_) λB xs q=>?_);.rw[bS<|λz=>by rw[z,d]at q;cases q;show fD];show q
  .rw[bS<|λz=>by rw[z,d]at q;cases q;show fD];show q
 show(ei,b.b7 (d▸fD) (aQ aa) (λB v _ q=>q) (ei,e) f)
def aS.c1{u:bF}(h:aS C am D H s)(d:H ae=Y u)(fD:uA<|Y u):∀c' b,C.a6 ae≠Y (.a0 c' b):=λc' b e=>by
 let q:=h.S.X ae c' b e;rw[d]at q;cases q;show fD
def aS.c2{u:bF}(b:aS C am D H s)(d:H ae=Y (.a0 ei u))(f7:∀c' h,C.a6 ae≠Y (.a0 c' h)):aS C am D (a' H ae u) s:=by
 let f:∀B o,H B=Y o->(∀c' h,o≠.a0 c' h)->B≠ae:=λB o e j z=>by
  rw[z,d]at e;cases e;show j _ _ aa
 let neN:∀B,H B=M->B≠ae:=λB e z=>by rw[z,d]at e;cases e
 show(b.K,b.os,b.a3,(b.S.S,b.S.a0,λB o e n i=>?_,b.S.R,λB xs e=>?_,λB o x e=>?_,λB ay e=>?_),b.a2,b.a4,?_,λx c e=>?_,λp l=>?_,λB o e=>?_,b.a9);.rw[bS<|neN B<|b.S.K B o e n i];show b.S.K B o e n i
 .let q:=b.S.a1 B xs e;rwa [bS<|f B _ q<|λ_ _ z=>nomatch z]
 .let q:=b.S.X B o x e;rw[bS<|λz=>by rw[z]at e;show f7 _ _ e];show q
 .let(m,q):=b.S.a2 B ay e;show(m,(bS<|f B _ q<|λ_ _ z=>(by cases z))▸q)
 .rw[bS<|neN _ b.a5];show b.a5
 .rw[bS<|neN c<|b.a7 x c e];show b.a7 x c e
 .let(e,n,r):=b.a6 p l;show(e,(bS<|neN _ n)▸n,r)
 .by_cases g:B=ae;.rw[g,bG]at e;cases e;rw[g];let(_,x):=b.R ae _ d;show x.K (λc v _ q=>q) (λc q=>(bS<|f c _ q<|λ_ _ z=>nomatch z)▸q) λc xs q=>(bS<|f c _ q<|λ_ _ z=>nomatch z)▸q
  .rw[bS g]at e;show(b.R B o e).K (λc v _ q=>q) (λc q=>(bS<|f c _ q<|λ_ _ z=>nomatch z)▸q) λc xs q=>(bS<|f c _ q<|λ_ _ z=>nomatch z)▸q
end
def gQ.a2(aj:gQ)(ae:L)(u o:bF):gQ:=(λaU af=>af ae=Y o/\aj.K aU (a' af ae u),λv af=>af ae=Y o/\aj.R v (a' af ae u),λaU af=>af ae=Y o/\aj.a0 aU (a' af ae u),λaU af=>af ae=Y o/\aj.a1 aU (a' af ae u))
def akA(t:gz):gz:=λaj D H=>∃ae u,H ae=Y u/\uA (Y u)/\∀ei,t (aj.a2 ae u<|.a0 ei u) D (a' H ae<|.a0 ei u)
section
variable[bz]{C:bW}
def Ps{st t}(d:ix C st t):ix C st<|akA t:=by
 intro am s D H aj g i;let(ae,u,h,fD,i):=i;let(ei,j):=g.e8 h fD;show fR (d am s D _ _ j<|i ei) λf l q=>?_
 cases f with|next=>let(aU,af,b,e,q):=q;show(aU,_,b.c2 e<|g.c1 h fD,q)|brk=>let(aU,af,b,e,q):=q;show(aU,_,b.c2 e<|g.c1 h fD,q)|cont=>let(aU,af,b,e,q):=q;show(aU,_,b.c2 e<|g.c1 h fD,q)|ret v=>let(x,aU,af,b,r,e,q):=q;show(x,aU,_,b.c2 e<|g.c1 h fD,r,q)
def AB{dW s ax}(b:aS C am D H s)(o:hn)
 (T:th dW h [s.heap.objs.size] s.heap.objs.size a1)(st:a1 0<|s.heap.push o)(q:ax h H):Kx C am D dW ax (I s.heap.objs.size) {s with heap:=s.heap.push o,toks:=ee}:=by
 show(s.heap.objs.size,[s.heap.objs.size],a1,h,H,aa,b.b0 λB g e=>hr _ e,T,st,λB f=>?_,q);let e:=‹f›
 subst e;show b.c0 dw<|b.R.K dw
end
section
variable[bz]{C:bW}{dW:dD}
end
noncomputable def Pt(aA:eh)(a:L)(n:O):mV:=
 (λi H=>i<n/\∃(xs:#[V])(x:V),fa aA H a xs/\xs[n - 1 - i]? =Y x,λi H x af=>af=H/\∀xs,fa aA H a xs->xs[n - 1 - i]? =Y x,λi _=>n<=i)
theorem akB[bz]{dW}(a cx:L)(n:O):th dW (Pt aAv a n) [cx] cx<|λi d=>i<=n/\d.IsRevIter cx a ((n:N) - 1 -(i:O)) where
 a0:=by show dj.2 aa
 K:=λi d st B b=>by
  let e:=‹b›
  subst e;let(_,o,e,c,ae):=st;show(o,e,λv z=>by rw[ae]at z;cases z)
 R:=λi d bg st k=>(st.1,st.2.at λo e=>k cx (dj.2 aa) o e)
 S:=by
  intro C V i am s D H au f h st j;exists a3;let(a0,xs,x,a1,a2):=j;let(bh,a4,p,hz):=f.a1 a1;let(u,a5,a6):=a4.K a2;let(l,m,a7,q,w,T):=h cx (dj.2 aa);let(_,g):=st;let aB:(n:N) - 1 -((i:O):N)=((n - 1 - i:O):N):=by lia
  rw[aB]at g;show a3<|wpAny_pyNext_rev_item g p.isList ‹a5› λbg U a8=>?_;let a9:((n - 1 - i:O):N) - 1=(n:N) - 1 -((i+1:O):N):=by lia
  rw[a9]at U;let(o,e,c,ae):=id U;show(u,aa,x' e c ae ⋯ (x,H,(f.a8 (λB o b e=>(a8.2 B b).trans e) l m q w T),a6,(aa,λcv b0=>(f.d5 b0 a1)▸a2),(a0,U),λB b=>(h B b).1))
 done:=by
  intro C V i am s D H au f h st j;exists b1;let(l,m,a7,q,w,T):=h cx (dj.2 aa);let(a0,g):=st;let b3:n<=i:=j;let aB:(n:N) - 1 -((i:O):N)= -1:=by lia
  rw[aB]at g;show b1<|wpAny_pyNext_rev_end (f.K.K V) g λbg b2=>(aa,f.a8 (λB o b e=>b2 B o b e) l m q w T)
 X:=λA i s Q au st d=>awP st.2 d
def akC(aA:eh)(bt:gP):rg:=λD H ax=>bt D H λvs al=>∃(a:L)(xs:#[V]),vs=[.K a]/\fa aA al a xs/\ax (Pt aA a ↑xs) al
section
variable[bz]{C:bW}{dW:dD}
def WG{p}(h:jV C "reversed")(a1:aAy "reversed"=M)(a2:jU C [e] bt)(aw:autoParam (er [e] C.K=[(aX,dx e C.K)]) r_5):sb C dW (gw (ge "reversed" p) [e] [] bj)<|akC aAv bt:=by
 intro am s D H ax b d;show Call_<|xW b h a1 akz<|Aa (a2.K bj b d λv w vs al f g i=>?_) aw aa;let(a,xs,e,j,q):=i;subst e
 cases g with
 |cons r l=>
  cases l;cases r;let(bh,m,o,hz):=f.a1 j;let x:=m.length;let aB:((bh.toArray.size:O):N) - 1=(↑xs:N) - 1 -((0:O):N):=by rw[jw];lia
  show call_reversed_list o.isList<|awP (_,jf _ aa,aa,aa) ?_;show AB f _ (akB a _ ↑xs) (ex _,?_) q;rw[<- aB];show(_,jf _ aa,aa,aa)
end
noncomputable def Pu(x:E):mV:=(λi _=>i<x.cps.size,λi H v af=>af=H/\∃c,x.cps[i]? =Y c/\v=.S ⟨[c].toArray⟩,λi _=>x.cps.size<=i)
theorem WH[bz]{dW}(cx:L)(x:E)(t:nl)(ev:oT)(h:ev="str_ascii_iterator" ∨ev="str_iterator"):
  th dW (Pu x) [cx] cx<|λi d=>d.IsStrIter cx ev x t i where
 a0:=by show dj.2 aa
 K:=λi d st B b=>by
  let e:=‹b›
  subst e;let(o,e,c,ae):=st;show(o,e,λv z=>by rw[ae]at z;cases z)
 R:=λi d bg st k=>let(o,a1,r):=st;(o,k cx (dj.2 aa) o a1,r)
 S:=by
  intro C g i am s D H au f j st T;exists a2;let(l,m,a3,p,q,w):=j cx (dj.2 aa);let W:Walks aAw aAx C.R cx [cx] [cx] x.cps.size (SignAt x)<|λi d=>d.IsStrIter cx ev x t i:=by
   let e||e:=h;.rw[e];show Walks.strAscii (f.K.K g) cx x t
   .rw[e];show Walks.strWide (f.K.K g) cx x t
  let a4:["enumerate","zip","dict_itemiterator","dict_reverseitemiterator","odict_iterator","itertools.zip_longest","itertools.pairwise"].contains ev=aX:=by
   let e||e:=h;.rw[e];decide
   .rw[e];decide
  show a2<|W.item i s _ _ T st λv bg ee a5 V a6=>?_;exists a7;let(c,u,a8,rfl):=a5;let a9:aS C am D H {s with heap:=bg,toks:=ee}:=f.a8 (λB o b e=>a6 B o ‹b› e) l m p q w;let(b2,e,b0,b1):=id V;show a7 (_,aa,x' e b0 b1 a4 (.S ⟨[c].toArray⟩,H,a9,(u,aa),(aa,c,a8,aa),V,λB b=>(j B b).1))
 done:=by
  intro C g i am s D H au f j st T;let(l,m,a3,p,q,w):=j cx (dj.2 aa);let a0:=awQ T;let e||e:=h;.rw[e]at st;show wpAny_pyNext_ascii_end (f.K.K g) st a0 λbg U=>(aa,f.a8 (λB o b e=>U B o b e) l m p q w)
  .rw[e]at st;show wpAny_pyNext_wide_end (f.K.K g) st a0 λbg U=>(aa,f.a8 (λB o b e=>U B o b e) l m p q w)
 X:=λA i s Q au st d=>by
  let e||e:=h;.rw[e]at st;show wpAny_pyIter_striter_ascii st d
  .rw[e]at st;show wpAny_pyIter_striter_wide st d
def akD(ej:bT):rg:=λD H ax=>ej D H λv al=>∃x,v=.S x/\ax (Pu x) al
def akF[bz]{dW}(h:bn C e ej):sb C dW e<|akD ej:=by
 intro am s D H ax g d;show h.K g d λv l y al b i j=>?_;let(x,d',q):=j;subst d';let(t,rfl):=i;cases f:x.cps.all (·<128);.show wpAny_pyIter_wide f<|AB b _ (WH _ x t "str_iterator"<|bl aa) (_,jf _ aa,aa,aa) q
 .show wpAny_pyIter_ascii f<|AB b _ (WH _ x t "str_ascii_iterator"<|aQ aa) (_,jf _ aa,aa,aa) q
section
variable{eR:fs}
def Pw{o bf}(a1:(ae==lg)=aX)(b:s.heap.get? ae=Y o)(a2:o.ExactDict)(h:o.data=i' bf dz)
 (a3:Q (I s.heap.objs.size) {s with heap:=s.heap.push {cls:=cF "dict_keyiterator",data:=qV #[I ae,ew 0 0,ew bf.size 0,ew dz 0]}}):
  bP (b' eR w) A (Hm<|I ae) Q au s:=by
 let e:s.TypeIs (I ae) "dict":=(o,b,a2.1);show awR e awS<|rS awS e F.entry_dict_iter (bq<|bq<|awT e<|c_ ?_)<|F.args_dict_iter_1 _;change bP _ _ (awU ae>>=_) _ _ s;delta awU;rw[be<|a1▸gh];show bq<|c_<|bq<|zP b h<|bq<|agt b h<|bq<|sW<|c_ (_,aa,"dict_keyiterator",_,(_,jf _ aa,aa),xz.lookup,?_);assumption
def WK{i n ei bf h}(b:s.heap.IsKeyIter cx ae i n dz)(a1:s.heap.get? ae=Y ei)(a2:ei.data=i' bf dz)
 (hsz:bf.size=n)(a3:bf[i]? =Y h)(a4:∀bg,bg.IsKeyIter cx ae (i+1) n dz->wU cx s.heap bg->Q (Y h.key) {s with heap:=bg}):bP (b' eR w) A (Hl<|I cx) Q au s:=by
 let(o,f,j,e):=id b;show bq<|agu<|zD b.typeIs xz
 <|rS xz b.typeIs awV ?_<|awW _;show bq<|c_<|bq<|bq ?_;first|show bq<|CF b.typeIs<|c_ ?_|grind
 show bq<|wpAny_fieldsOf f e ?_;change bP _ _ (if(I ae==go)=J then _ else _) _ _ s;rw[be<|show¬((I ae==go)=J)from gh];show bq<|c_<|bq<|zP a1 a2 ?_;rw[be<|by rw[hsz];simp];show bq<|c_<|bq<|agt a1 a2 ?_;rw[be<|by simp];show c_ ?_;let(l,m):=awX.1 a3;simp only[pd,Kc l];show bq ?_;first|show bq<|CF b.typeIs<|c_ ?_|show bq<|wpAny_typeNameOf_keyiter b.typeIs<|c_ ?_
 show bq<|awZ b.typeIs ?_;change bP _ _ (setField (I cx) 1 (rawInt<|(i:N)+1)>>=_) _ _ s;show bq<|wpAny_setField f e (by simp) ?_;let g:(s.heap.update cx (Obj.mapFields (·.setIfInBounds 1<|rawInt<|(i:N)+1))).IsKeyIter cx ae (i+1) n dz:=
  (_,agm _ f<|Obj.isFreed_of_fields<|axa e _,(Obj.cls_mapFields ..).trans j,by rw[axa e];simp[rawInt]);show bq<|qb<|bq<|awZ g.typeIs ?_;rw[m];show c_<|c_ (_,aa,c_<|a4 _ g<|xQ ..)
def Px{i n ei bf}(a2:A.handled=M)(b:s.heap.IsKeyIter cx ae i n dz)(h:s.heap.get? ae=Y ei)(a1:ei.data=i' bf dz)
 (hsz:bf.size=n)(a3:n<=i)(a4:∀bg,Heap.ExtBut cx s.heap bg->Q M {s with heap:=bg}):bP (b' eR w) A (Hl<|I cx) Q au s:=by
 let(o,e,g,f):=id b;show bq<|agu<|zD b.typeIs xz
 <|rS xz b.typeIs awV ?_<|awW _;show bq<|c_<|bq<|bq ?_;first|show bq<|CF b.typeIs<|c_ ?_|show bq<|wpAny_typeNameOf_keyiter b.typeIs<|c_ ?_
 show bq<|wpAny_fieldsOf e f ?_;change bP _ _ (if(I ae==go)=J then _ else _) _ _ s;rw[be<|show¬((I ae==go)=J)from gh];show bq<|c_<|bq<|zP h a1 ?_;rw[be<|by rw[hsz];simp];show bq<|c_<|bq<|agt h a1 ?_;rw[be<|by simp];show c_ ?_;simp only[pd,awQ (hsz▸a3)];show bq ?_;first|show bq<|CF b.typeIs<|c_ ?_|show bq<|wpAny_typeNameOf_keyiter b.typeIs<|c_ ?_
 change bP _ _ (setField (I cx) 0 go>>=_) _ _ s;show bq (wpAny_setField e f (size_pos_of_not_empty aa) (bq (bq (sW (bq<|wpAny_of_eq (by first|rfl|(rfl))<|sW (bq<|wpAny_handled ?_)<|by size_fits) (by size_fits)))));rw[a2];show bq<|c_<|wpAny_throw ?_;show bq<|avP (_,jf _ aa,aa) isSubtype_stop ?_;show c_<|a4 _<|((xQ ..).extBut.push _).push _
end
def akG{κ aP vs}(d:kG aP vs):∀{i:O}{k:κ}{v:V},aP[i]? =Y (k,v)->∃u,vs[i]? =Y (k,u)/\dk v u:=by
 induction d with
 |nil=>intro i k v e;simp at e
 |@cons a B l₁ l₂ r t b=>
  intro i k v e
  cases i with
  |zero=>
   simp at e;subst e;show(B.2,dP Y<|pc r.1.symm aa,r.2)
  |succ j=>
   show b e
def qo{eB:Type}{az:α->eB->Prop}{l₁:#[α]}{l₂:#[eB]}(d:eq az l₁ l₂):∀{i:O}{a:α},l₁[i]? =Y a->∃B,l₂[i]? =Y B/\az a B:=by
 induction d with
 |nil=>intro i a e;simp at e
 |@cons a B l₁ l₂ r t b=>
  intro i f e
  cases i with
  |zero=>
   simp_all
  |succ j=>
   show b e
section
variable[bz]{C:bW}{D:ck}{H:ap}{ae:L}{o:hn}
def aS.d8{aP}(f7:aS C am D H s)(d:H ae=Y (.a0 o<|.a1 aP)):
  (ae==lg)=aX/\s.heap.get? ae=Y o/\o.ExactDict/\∃(bf:gv vA)(dz:O)(vs:#[jh×bc]),o.data=i' bf dz/\bf.size=↑aP/\kG aP vs/\s.heap.DictAt (jx aAw aAx) ae vs dz:=by
 exists i;let(b,z,aw,vs,e,c',bf,dz,f,g,h,r):=f7.R ae _ d;rw[b]at f;cases f;show i (aw,b,g,bf,dz,vs,h,?_,e,o,bf,b,g,h,r);let j:=r.2.1.length;let l:=jR e;grind
def aS.d9{aP:#[#[ft]×V]}(f7:aS C am D H s)(d:H ae=Y (.a0 o<|.X aP)):
  (ae==lg)=aX/\s.heap.get? ae=Y o/\o.ExactDict/\∃(bf:gv vA)(dz:O),o.data=i' bf dz/\bf.size=↑aP/\
   ∀(i:O)(k:#[ft])(v:V),aP[i]? =Y (k,v)->∃(b:vA)(q:L),bf[i]? =Y b/\b.key=I q/\eK H q k:=by
 exists l;let(f,z,aw,xs,g,c',bf,dz,h,m,p,j,_):=f7.R ae _ d;rw[f]at h;cases h;show l (aw,f,m,bf,dz,p,?_,λi k v e=>?_);.let A:=axb j;let T:=jR g;lia
 .let(B,w,aB,x,_):=qo g e;let q:=entry_at j i;rw[w]at q;show(_,B.2.1,q,aa,x)
end
noncomputable def WP(ae:L)(o:hn)(aP:#[jh×V]):mV:=
 (λi H=>H ae=Y (.a0 o<|.a1 aP)/\i<↑aP,λi H x af=>af=H/\∃k v,aP[i]? =Y (k,v)/\x=og k,λi H=>H ae=Y (.a0 o<|.a1 aP)/\↑aP<=i)
noncomputable def Py(ae:L)(o:hn)(aP:#[#[ft]×V]):mV:=
 (λi H=>H ae=Y (.a0 o<|.X aP)/\i<↑aP,λi H x af=>af=H/\∃(k:#[ft])(v:V)(q:L),aP[i]? =Y (k,v)/\x=.K q/\eK H q k,λi H=>H ae=Y (.a0 o<|.X aP)/\↑aP<=i)
def DT{o:hn}{bf b:gv vA}{dz h:O}(d:o.data=i' bf dz)(bg:o.data=i' b h):b=bf/\h=dz:=by
 grind
section
variable[bz]{dW:dD}{ae:L}{o:hn}{bf:gv vA}{dz:O}
theorem akH{aP:#[jh×V]}(cx:L)(a3:o.data=i' bf dz):th dW (WP ae o aP) [cx] cx<|λi d=>d.IsKeyIter cx ae i ↑aP dz where
 a0:=by show dj.2 aa
 K:=λi d st B b=>by
  let e:=‹b›
  subst e;let(g,e,c,l):=st;show(g,e,λv z=>by rw[l]at z;cases z)
 R:=λi d bg st k=>st.at λg e=>k cx (dj.2 aa) g e
 S:=by
  intro C a4 i am s D H au f h st m;exists b0;let(q,aR):=m;let(w,T,b1,U,a0,a1):=h cx (dj.2 aa);let(aw,a5,b2,b3,b4,vs,j,hsz,a2,a6):=f.d8 q;let(rfl,rfl):=DT a3 j;obtain⟨⟨k,v⟩,a7⟩:∃p,aP[i]? =Y p:=(aP[i],gi aR);let(u,b5,c2):=akG a2 a7;let a8:=jR a2;rw[a8]at st;show b0<|wpAny_pyNext_dict_item st a6 b5 λb6 bg b7 b8 b9=>?_;let(g,e,c,l):=id b8;show(b6,aa,x' e c l ⋯ (og k,H,(f.a8 (λB a9 b e=>(b9.2 B b).trans e) w T U a0 a1),((λd=>by
    let (i,t,rfl,rfl)||(x,t,rfl,rfl):=qg d;.show(t,aa)
    .show(t,aa))<|b7),(aa,k,v,a7,aa),?_,λB b=>(h B b).1));rwa [a8]
 done:=by
  intro C a4 i am s D H au f h st m;exists c0;let(q,aR):=m;let(w,T,b1,U,a0,a1):=h cx (dj.2 aa);let(aw,a5,b2,b3,b4,vs,j,hsz,a2,a6):=f.d8 q;let(rfl,rfl):=DT a3 j;show c0<|Px (f.K.K a4) st a5 j hsz aR λbg c1=>(aa,f.a8 (λB a9 b e=>c1 B a9 b e) w T U a0 a1)
 X:=λA i s Q au st d=>axc st d
theorem akK{aP:#[#[ft]×V]}(cx:L)(a3:o.data=i' bf dz):th dW (Py ae o aP) [cx] cx<|λi d=>d.IsKeyIter cx ae i ↑aP dz where
 a0:=by show dj.2 aa
 K:=λi d st B b=>by
  let e:=‹b›
  subst e;let(h,e,c,l):=st;show(h,e,λv z=>by rw[l]at z;cases z)
 R:=λi d bg st k=>st.at λh e=>k cx (dj.2 aa) h e
 S:=by
  intro C a4 i am s D H au f j st m;exists a9;let(w,aR):=m;let(x,T,b0,U,a0,a1):=j cx (dj.2 aa);let(aw,a2,b1,b2,b3,g,hsz,a5):=f.d9 w;let(rfl,rfl):=DT a3 g;obtain⟨⟨k,v⟩,a6⟩:∃p,aP[i]? =Y p:=(aP[i],gi aR);let(b4,q,b5,b6,b7):=a5 i k v a6;show a9<|WK st a2 g hsz b5 λbg a7 b8=>?_;let(h,e,c,l):=id a7;show(b4.key,aa,x' e c l ⋯ (.K q,H,(f.a8 (λB a8 b e=>(b8.2 B b).trans e) x T U a0 a1),b6,(aa,k,v,q,a6,aa,b7),a7,λB b=>(j B b).1))
 done:=by
  intro C a4 i am s D H au f j st m;exists b9;let(w,aR):=m;let(x,T,b0,U,a0,a1):=j cx (dj.2 aa);let(aw,a2,b1,b2,b3,g,hsz,a5):=f.d9 w;let(rfl,rfl):=DT a3 g;show b9<|Px (f.K.K a4) st a2 g hsz aR λbg c0=>(aa,f.a8 (λB a8 b e=>c0 B a8 b e) x T U a0 a1)
 X:=λA i s Q au st d=>awR st.typeIs axd<|rS axd st.typeIs F.entry_dict_keyiterator_iter (c_ (_,aa,"dict_keyiterator",_,st.typeIs,xz.lookup,d))<|F.args_dict_keyiterator_iter_1 _
end
def akP(fK:bT):rg:=λD H ax=>fK D H λx al=>∃ae o,x=.K ae/\((∃aP,al ae=Y (.a0 o<|.a1 aP)/\ax (WP ae o aP) al)∨∃aP,al ae=Y (.a0 o<|.X aP)/\ax (Py ae o aP) al)
section
variable[bz]{C:bW}{dW e:dD}{fK:bT}{fm ks:iK}
def Pz(a1:bn C e fK):sb C dW e<|akP fK:=by
 intro am s D H ax j d;show a1.K j d λu m x al f bC l=>?_;let(ae,o,d',q):=l;subst d';obtain rfl:u=I ae:=bC;let (aP,g,q)||(aP,g,q):=q;.let(aw,h,i,bf,dz,vs,b,hsz,p,v):=f.d8 g;show Pw aw h i b<|AB f _ (akH _ b) (_,jf _ aa,aa,?_) q;rw[hsz]<;>rfl
 .let(aw,h,i,bf,dz,b,hsz,w):=f.d9 g;show Pw aw h i b<|AB f _ (akK _ b) (_,jf _ aa,aa,?_) q;rw[hsz]<;>rfl
end
noncomputable def DU(aA:eh)(a:L):mV:=
 (λi H=>∃(xs:#[V])(x:V),fa aA H a xs/\xs[i]? =Y x,λi H v af=>∃T x,v=.K T/\H T=M/\af=a' H T (.R [.R (i:O),x])/\∀xs,fa aA H a xs->xs[i]? =Y x,λi H=>∃xs:#[V],fa aA H a xs/\↑xs<=i)
theorem akQ[bz]{a5:#[dD]}{a6:O}{vu:iK}(a e cx:L):
  th (SS a5 a6 vu) (DU aAv a) [e,cx] e<|λi d=>(∃h,IsEnum d e cx ((i:O):N) h)/\d.IsListIter cx a i/\e≠cx where
 a0:=by show ig
 K:=λi d st B b=>by
  let((h,f),(o,U,V,a7),_):=st;let a0:=‹b›
  let z||z:=a0;.rw[z];show(_,f,λv q=>(by cases q))
  .rw[z];show(o,U,λv q=>by rw[a7]at q;cases q)
 R:=λi d bg st k=>let((h,f),aR,j):=st;((h,k e (ig) _ f),aR.at λo q=>k cx (CG aa) o q,j)
 S:=by
  intro C V i am s D H au g l st a1;exists a8;let((h,f),m,j):=st;let(xs,x,w,T):=a1;let(bh,a2,p,hz):=g.a1 w;let(u,a9,b0):=a2.K T;let b1:=fZ f;let c8:cx<s.heap.objs.size:=by let(_,q,_):=m;show fZ q
  show a8<|wpAny_pyNext_enum_item f m p.isList ‹a9› j λbg U b2 b3 hsz b4=>(_,aa,wpAny_letOwnedTupleGo_enum U λa4 c9 a3=>?_);let b5:jy aAw aAx (a' H s.heap.objs.size<|.R [.R (i:O),x]) a4 s.heap.objs.size<|.R [.R (i:O),x]:=
   (by change 2<=ch;decide,[ew i s.toks,u],eS (_,aa)<|eS b0 ed,(_,((a3.2 _<|Hk b1).trans b3),aa,_,aa));let b6:aS C am D (a' H s.heap.objs.size<|.R [.R (i:O),x]) {s with heap:=a4,toks:=s.toks+1}:=
   g.f5 (λB b7 b q=>(a3.2 B<|λz=>b<|by simp[z]).trans<|b4 B b7 (λz=>b<|by simp[z]) (λz=>b<|by simp[z]) q) l dw b5;show(.K s.heap.objs.size,_,b6,aa,(_,x,aa,g.R.K dw,aa,λcv b8=>(g.d5 b8 w)▸T),((u,?_),b2.at λo q=>(a3.2 cx<|mT j).trans q,j),λB b=>?_)
  .let aB:((i+1:O):N)=(i:N)+1:=by show Nat.ToInt.add_congr aa aa
   rwa [aB]
  .let b9:B<s.heap.objs.size:=by
    let a0:=‹b›
    let z||z:=a0;.rwa [z]
    .rwa [z]
   rw[bS<|ie b9];show(l B b).1
 done:=by
  intro C V i am s D H au g l st a1;exists c0;let((h,f),m,j):=st;let(xs,w,T):=a1;let(bh,a2,p,hz):=g.a1 w;let(c1,c2,d0,c3,c4,c5):=l cx (CG aa);let c6:=a2.length;show c0<|wpAny_pyNext_enum_end (g.K.K V) f m p.isList (by simp;show SV (id<|eW c6) T) λbg c7=>(aa,g.a8 (λB o b q=>c7 B o b q) c1 c2 c3 c4 c5)
 X:=λA i s Q au st d=>let((_,f),_):=st;axe f d
inductive WQ(aA:eh)(ax:mV->ap->Prop)(vs:#[V])(al:ap):Prop|mk(a:_)(xs:_):(vs=[.K a])->(fa aA al a xs)->(ax (DU aA a) al)->WQ aA ax vs al
def akR(aA:eh)(bt:gP):rg:=λD H ax=>bt D H λvs al=>WQ aA ax vs al
def PA[bz]{C p}(a1:jV C "enumerate")(a2:aAy "enumerate"=M)(a3:jU C [e] bt)(aw:autoParam (er [e] C.K=[(aX,dx e C.K)]) r_5):
  sb C (SS a4 a5 vu) (gw (ge "enumerate" p) [e] [] bj)<|akR aAv bt:=by
 intro am s D H ax g d;show Call_<|xW g a1 a2 boot_enumerate<|Aa (a3.K bj g d λU b vs al f j l=>?_) aw aa;let(a,xs,rfl,m,q):=l
 cases j with
 |cons r o=>
  cases o;cases r;let(bh,V,v,hz):=f.a1 m;show call_enumerate_list v.isList λbg h w hsz x=>axe h<|(b.heap.objs.size+1,[b.heap.objs.size+1,b.heap.objs.size],_,_,al,aa,(f.b0 x),akQ a (b.heap.objs.size+1) b.heap.objs.size,((go,h),w,Nat.succ_ne_self _),λB A=>?_,q);let T:=‹A›
  let i:b.heap.objs.size<=B:=by
   let z||z:=T;.rw[z];show nq _ _
   .rw[z];show kD _
  show f.c0 i<|f.R.K i
namespace Zm
end Zm
namespace TL
open PySem.Builtin PySem.Builtin.Str PySem.StrLaws
end TL
def WR{cv b}(d:dm (cv.map V.S) b):StrsAre b cv:=by
 induction cv generalizing b with
 |nil=>cases d;show .nil
 |cons y cv e=>
  cases d with
  |cons r t=>
   let(k,rfl):=r;show .cons y k<|e t
section
variable[bz]{C:bW}{D:ck}{H:ap}{Q:ca}
end
section
variable[bz]{C:bW}
def PB{hy:oT}{ar:E->Prop}{g:E->V}(rule:∀(a:E)(t:nl)(s:cQ)(Q:bc->cQ->Prop),ar a->(∀(u:bc)(k:O),dk (g a) u->Q u {s with toks:=k})->
  bP (b' aAw aAx) C.R (qX (ju hy) [nk a t]) Q C.S s):se C hy<|λx xs H Q=>∃a,x=.S a/\xs=[]/\ar a/\Q (g a) H:=by
 intro am s D H x xs v h Q b bC e d;let(a,rfl,rfl,f,d):=d;let(t,rfl):=bC;cases e;show rule a t s _ f λu k r=>(g a,H,b.X k,r,d)
def akS:se C "str.isdigit"<|λx xs H Q=>∃a,x=.S a/\xs=[]/\kz/\Q (.X<|agv a) H:=
 PB λ_ _ s _ _ d=>PySem.SC.isdigit<|d _ s.toks aa
def akT:se C "str.isalpha"<|λx xs H Q=>∃a,x=.S a/\xs=[]/\kz/\Q (.X<|agw a) H:=
 PB λ_ _ s _ _ d=>PySem.SC.isalpha<|d _ s.toks aa
def akU:se C "str.isalnum"<|λx xs H Q=>∃a,x=.S a/\xs=[]/\kz/\Q (.X<|Th a) H:=
 PB λ_ _ s _ _ d=>PySem.SC.isalnum<|d _ s.toks aa
end
section
variable[bz]{C:bW}{o e:dD}{jr ej:bT}
def akV(r:V->#[V]->ap->ca->Prop)(jr:bT):bT:=λD H Q=>jr D H λx al=>(∃a,x=.S a)/\r x [] al Q
def WS(r:V->#[V]->ap->ca->Prop)(jr ej:bT):bT:=λD H Q=>jr D H λx al=>(∃a,x=.S a)/\ej D al λy aH=>r x [y] aH Q
def PC{hy gH fm bj r}(h:Slot "str" gH hy)(ev:typeOf (ju hy)=gt (cF "method_descriptor"))(rule:se C hy r)(a1:bn C o jr)
 (a2:autoParam (sD o gH C.K (dx o C.K)=dx o C.K) r_5)(a3:autoParam ((fm.endLine==bj.line)=J) r_5):bn C (gw (hU o gH fm) [] [] bj)<|akV r jr:=by
 intro am s D H Q g d;show PySem.Call_method0 a2 a3<|a1.K g d λv i x al j f b=>?_;let((a,rfl),b):=b;let(t,rfl):=_root_.id f;show("str",_,agx,h,ev,Hp _ _ _,(λ_ e=>(by cases e)),up aa<|awu<|rule am i D al _ [] _ [] Q j f ed b)
def akW{hy gH fm bj r}(h:Slot "str" gH hy)(ev:typeOf (ju hy)=gt (cF "method_descriptor"))(rule:se C hy r)(a1:bn C o jr)(a2:bn C e ej)
 (aw:autoParam (er [e] C.K=[(aX,dx e C.K)]) r_5)(a3:autoParam (sD o gH C.K (dx o C.K)=dx o C.K) r_5)(a4:autoParam ((fm.endLine==bj.line)=J) r_5):
  bn C (gw (hU o gH fm) [e] [] bj)<|WS r jr ej:=by
 intro am s D H Q g d;show PySem.Call_method1 a3 aw a4<|a1.K g d λv w x al i f b=>?_;exists j;let((a,rfl),b):=b;let(t,rfl):=_root_.id f;show j ("str",_,agx,h,ev,Hp _ _ _,(λ_ e=>nomatch e),up aa<|xw<|xu<|a2.K i b λu l y aH m p q=>S_<|rule am l D aH _ [y] _ [u] Q m f (eS p ed) q)
def akX{fm bj}(h:bn C o jr)(a1:bn C e ej)(aw:autoParam (er [e] C.K=[(aX,dx e C.K)]) r_5)(a2:autoParam (sD o "join" C.K (dx o C.K)=dx o C.K) r_5)(a3:autoParam ((fm.endLine==bj.line)=J) r_5):
  bn C (gw (hU o "join" fm) [e] [] bj) (WS (λx xs H Q=>∃a p,∃cv:#[E],x=.S a/\xs=[.K p]/\(fa aAv H p (cv.map V.S)∨lT aAv H p (cv.map V.S))/\
   (cv.map (·.length)).sum+↑cv*a.length<=16777216/\Q (.S<|Txt.join a cv) H) jr ej):=
 akW F.slot_str_join F.type_str_join (by
   intro am s D H x xs v w Q f bC g d;let(a,p,cv,rfl,rfl,b,hz,d):=d;let(t,rfl):=bC
   cases g with
   |cons i g=>
    cases g;cases i;let b||b:=b;.exists j;let(bh,r,(o,n,h,l,_,m),_):=f.a1 b;show j<|aAi (o,h,l,n,m) (by rw[zQ];show WR r) hz λcZ k=>(.S _,H,f.X k,(cZ,aa),d)
    .let(bh,r,q,_):=f.b2 b;show aAj q (by rw[zQ];show WR r) hz λcZ k=>(.S _,H,f.X k,(cZ,aa),d)) h a1 aw a2 a3
end
section
variable[bz]{C:bW}
end
theorem IsPart.a0{v o}(p:sH v o):∃l:bs (N×nl),v=partValue l/\l.map (·.1)=o:=by
 cases p with|none=>show(M,aa,aa)|int i t=>show(Y (i,t),aa,aa)
noncomputable def PD(n ae:O):bs N->N|M=>(ae:N)|Y i=>max 0<|pS (if i<0 then i+(n:N)else i) (n:N)
theorem WT(n ae:O)(o:bs N):PD n ae o=((dn n ae o:O):N):=by
 cases o with
 |none=>rfl
 |some v=>
  change max (0:N) (pS (if v<0 then v+(n:N)else v) (n:N))=(((if v<0 then(v+(n:N)).toNat else pS v.toNat n):O):N);by_cases b:v<0;.simp only[bK b];lia
  .simp only[be b];lia
theorem akZ(a B:bs N)(n:O):zm a B 1 n=sliceRange (PD n 0 a) (PD n n B) 1:=by
 rfl
theorem ala(a B:bs N)(n:O):zm a B 1 n=(oS<|dn n n B - dn n 0 a).map (λk=>dn n 0 a+k):=by
 rw[akZ,WT,WT];generalize dn n 0 a=p;generalize dn n n B=q;simp only[sliceRange,show(0<(1:N))=kz from(eq_true_of_decide aa),xf];by_cases b:(p:N)<q
 .let e:(((q:N) - p+1 - 1)/1).toNat=q - p:=by first|lia|(done)|(lia)
  simp only[b,xf,e];show rb λk _=>?_;lia
 .have:q - p=0:=by lia
  simp[b,this]
noncomputable def AC(z:E)(bQ aR:bs N):E:=
 ⟨((z.cps.toList.drop<|dn z.length 0 bQ).take<|dn z.length z.length aR - dn z.length 0 bQ).toArray⟩
theorem WU(z:E)(bQ aR:bs N):Cg z bQ aR=AC z bQ aR:=by
 let ab:dn z.length 0 bQ<=z.length:=VB _ _ (ex _) _;let ag:dn z.length z.length aR<=z.length:=VB _ _ dw _;let b:dn z.length 0 bQ<=max (dn z.length 0 bQ) (dn z.length z.length aR):=Nat.le_max_left _ _;let f:=agy.2 (ab,ag);let g:max (dn z.length 0 bQ) (dn z.length z.length aR) - dn z.length 0 bQ=dn z.length z.length aR - dn z.length 0 bQ:=by lia
 let e:zm bQ aR 1 z.length=
   zm (Y ((dn z.length 0 bQ:O):N)) (Y ((max (dn z.length 0 bQ)<|dn z.length z.length aR:O):N)) 1 z.length:=by
  rw[aAk b f,g,ala]
 let h:Cg z bQ aR=
   Cg z (Y ((dn z.length 0 bQ:O):N)) (Y ((max (dn z.length 0 bQ)<|dn z.length z.length aR:O):N)):=by
  delta Cg;rw[e]
 rw[h,aAl z b f,g];rfl
def alb(z:E)(bQ aR:bs N):(AC z bQ aR).length<=z.length:=by
 change(((z.cps.toList.drop<|dn z.length 0 bQ).take<|dn z.length z.length aR - dn z.length 0 bQ).toArray).size<=z.cps.size;rw[jw,iQ,sV,sS];lia
def WV:V->bs N->bs N->ap->ca->Prop:=λx bQ aR H Q=>∃z,x=.S z/\z.length<=ch/\Q (.S<|AC z bQ aR) H
def alc[bz]:Au C WV:=by
 intro am s D H x v o p bQ aR dU Q e bC aw f g d;exists h;let(z,rfl,hz,q):=d;let(t,rfl):=bC;let(os,i,j,m):=aw;let(l,rfl,rfl):=IsPart.a0 f;let(u,rfl,rfl):=IsPart.a0 g;show h ("str",_,F.slot_str_getitem.lookup,Hp _ _ _,wpAny_getItem_str_slice (st:=M) (os,i,j,m) aa ?_);let b:(Cg z (l.map (·.1)) (u.map (·.1))).length<=ch:=by
  rw[WU];show db (alb z _ _) hz
 rw[<- WU]at q;delta Cg at q b;change Made.post (if((1:N)==1&&↑(zm (l.map (·.1)) (u.map (·.1)) 1 z.length)==z.length)=J then Made.val (nk z t)
  else Made.str ⟨((zm (l.map (·.1)) (u.map (·.1)) 1 z.length).filterMap (z.cps[·]?)).toArray⟩) (lR C am D Q) s;by_cases c:((1:N)==1&&↑(zm (l.map (·.1)) (u.map (·.1)) 1 z.length)==z.length)=J;.rw[bK c]at q⊢;show(.S z,H,e,(t,aa),q)
 .rw[be c]at q b⊢;show(b,.S _,H,e.X _,(_,aa),q)
namespace Zz
open PySem.W PySem.Calls
section
variable{eR:fs}{aA:eh}
end
end Zz
noncomputable def jk(s:dK)(j:O):dK:=match s with|.ClassDef _ _ _ b _ _ _ _ _ _ _=>b.getD j<|.Pass (0,0,0,0)|_=>.Pass (0,0,0,0)
noncomputable def on(s:dK):agz:=match s with|agA _ a _ _ _ _ _ _ _ _=>a|_=>{posonlyargs:=[],args:=[],vararg:=M,kwonlyargs:=[],kw_defaults:=[],kwarg:=M,defaults:=[]}
noncomputable def nx(s:dK):#[dK]:=match s with|agA _ _ B _ _ _ _ _ _ _=>B|_=>[]
noncomputable def dh(s:dK):mQ:=match s with|agA _ _ _ _ _ _ cB _ _ _=>cB|_=>{kind:=rB,names:=[],isGenerator:=aX,isCoroutine:=aX}
abbrev bH:jj:=λ_ _ _ _ _ _=>fC
abbrev qp:fQ:=λ_ _ _=>fC
def bm[bz]:kP bH C qp:=λ_ _ _ _ _ _ _ d=>d.elim
inductive WW(aA:eh)(x fo:E)(st:dK)(f:L)(dv:qW):Prop|mk(gb:bc)(ei:bs L)(iZ ke eF:bc)(kf:bs L)(hw iH:bc)(pP:gv<|bs bc):dv=pV x fo (on st) (nx st) (dh st) go iZ ke eF kf hw iH->aA.lookup f=Y (gb,ei,xd dv,pP)->xe aA hw fo=J->WW aA x fo st f dv
structure uR(aA:eh)(x fo:E)(st:dK)(f:L)(dv:qW):Prop where
 K:WW aA x fo st f dv
 R:rD aA (I f)=J
section
variable[bz]
theorem uR.S{x st f br ay k}(aC:uR aAv x fo st f dv)(ai:fu br ay<|dh st)(hx:∀vs H Q au,bX vs H Q au->↑vs=↑ay)
 (b:∀z H vs Q au,fz k (z.R.deeper<|z.K fo<|dh st)->bX vs H Q au->yk (iy bH br fo (dh st) z H au).b1 (nx st) br vs Q H):km aAw aAx aAv aAy aAB bH (k+1) f dv ay bX:=by
 exists e;let(gb,ei,iZ,ke,eF,kf,hw,iH,pP,rfl,g,h):=aC.K;show e<|Vz g h ai hx λz H vs Q au i j=>?_;let(t,d,q):=b z H vs Q au i j;show(t,d.K,q)
theorem uR.X{x st f ay}(aC:uR aAv x fo st f dv)
 (d:∀iZ ke eF kf hw iH b,↑b=↑ay->S' (pV x fo (on st) (nx st) (dh st) go iZ ke eF kf hw iH) (b,[])=gt (ay.zip b)):pi aAv dv ay []:=by
 let(gb,ei,iZ,ke,eF,kf,hw,iH,pP,rfl,e,g):=aC.K;show .all<|d iZ ke eF kf hw iH
def PF{x st f iZ iH}(l:aAv.lookup f=Y (gb,ei,xd<|pV x fo (on st) (nx st) (dh st) go iZ ke eF kf hw iH,pP))
 (c:xe aAv hw fo=J)(k:rD aAv (I f)=J):uR aAv x fo st f<|pV x fo (on st) (nx st) (dh st) go iZ ke eF kf hw iH:=((gb,ei,iZ,ke,eF,kf,hw,iH,pP,aa,l,c),k)
end
def lw{A k}(b:fz k A):A.units+2<it:=kF (zR (⋯:2<=64) _) b.a0
section
variable[bz]{C:bW}
def aK(i:O){x}(b:autoParam (C.a0[i]? =Y x) r_5)(h:autoParam (xT C.K.scope x) r_2)(a1:autoParam ((x==("__debug__":E))=aX) r_1)
 (a2:autoParam ((x==("__classdict__":E))=aX) r_1):bn C (ge x bj)<|pg i:=Ko b h a1 a2
end
def rk{A dt:Prop}(d:dt):if aX=J then A else dt:=(be gh)▸d
def lx{A dt:Prop}(d:A):if J=J then A else dt:=(bK aa)▸d
def bA(H af:ap):Prop:=∀B o,H B=Y o->af B=Y o
theorem bA.a0(H:ap):bA H H:=λ_ _ d=>d
theorem bA.K(a:bA H al)(B:bA al aH):bA H aH:=λc o d=>B c o<|a c o d
theorem bA.S{H af}(e:bA H af){l}(d:af l=M):H l=M:=by
 cases q:H l with
 |none=>rfl
 |some o=>
  rw[e l o q]at d;cases d
theorem bA.X{aA a}(e:bA H af)(d:fa aA H a xs):fa aA af a xs:=by
 rcases d with(d|⟨o,d⟩)|d;.show aQ<|aQ<|e _ _ d
 .show aQ<|bl (o,e _ _ d)
 .show bl d
section
variable{κ:Type}[i_ κ]
def ald{aP:#[κ×V]}{k:κ}(d:fq aP k=M):¬k>aP.map (·.1):=by
 intro m;let(p,b,e):=bx.1 m;let q:(aP.any λf=>bp<|f.1=k)=J:=agB.2 (p,b,hp e);simp_all [uP]
def ale{aP:#[κ×V]}{k:κ}{v:V}(d:fq aP k=Y v):k>aP.map (·.1):=by
 let q:(aP.any λb=>bp<|b.1=k)=J:=by
  simp_all [uP]
 grind
theorem pm:∀{l:#[κ]}{k:κ},l.Nodup->¬k>l->(l++[k]).Nodup
 |[],k,_,_=>by simp
 |a::r,k,d,b=>by
  let(ab,ag):=f_.1 d;show f_.2 (λm=>?_,pm ag λm=>b<|cc.2<|bl m);simp_all
end
def DV{l:#[α]}(b:l.Nodup){i j:O}{x:α}(a:l[i]? =Y x)(B:l[j]? =Y x):i=j:=by
 let(ab,aB):=ff.1 a;let(ag,e):=ff.1 B;show(avT b).mp<|aB.trans e.symm
end
variable{H af an:ap}
open bz
def fr(aq:fs)(w:hC):jj:=λb H s au e aT=>∃(ea:L)(oF gc:bc)(af:ap)(dt:ez),
 e=I ea/\aT.os=s.os/\wW aT.gens/\ih (gk b) [] H af s.heap aT.heap/\gj aq w af aT.heap/\Ch dt b ea oF gc aT.heap/\
 (∀B o,af B=Y o->∃f,dt.get? B=Y f)/\(∀B o,s.heap.get? B=Y o->B∉gk b->∃f,dt.get? B=Y f)/\au oF M af
def PG{aq:fs}{dt d bg:ez}(h:gj aq w H d)(a1:dt.StaysIn d)(a2:dt.StaysIn bg)(a3:∀B o,H B=Y o->∃b,dt.get? B=Y b):gj aq w H bg:=λa o e=>by
 show(h a o e).K (λB u i q=>?_) (λ_ q=>q) λ_ _ q=>q;let j:∃z,H B=Y z:=by
  let z||z:=i;.show(o,z▸e)
  .show(_,z)
 let(z,hz):=j;let(b,f):=a3 B z hz;let g:=a1 B b f;rw[q]at g;cases g;show a2 B u f
theorem WX{d h dt:ez}:∀{l:#[ml]},d.FunFrames h l->(∀B∈gk l,dt.get? B=M)->d.FunFrames dt l
 |[],_,_=>⟨⟩
 |dp::hS,i,f=>by
  let(j,(b,o,g,v,m,p),q):=i;let e:gk (dp::hS)=b::gk hS:=by
   delta gk;show List.filterMap_cons_some g
  show(j,(b,o,g,f b<|by rw[e];show(cp _),m,p),WX q λB z=>f B<|by simp_all)
theorem jy.S{w d a o}(x:jy aq w H d a o):∃b,d.get? a=Y b:=by
 cases o with|K xs=>let(_,_,_,_,e):=x;show(_,e)|R xs=>let(_,_,_,b,e,_):=x;show(_,e)|a1 aP=>let(_,_,_,_,b,_,_,e,_):=x;show(_,e)|X aP=>let(_,_,_,_,b,_,_,e,_):=x;show(_,e)|a4 ai n=>let(b,_,_,_,e,_):=x;show(_,e)|S ar aG ah=>let(_,_,_,e,_):=x;show(_,e)|a2 y=>show x|a6 ah=>let(_,(ei,_,_,e,_),_):=x;show(_,e)|a8 bQ aR=>let(_,_,_,e):=x;show(_,e)|a0 b u=>show(_,x.1)|a3 ay=>show(_,x)|a7 f y=>show(_,x)|a5 g=>show x.2.1
section
variable[bz]{C:bW}{D:ck}{aT:cQ}{dt:ez}{oF gc:bc}{ea:L}
def alf(h:aS C am D H s)(hex:C.a4=[])(a8:C.X=C.K::C.a7)(a1:ih (gk C.X) [] H af s.heap aT.heap)(a4:Ch dt C.X ea oF gc aT.heap)
 (a5:∀B o,s.heap.get? B=Y o->B∉gk C.X->∃a3,dt.get? B=Y a3)(a6:dt.StaysIn a2)(a7:aT.heap.UpToSlots a2):ih C.a5 [] C.a6 af C.a1.heap a2:=by
 let w:∀B o,C.a1.heap.get? B=Y o->B∉C.a5->B∉gk C.X:=λB o e b z=>by
  let q||q:=cc.1 (h.b6 B z);.show(λB o e=>ie (ia (fZ e) h.K.X)) B o e q
  .show b q
 let g:∀B,B∉C.a4:=λB z=>by rw[hex]at z;cases z
 let p:∀B o,s.heap.get? B=Y o->B∉gk C.X->∀c',aT.heap.get? B=Y c'->a2.get? B=Y c':=λB o e b c' j=>by
  let(a3,v):=a5 B o e b;let q:=a4.1 B a3 v;rw[j]at q;cases q;show a6 B c' v
 let x:∀B,B>gk C.X->∀c',aT.heap.get? B=Y c'->∃dU,a2.get? B=Y {c' with slots:=dU}:=λB b c' j=>by
  let(_,m,f,A):=a4.2.2.1.mem b;rw[j]at f;cases f;show a7 B c' j A
 show(λB o e n b _=>?_,λB o e n b _=>?_,λB o e n _=>?_,λB o e _=>?_,λB xs e=>a1.a1 B xs (h.S.a1 B xs e),λB o u e=>a1.X B o u (h.S.X B o u e),λB ay e=>?_);.let aB:=h.S.S B o e n b (g B);let i:=h.S.K B o e n (g B);let q:=w B o e b;show p B o aB q o (a1.S B o aB i q (hD))
 .let(dU,aB):=h.S.a0 B o e n b (g B);let i:=h.S.K B o e n (g B);let(V,f):=a1.a3 aB i (hD);grind
 .let i:=h.S.K B o e n (g B);let(l,aB):=h.S.R B o e (g B);show a1.K B l aB i (hD)
 .let(l,aB):=h.S.R B o e (g B);let(m,f):=a1.R B l aB (hD);by_cases b:B>gk C.X;.let(dU,q):=x B b m f;show(_,q)
  .show(_,p B l aB b m f)
 .let(T,aB):=h.S.a2 B ay e;let(U,f):=a1.a2 B _ aB;show(T++U,by rw[f,avS])
end
section
variable[bz]{br:#[E]}{fo:E}{ce:mQ}{z:Aq}{au:fQ}
def g_:kP (fr aAw aAx) (iy (fr aAw aAx) br fo ce z an au) au:=by
 intro am D H s e aT b d;let(ea,oF,gc,af,dt,rfl,os,j,l,m,f,h,i,p):=d;show wpAny_leaves_onW b.K.a0 aa f λA g v=>(ea,oF,gc,af,dt,aa,os.trans b.os,j,alf b aa aa l f i g.1 v,PG m f.1 g.1 h,g,h,λB o e w=>?_,p);let(c',x):=b.S.R B o e (λz=>by cases z);show i B c' x λz=>?_;let q||q:=cc.1 (b.b6 B z);.show ie (ia (fZ e) b.K.X) q
 .show w q
def WZ[bz](C:bW)(au:fQ):Prop:=∀ar am D H s bg e,aS C am D H s->Heap.MadeExcOf s.heap bg e (I ar) []->au (I ar) M H->C.S (I e) {s with heap:=bg}
def alg[bz]{C s}(h:aS C am D H s):
  (Hg s.heap<|gk C.X).StaysIn s.heap/\s.heap.FunFrames (Hg s.heap<|gk C.X) C.X/\(∀B o,s.heap.get? B=Y o->B∉gk C.X->∃b,(Hg s.heap<|gk C.X).get? B=Y b)/\
  (∀B o,H B=Y o->∃b,(Hg s.heap<|gk C.X).get? B=Y b):=by
 show(λB o e=>of_hideAll _ e,WX h.c6 λB f=>hideAll_none _ f,λB o e f=>(o,CH _ e f),λB o e=>?_);let f:B∉gk C.X:=λz=>by rw[h.c7 B z]at e;cases e
 let(b,g):=(h.R B o e).S;show(b,CH _ g f)
def to:WZ (iy (fr aAw aAx) br fo ce z an au) au:=by
 intro ar am D H s bg e b m a2;let(A,p,a3,T):=alg b;show wpAny_leaves_madeW b.K.a0 aa A p m λa6 t v _ _ U=>?_;let V:∀B o,z.X.heap.get? B=Y o->B∉gk z.S->B∉gk (iy (fr aAw aAx) br fo ce z an au).X:=λB o e f z=>by
  let q||q:=cc.1 (b.b6 B z);.show ie (ia (fZ e) b.K.X) q
  .show f q
 let h:∀B:L,B∉(iy (fr aAw aAx) br fo ce z an au).a4:=λB z=>by cases z
 let a0:=λB o e f=>v.1 B o (CH _ e f);show(e,I ar,I t,H,_,aa,b.os,b.a3,?_,PG b.R A v.1 T,v,T,λB o g f=>?_,a2)
 .show(λB o g n f _=>a0 B o (b.S.S B o g n f (h B)) (V B o g f),λB o g n f _=>?_,λB o g n _=>b.S.K B o g n (h B),λB o g _=>?_,b.S.a1,b.S.X,b.S.a2);.exists a4;let(dU,aB):=b.S.a0 B o g n f (h B);let i:B>gk (iy (fr aAw aAx) br fo ce z an au).X:=el _ f;let(_,a5,j,w):=p.mem i;rw[aB]at j;cases j;let(a1,x):=U B _ (m.keeps B _ aB) w;show a4 (a1,x)
  .let(l,aB):=b.S.R B o g (h B);by_cases i:B>gk (iy (fr aAw aAx) br fo ce z an au).X;.let(_,a5,j,w):=p.mem i;let(a1,x):=U B _ (m.keeps B _ j) w;show(_,x)
   .show(l,a0 B l aB i)
 .let(l,aB):=b.S.R B o g (h B);show a3 B l aB (V B o g f)
end
noncomputable abbrev tp:#[bc]:=[cF "Exception",cF "BaseException",cF "object"]
inductive W_(aA:eh)(ar:L):Prop|mk(ga q:E)(br:L)(b:#[bc])(h:dq)(a1:#[E])(sub:#[bc])(a2:dq)(a3:bs dq)(a4:bs L)(a5 a6 a7 a8 a9:bs bc):aA.lookup ar=Y (Ti ga q ar br b tp h a1 sub a2 a3 a4 a5 a6 a7 a8 a9 "Exception.__new__")->nsOkIn aA br=J->nS aA br "__init__"=Y M->W_ aA ar
structure uS(aA:eh)(ar:L):Prop where
 K:W_ aA ar
def tq{au:fQ}[bz]{C x}(hz:WZ C au)(h:C.a3=J)(a1:jV C x)(a2:aAy x=Y (I ar))(ct:uS aAv ar)(a3:autoParam ((x==("__debug__":E))=aX) r_1):
  ix C (.Raise (Y<|gw (ge x a4) [] [] ks) M bj)<|λ_ _ H=>au (I ar) M H:=by
 intro am s D H aj b d;let(ga,q,br,l,m,o,sub,p,v,w,A,T,U,V,a0,g,f,i):=ct.K;show wpAny_Raise_call_sub
  PySem.F.excBase_Exception (b.K.K h) aa (PySem.W.nsMap_none_of_in b.a0 f i)<|xV b a1 a2 (aa,evalArgs_empty (aa,ex _,b.a0 _ _ g,(.of_isNs<|PySem.W.isNs_of_in b.a0 f),λbg e j=>hz ar am D H s bg e b j d)) a3
def alh{av A d g t os h ga br a2 sub a3 a4}
 (a5:d.get? ar=Y (Ti ga q ar br a2 tp b0 b1 sub b2 a3 b3 b4 b5 a4 b6 b7 b8))(a1:d.get? b=Y (Ti b9 c1 b c2 c3 tp c4 c5 c6 c7 c8 c9 d0 d5 d6 d7 d8 d9))
 (a6:d.get? e=Y h)(a7:h.cls=I ar)(a8:ar≠b)(a9:Q aX (d,g,ae,t,os)):bP av A (excMatches (I e)<|I b) Q au (d,g,ae,t,os):=by
 let i:(I b::tp).contains (cF "BaseException")=J:=by simp[tp]
 let j:(I ar::tp).contains (I b)=aX:=by simp[tp];show λz=>a8 z.symm
 let f:=tc_notTuple;repeat (first|(with_reducible show axf a6 ?_;rw[a7])|with_reducible show axf a1 ?_|(with_reducible show axg a1 ?_;rw[i])|(with_reducible show axg a5 ?_;rw[j])|wp_step)
 show a9
noncomputable abbrev bW.b4(C:bW)(e:L):bW:={C with R:=C.R.mark<|Y<|I e,a3:=aX,S:=λ_ _=>fC}
noncomputable abbrev bW.b3[bz](C:bW)(am:#[L×hn])(aj:gQ)(aw:#[Tj]):bW:={C with
 a9:=C.a9++am
 S:=λe b=>bP (b' aAw aAx) C.R (noteFrame e C.K) (λ_ f=>bP (b' aAw aAx) C.R (setFlight e M) (λ_ g=>bP (b' aAw aAx) C.R (handleBy e C.K aw) (uB C am aj) C.S g) C.S f) C.S b}
inductive tr[bz](C:bW):#[Tj]->#[L×gz]->Prop
 |R:tr C [] []
 |K{b a6 a7 a1 a2 h a3 a4 a5}:jV C b->aAy b=Y (I h)->uS aAv h->(b==("__debug__":E))=aX->
   (∀e,oh (C.b4 e) (a1::a2) a3)->tr C a4 a5->tr C (Tk (Y<|ge b a6) M (a1::a2) a7::a4) ((h,a3)::a5)
def ts(n:O)(aj:gQ)(ar:L)(H:ap):#[L×gz]->Prop|[]=>fC|(b,wQ)::r=>if ar=b then wQ aj (age n M) H else ts n aj ar H r
def W'(n:O)(aj:gQ)(l:#[L×gz]):fQ:=λoF _ H=>∃ar,oF=I ar/\ts n aj ar H l
theorem tr.S[bz]{n aw l}(x:tr C aw l)(d:ts n aj ar H l):uS aAv ar:=by
 induction x with
 |R=>show d.elim
 |K _ _ o _ _ r b=>
  unfold ts at d;split at d;.simp_all
  .show b d
section
variable[bz]{C:bW}{GX:#[L×hn]}{D:ck}{aT:cQ}{dt:ez}{oF gc:bc}{ea:L}{aj:gQ}{aw:#[Tj]}
def aS.f6(b:aS C am D H s):aS (C.b3 am aj aw) [] D H s:=
 ((b.K.S,b.K.R,b.K.a5,b.K.a9,b.K.X,b.K.inj,b.K.a1,b.K.a6,b.K.K,b.K.a0,b.K.b0,b.K.b1,b.K.a3,b.K.a2,b.K.a7,b.K.a8,b.K.a4,b.K.b2),b.os,b.a3,b.S,b.a2,b.a4,b.a5,b.a7,
  λp e=>b.a6 p<|by simp_all,b.R,b.a9)
def aS.c3(b:aS (C.b3 am aj aw) GX D H s):aS C am D H s:=
 (((λo=>(o.S,o.R,o.a5,o.a9,o.X,o.inj,o.a1,o.a6,o.K,o.a0,o.b0,o.b1,o.a3,o.a2,o.a7,o.a8,o.a4,o.b2)) b.K),b.os,b.a3,b.S,b.a2,b.a4,b.a5,b.a7,λp e=>b.a6 p<|dQ _ e,b.R,b.a9)
def aS.e9(b:aS C am D H s):aS (C.b4 ea) am D H s:=(((λo=>(o.S,o.R,o.a5,o.a9,o.X,o.inj,o.a1,o.a6,(λz=>(by cases z)),o.a0,o.b0,o.b1,o.a3,o.a2,o.a7,o.a8,o.a4,o.b2)) b.K),b.os,b.a3,b.S,b.a2,b.a4,b.a5,b.a7,b.a6,b.R,b.a9)
def aS.d3(o:C.b0)(b:aS (C.b4 ea) am D H s):aS C am D H s:=(o,b.os,b.a3,b.S,b.a2,b.a4,b.a5,b.a7,b.a6,b.R,b.a9)
def ali{d bg l}(h:ih (gk l) [] H af d bg)(a3:Ch dt l ea oF gc bg)(a4:∀B o,d.get? B=Y o->B∉gk l->∃a2,dt.get? B=Y a2)(a5:dt.StaysIn a1)(a6:bg.UpToSlots a1):ih (gk l) [] H af d a1:=by
 let j:∀B o,d.get? B=Y o->B∉gk l->∀c',bg.get? B=Y c'->a1.get? B=Y c':=λB o e b c' g=>by
  let(a2,m):=a4 B o e b;let q:=a3.1 B a2 m;rw[g]at q;cases q;show a5 B c' m
 let p:∀B,B>gk l->∀c',bg.get? B=Y c'->∃dU,a1.get? B=Y {c' with slots:=dU}:=λB b c' g=>by
  let(_,A,i,w):=a3.2.2.1.mem b;rw[g]at i;cases i;show a6 B c' g w
 show(λB o e n b f=>j B o e b o<|h.S B o e n b f,λB o e n b f=>?_,h.K,λB o e f=>?_,h.a1,h.X,h.a2);.let(dU,aB):=h.a0 B o e n b f;let(x,i):=p B b _ aB;show(x,i)
 .let(v,aB):=h.R B o e f;by_cases b:B>gk l;.let(dU,q):=p B b v aB;show(_,q)
  .show(_,j B o e b v aB)
def alj{l}(a3:tr C aw l)(ct:uS aAv ar)(b:aS C am D H s)(a2:Ch dt C.X ea (I ar) gc s.heap)
 (a4:∀a1,Ch dt C.X ea (I ar) gc a1->s.heap.UpToSlots a1->aS C am D H {s with heap:=a1})(d:ts ↑C.a0 aj ar H l):
  bP (b' aAw aAx) C.R (handleBy (I ea) C.K aw) (uB C am aj) C.S s:=by
 induction a3 with
 |R=>show d.elim
 |@K x b0 bj b1 b2 V wQ aw l g m o ae p r a0=>
  exists a5;let(ga,q,br,b3,b4,b5,sub,b6,b7,b8,b9,c0,c1,c2,c3,A,_,_):=ct.K;let(c4,c5,c6,c7,c8,c9,d0,d1,d2,d3,d4,d5,d6,d7,d8,a6,_,_):=o.K;let(d9,T,U):=a2.there;let(e0,e1,e2,ee,os):=s;unfold ts at d;show a5 (wpAny_handleBy_cons (codeAny_handlers_test<|xV b.e9 g m ?_ ae) (by intro z;cases z));by_cases e:ar=V
  .rw[bK e]at d;subst e;show wpAny_excMatches_sub_self (b.a0 _ _ A) T U (by simp[tp])<|codeAny_handlers_suite<|lands_againW a2 λa1 a7 a8=>?_;let pn:=((a4 a1 a7 a8).e9 (ea:=ea)).e4 (aU:=age ↑C.a0 M) (awd▸b.a9.symm) λi v z=>by
    rw[awc]at z;split at z<;>cases z
   show DK (p ea am _ _ H aj pn d) λf e3 w=>?_
   cases f with
   |next=>
    let(aU,aH,h,j):=w;show(aU,aH,h.d3 b.K,j)
   |brk=>
    let(aU,aH,h,j):=w;show(aU,aH,h.d3 b.K,j)
   |cont=>
    let(aU,aH,h,j):=w;show(aU,aH,h.d3 b.K,j)
   |ret u=>
    let(v,aU,aH,h,a9,j):=w;show(v,aU,aH,h.d3 b.K,a9,j)
  .rw[be e]at d;show alh (b.a0 _ _ A) (b.a0 _ _ a6) T U e<|a0 d
def PH{l}(a1:tr C aw l)(h:C.X=C.K::C.a7)(a2:C.K.frame=Y C.K.locals):kP (fr aAw aAx) (C.b3 am aj aw)<|W' ↑C.a0 aj l:=by
 intro GX D H s e aT j d;let(ea,oF,gc,af,dt,rfl,os,v,w,x,g,A,T,ar,rfl,m):=d;show wpAny_looks_onW (h▸j.K.a0) a2 (h▸g) λa5 U V=>wpAny_landsW U λa0 a3 a4=>?_;let o:=h▸a3;let p:=V.trans a4;let q:∀b,Ch dt C.X ea (I ar) gc b->aT.heap.UpToSlots b->aS C am D af {aT with heap:=b}:=λb f i=>by
  show aS.c3<|aS.e6 j os (ali w g T f.1 i) (PG x g.1 f.1 A) v λB z=>?_;cases z
 show alj a1 (a1.S m) (q a0 o p) o (λb f i=>q b f<|p.trans i) m
def Xa{h:Tj}{a1:#[dK]}{cd:gQ->gz}(a2:∀am aj,oh (C.b3 am aj<|h::aw) a1 (cd aj)):ix C (.Try a1 (h::aw) [] [] bj)<|λaj D H=>cd aj aj D H:=by
 intro am s D H aj g d;show wpAny_Try_except<|fR (a2 am aj [] s D H aj g.f6 d) λf i e=>?_
 cases f with
 |next=>
  let(aU,aH,b,q):=e;show zC (aU,aH,b.c3,q)
 |brk=>
  let(aU,aH,b,q):=e;show(aU,aH,b.c3,q)
 |cont=>
  let(aU,aH,b,q):=e;show(aU,aH,b.c3,q)
 |ret u=>
  let(v,aU,aH,b,r,q):=e;show(v,aU,aH,b.c3,r,q)
end
def mv(aA:eh)(a:L)(aj:#[E×V]):Prop:=
 (a==lg)=aX/\∃o bf dz,aA.lookup a=Y o/\o.ExactDict/\o.data=i' bf dz/\agC dk bf.toList aj
section
variable{aq:fs}{aA:eh}{aj:#[E×V]}{k:E}{ee:nl}
theorem mv.K(av:mv aA a aj)(C:aA.In s.heap):s.TypeIs (I a) "dict":=by
 let(_,o,bf,dz,l,x,_):=av;show(o,C _ _ l,x.1)
def Xb(av:mv aA a aj)(C:aA.In s.heap)(d:∀r,iw (jv k aj) r->Q r {s with toks:=s.toks+1}):bP (b' aq w) A (dictGet a<|nk k ee) Q au s:=by
 let(_,o,bf,dz,l,x,f,b):=av;let g:=C _ _ l
 let hK:iw (jv k aj)<|findBy (λk v=>v.isStr k) bf k:=by
  let h:findBy (λk v=>v.isStr k) bf k=(bf.toList.find? λe=>e.key.isStr k).map (·.val):=by
   obtain⟨q⟩:=bf;simp[findBy]
  rw[h]
  cases z:jv k aj with
  |none=>
   rw[b.find_none z];trivial
  |some v=>
   let(u,m,r):=b.find_some z;rwa [m]
 let q:=d _ hK;rw[findBy_of_findIdx?]at q;show bq<|avA<|bq<|kt_dictFind_strs g f (by obtain⟨q⟩:=bf;simpa using b.exact) ?_
 cases i:bf.findIdx? λe=>e.key.isStr k with
 |none=>
  rw[i]at q;show c_ q
 |some j=>
  rw[i]at q;show bq<|zP g f<|c_ q
def alk{v}(av:mv aA a aj)(C:aA.In s.heap)(h:jv k aj=Y v)(d:∀u,dk v u->Q u {s with toks:=s.toks+1}):bP (b' aq w) A (rF (I a)<|nk k ee) Q au s:=by
 let T:=av.K C;delta rF;try with_reducible show qb ?_
 show bq<|agg T ⋯<|bq<|zD T axh<|rS axh T entry_dict_getitem ?_<|args_dict_getitem _ _;change bP _ _ (dictGet a (nk k ee)>>=_) _ _ s;show bq<|Xb av C λr b=>?_;rw[h]at b;let(u,rfl,e):=iw.K b;show c_ (u,aa,c_<|d u e)
def Xc(av:mv aA a aj)(C:aA.In s.heap)(d:Q (jv k aj).isSome {s with toks:=s.toks+1}):bP (b' aq w) A (contains (I a)<|nk k ee) Q au s:=by
 let T:=av.K C;delta contains;try with_reducible show qb ?_
 show bq<|afF T agD.lookup ?_;rw[be<|by rw[avH];show gh];show bq<|wpAny_callSpecialUnlessNone?_slot T agD<|rS agD T entry_dict_contains ?_<|args_dict_contains _ _;change bP _ _ (dictGet a (nk k ee)>>=_) _ _ s;show bq<|Xb av C λr b=>?_
 cases z:jv k aj with
 |none=>
  rw[z]at b d;let e:=iw.S b;subst e;show bq<|wpAny_pendingKey_other av.1<|c_ (_,aa,nn d)
 |some v=>
  rw[z]at b d;let(u,rfl,f):=iw.K b;show c_ (_,aa,nn d)
end
section
variable[bz]{C:bW}{o i:dD}{fK ev:bT}
inductive Xd(aA:eh)(Q:ca)(x:V)(y:V)(aH:ap):Prop|mk(a:_)(aj:_)(k:_)(v:_):(x=.K a)->(y=.S k)->(mv aA a aj)->(jv k aj=Y v)->(Q v aH)->Xd aA Q x y aH
def alm(aA:eh)(fK ev:bT):bT:=λD H Q=>fK D H λx al=>ev D al λy aH=>Xd aA Q x y aH
def AD(h:bn C o fK)(aR:bn C i ev)(aw:Pr i):bn C (sB o i bj)<|alm aAv fK ev:=by
 intro am s D H Q e d;show Wx awC.lookup aw<|h.K e d λu A x al f bC g=>aR.K f g λT U y aH b j l=>?_;let(a,aj,k,v,d',m,av,p,q):=l;subst d' m;obtain rfl:u=I a:=bC;let(ee,rfl):=j;show(av.K b.a0,alk av b.a0 p λr w=>(v,aH,b.X _,w,q))
inductive Xe(aA:eh)(b:dq)(Q:ca)(y:V)(x:V)(aH:ap):Prop|mk(a:_)(aj:_)(k:_):(x=.K a)->(y=.S k)->(mv aA a aj)->(Q (.X<|if b then !(jv k aj).isSome else(jv k aj).isSome) aH)->Xe aA b Q y x aH
def Xf(aA:eh)(b:dq)(ev fK:bT):bT:=λD H Q=>ev D H λy al=>fK D al λx aH=>Xe aA b Q y x aH
def aln(aR:bn C i ev)(h:bn C o fK):re C .In i o<|Xf aAv aX ev fK:=by
 intro am s D H Q e d;show aR.K e d λq v y al f g j=>h.K f j λu w x aH b bC l=>?_;let(a,aj,k,d',m,av,p):=l;subst d' m;obtain rfl:u=I a:=bC;let(ee,rfl):=g;show bq<|Xc av b.a0<|c_ (.X (jv k aj).isSome,aH,b.X _,aa,p)
def alo(aR:bn C i ev)(h:bn C o fK):re C B_ i o<|Xf aAv J ev fK:=by
 intro am s D H Q e d;show aR.K e d λq v y al f g j=>h.K f j λu w x aH b bC l=>?_;let(a,aj,k,d',m,av,p):=l;subst d' m;obtain rfl:u=I a:=bC;let(ee,rfl):=g;show bq<|Xc av b.a0<|c_ (.X<|!(jv k aj).isSome,aH,b.X _,aa,p)
end
structure alp[bz](C:bW)(da:jj)(f:L)(bX:cq):Prop where
 K:∃k dv ay,km aAw aAx aAv aAy aAB da k f dv ay bX/\fz k C.R/\pi aAv dv ay []
 R:rD aAv (I f)=J
inductive Xg[bz](C:bW)(da:jj)(i:O)(au:fQ)(t:gP)(D:ck)(H:ap)(Q:ca):Prop|mk(f:_)(bX:_):(D[i]? =Y (Y<|.K f))->(alp C da f bX)->(t D H λvs al=>bX vs al Q au)->Xg C da i au t D H Q
def alq[bz](C:bW)(da:jj)(i:O)(au:fQ)(t:gP):bT:=λD H Q=>Xg C da i au t D H Q
def PK{au:fQ}[bz]{C i x p t}(h:C.a0[i]? =Y x)(a1:xT C.K.scope x)(a2:kP da C au)(a3:jU C (e::bf) t)
 (a4:autoParam ((x==("__debug__":E))=aX) r_1)(a5:autoParam ((x==("__classdict__":E))=aX) r_1)(a6:autoParam (er (e::bf) C.K=(aX,dx e C.K)::er bf C.K) r_5)(a7:autoParam ((h' bj<|er bf C.K).any (·.1)=aX) r_5):
  bn C (gw (ge x p) (e::bf) [] bj)<|alq C da i au t:=by
 intro am s D H Q j d;let(f,bX,aR,((k,dv,ay,aC,l,m),o),d):=d;show vQ<|fR (Ko h a1 a4 a5 am s D H (λv af=>v=.K f/\af=H) j (_,aR,aa,aa)) λu U w=>?_;let(v,al,b,r,A,T):=w;subst A T;obtain rfl:u=I f:=r;show zS b.K.S.K o (a3.K bj b d λV a0 vs aH g r q=>(g.a0,yh aC l m ed a2 g r<|by rwa [e'])) a6 a7
section
variable{aq:fs}{ae B:L}{xs:#[#[ft]×L×bc]}{k:#[ft]}{v:bc}
def alr(a1:(jT aq w).room A)(h:(jT aq w).is s.heap k B)(a2:s.heap.DictOfH (jT aq w) ae xs)(hz:↑xs<=ch)
 (ab:∀p,pW xs k=Y p->Q p.2 {s with toks:=s.toks+(jT aq w).draws k})
 (ag:pW xs k=M->∀bg,bg.DictOfH (jT aq w) ae (Tg xs k B v)->wU ae s.heap bg->Q v {s with heap:=bg,toks:=s.toks+(jT aq w).draws k}):
  bP (b' aq w) A (agF ae (I B) v) Q au s:=by
 let(o,bf,dz,aB,x,b,e,i,g):=a2;delta agF;try with_reducible show qb ?_
 show bq<|(jT aq w).pyHash a1 h<|bq<|wpAny_dictFind_heap a1 h aB b e i g (λbU=>?_) λj p l=>?_
 .let f:=atKey_none_of_get bU;let T:=axb e;show bq<|Tl<|bq<|wpAny_updateDictKeys aB b<|c_<|ag f _ (_,_,dz+1,agm _ aB<|Obj.isFreed_of_dict<|axi b _,x.mapDictKeys _,axi b _,?_,λq m=>?_,?_)<|xQ ..;.rw[agG f];simp[e,entryOfKey]
  .rw[agG f]at m;let z||z:=du.1 m;.show(jT aq w).keeps (i q z) aB b<|xQ ..
   .let z:=‹z›
    rw[z];show(jT aq w).keeps h aB b<|xQ ..
  .rw[agG f,cs];show pm g<|not_mem_keys_of_get bU
 .show bq<|zP aB b ?_;rw[entry_at e j,l];show bq<|Tl<|c_<|ab p<|atKey_of_get g l
def Xh(h:(ae==lg)=aX):MeetsIn aq w (Builtin.«dict.setdefault» ([I ae,I B,v],[]))<|λA ax s=>(jT aq w).room A.in1/\∃xs k,(jT aq w).is s.heap k B/\s.heap.DictOfH (jT aq w) ae xs/\↑xs<=ch/\
   (∀p,pW xs k=Y p->ax (mm<|pT p.2) {s with toks:=s.toks+(jT aq w).draws k})/\
   (pW xs k=M->∀bg,bg.DictOfH (jT aq w) ae (Tg xs k B v)->wU ae s.heap bg->ax (mm<|pT v) {s with heap:=bg,toks:=s.toks+(jT aq w).draws k}):=
 .of_wp λA ax s e=>by
  exists f;let(g,xs,k,i,b,hz,ab,ag):=e;show f<|bq<|bq<|awT b.typeIs<|c_ ?_;change bP _ _ (if(ae==lg)=J then _ else(agF ae (I B) v>>=_)) _ _ s;rw[h,be gh];show bq<|alr g i b hz (λp j=>c_ (p.2,aa,ab p j)) λbU bg l same=>c_ (v,aa,ag bU bg l same)
end
section
variable[bz]{C:bW}{D:ck}{y ae:V}{r:bc}{o:bs V}
def als(b2:A.units+2<it)(h:aS C am D H s)(g:iA H a y o)(a1:dk y u)(b3:dk ae r)(ab:∀v,o=Y v->∀a2 aT,aS C am D H aT->dk v a2->Q a2 aT)
 (ag:o=M->∃af,om H a y ae af/\∀aT,aS C am D af aT->Q r aT):bP (b' aAw aAx) A (qX (ju "dict.setdefault") [I a,u,r]) Q au s:=by
 cases o with
 |none=>
  let(af,b5,ag):=ag aa;let (aP,k,e,m,l,a6)||(aP,k,B,e,m,x,l,a6):=b5
  .subst m a6;let(z,j,vs,f,i):=Wu h.R e;let a7:↑(gS aP k ae)<=ch:=by have:=yp aP k ae;show db this l
   let bU:fq aP k=M:=by
    let (a8,a3,b,w,T)||(a8,a3,b6,b,w,b4,T):=g
    .let a9:=akj w;subst a9;let b||(b7,b):=b;.rw[e]at b;cases b;show T.symm
     .rw[e]at b;cases b
    .cases k<;>cases w
   let b0:=iw.S (by rw[<- bU];show f.K k);show xy zT i.typeIs CK (CP _ _ _) (axj (jx aAw aAx) a (tm a1) j r)
    (vs,i,f.length▸z,λv U=>by rw[b0]at U;(cases U),λ_ bg a4 aw=>ag _ (DQ h (by rw[e];show⟨⟩) aw (a4.elim λq z=>z.elim λ_ z=>z.elim λ_ z=>(q,z.1)) (Ww a7 j (f.R k b3) a4)))
  .subst m a6;cases(a1);let(z,j,xs,f,i):=Wv h.R e;let a7:↑(gS aP k ae)<=ch:=by have:=yp aP k ae;show db this l
   let bU:fq aP k=M:=by
    let (a8,a3,b,w,T)||(a8,a3,b6,b,w,b4,T):=g;.cases a3<;>cases w
    .cases w;let a9:=(sg h.R x).inj (sg h.R b4);subst a9;let b||(b7,b):=b;.rw[e]at b;cases b;show T.symm
     .rw[e]at b;cases b
   let b0:pW xs k=M:=by
    let q:=iw.S (by rw[<- bU];show f.K k)
    cases z:pW xs k with
    |none=>rfl
    |some p=>
     rw[z]at q;cases q
   show xy zT i.typeIs CK (CP _ _ _) (Xh j)
    (wk b2,xs,k,sg h.R x,i,(jR f)▸z,λp V=>by rw[b0]at V;(cases V),λ_ bg a4 aw=>ag _ ?_);let(q,bf,dz,a0,b8,b9,c0,_,c1):=a4;show DQ h (by rw[e];show⟨⟩) aw (q,a0) (a7,j,_,(f.R k x b3).S λc cv c2=>?_,q,bf,dz,a0,b8,b9,c0,c1);rwa [bS (qi c2 e (λz=>(by cases z)))]
 |some v=>
  let ab:=ab v aa;let (aP,k,e,m,l)||(aP,k,B,e,m,x,l):=g
  .subst m;let(z,j,vs,f,i):=uQ h.R e;let(a2,a5,b1):=iw.K (by rw[l];show f.K k);show xy zT i.typeIs CK (CP _ _ _) (axj (jx aAw aAx) a (tm a1) j r)
    (vs,i,f.length▸z,λc5 U=>?_,λbU=>by rw[a5]at bU;(cases bU));rw[a5]at U;cases U;show ab _ _ (h.X _) b1
  .subst m;cases(a1);exists c3;let(z,j,xs,f,i):=tn h.R e;let(a2,a5,b1):=iw.K (by rw[l];show f.K k);let(p,V,c4):=e_.1 a5;show c3 (xy zT i.typeIs CK (CP _ _ _) (Xh j)
    (wk b2,xs,k,sg h.R x,i,(jR f)▸z,λq a0=>?_,λbU=>by rw[V]at bU;(cases bU)));rw[V]at a0;cases a0;rw[c4];show ab _ _ (h.X _) b1
end
def alt(fK ev ry:bT):bT:=λD H Q=>fK D H λx al=>∃a,x=.K a/\DR al a/\ev D al λy aH=>ry D aH λz b=>∃o,iA b a y o/\(∀v,o=Y v->Q v b)/\(o=M->∃e,om b a y z e/\Q z e)
def DW[bz]{C o f ev ry}(a1:C.R.units+2<it)(a2:bn C o fK)(a3:bn C e ev)(a4:bn C f ry)(m:WD C o "setdefault" fm e f ks):bn C (gw (hU o "setdefault" fm) [e,f] [] ks)<|alt fK ev ry:=by
 intro am s D H Q p d;show awH m.K m.R m.S awK zT PySem.F.type_dict_setdefault<|a2.K p d λu b3 x al i bC b=>?_;exists w;let(a,d',ae,A):=b;subst d';obtain rfl:u=I a:=bC;let(ef,T,_):=WF i ae;show w (ef,T,?_);rw[m.X];show up aa<|xw<|xu<|a3.K i A λb4 b5 y aH U V a0=>xu<|a4.K U a0 λb6 b7 z a5 a6 j b=>?_;let(b8,g,a7,a8):=b;show S_<|als a1 a6 g V j (λv a9 b9 b0 h b1=>(v,a5,h,b1,a7 v a9)) λbU=>?_;let(l,b2,q):=a8 bU;show(l,b2,λb0 h=>(z,l,h,j,q))
section
variable{aq:fs}{ae:L}{o:hn}{bf:gv vA}{dz:O}
theorem alu{A}(a2:A.handled=M)(h:L)(a3:ae≠h)(a1:o.data=i' bf dz):
  Walks aq w A h [h,ae] [h] bf.size (λi v=>∃b,bf[i]? =Y b/\v=b.key)<|λi d=>d.IsKeyIter h ae i bf.size dz/\d.get? ae=Y o where
 sub:=λB g=>by
  simp_all
 frame:=λi d bg st l=>(st.1.at λj e=>l h (cp _) j e,l ae (CG aa) o st.2)
 item:=λi s Q au aR st f=>by
  obtain⟨b,m⟩:∃b,bf[i]? =Y b:=(bf[i],by simp[aR]);show WK st.1 st.2 a1 aa m λbg p same=>f b.key bg s.toks (b,m,aa) (p,(same.2 ae a3).trans st.2) λB j g e=>(same.2 B λz=>g<|by simp[z]).trans e
 done:=λs Q au st f=>Px a2 st.1 st.2 a1 aa dw λbg q=>f bg s.toks λB j g e=>q B j (λz=>g<|by simp[z]) e
 self:=λi s Q au st f=>axc st.1 f
theorem PP(bQ:(ae==lg)=aX)(b:o.ExactDict)(h:o.data=i' bf dz):KdlSrc aq w "dict" ae ae bf.size (λi v=>∃a1,bf[i]? =Y a1/\v=a1.key)<|λd=>d.get? ae=Y o where
 type:=λs e=>(o,e,b.1)
 there:=λd e=>(fZ e,fZ e)
 keep:=λd bg e g=>g ae (aQ aa) o e
 notList:=⋯
 notTuple:=⋯
 hint:=λA au s Q e f=>PySem.W.kdl_hint_dict (o,e,b.1) f
 iter:=λA s j e=>(_,_,(λau Q f=>Pw bQ e b h f),alu j _ (ie<|fZ e) h,((_,jf _ aa,aa,aa),hr _ e))
end
section
variable[bz]{C:bW}{D:ck}{ae:L}
def aS.e0{aP}(f7:aS C am D H s)(d:lq H ae<|.X aP):(ae==lg)=aX/\↑aP<=ch/\∃(o:hn)(bf:gv vA)(dz:O)(b:#[L]),s.heap.get? ae=Y o/\o.ExactDict/\o.data=i' bf dz/\
  bf.toList.map (·.key)=b.map I/\eq (λ(k:#[ft]) B=>eK H B k) (aP.map (·.1)) b:=by
 let(z,aw,xs,i,o,bf,dz,e,f,g,h,j):=tn f7.R d;show(aw,z,o,bf,dz,xs.map (·.2.1),e,f,g,?_,?_);.rw[h,dX,dX];rfl
 .clear h g e f z d j
  induction i with
  |nil=>show ed
  |cons r _ l=>
   rw[fg,fg];show eS (by rw[r.1];show r.1▸r.2.1) l
end
def alv:#[V]->ap->ca->Prop:=λvs H Q=>∃a aP,vs=[.K a]/\lq H a (.X aP)/\∀b,eq (λ(k:#[ft]) B=>eK H B k) (aP.map (·.1)) b->∀l,H l=M->Q (.K l) (a' H l<|.K<|b.map V.K)
theorem uT:∀b:#[L],dm (b.map V.K) (b.map I)|[]=>ed|B::b=>eS aa<|uT b
def Xi[bz]{C}(a1:C.a3=J):qk C (cF "list") alv:=by
 intro am s D H xs a3 Q b r d;exists p;let(a,aP,rfl,v,q):=d;obtain⟨u,rfl,⟨⟩⟩:=ye r;let(bQ,hz,o,bf,dz,f,w,x,A,i,l):=b.e0 v;let hx:=by
  have:=dP mR i;simpa using this
 let qq:=by
  have:=jR l;simpa using this
 show p<|PySem.W.kdl_call (PP bQ x A) (b.K.K a1) w (by lia) λbg ee cK c T U g=>?_;let e:cK.toList=f.map I:=by
  rw[<- i];show o_ λj=>?_;rw[cV];by_cases h:j<bf.size;.let m:=g.1▸h;let(a4,a0,a2):=g.2 j cK[j] (by simp[m]);rw[zH,zH,a0,Kc m,a2];rfl
  .rw[zU<|by rw[sS,g.1];show uq h,zU<|by rw[sS];show uq h];rfl
 show(.K s.heap.objs.size,_,b.b1 T dw<|show jy aAw aAx _ bg _ (.K<|f.map V.K)from(by rw[aV];lia,cK.toList,c,by rw[e];show uT f,‹U›),aa,q f l _<|b.R.K dw)
structure AF where
 R:BX
 S:axk
 X:cQ
 a0:cQ
def ij{α:Type}(T:AF)(m:vB rG js α):Prop:=∀st,Ci st=nT J->∀Q p,uf T.R T.S (m.run st) Q (λ_ _ _=>fC) p T.X->
 ∃r b,Ci r.2=nT J/\Q r b T.X/\∀Q au p,(∀b,Q r b T.a0)->uf T.R T.S (m.run st) Q au p T.a0
section
variable{T:AF}{eB:Type}
def wl(a:α):ij T<|gt a:=by
 intro st g Q p d;show((a,st),p,g,d,λQ au p d=>d p)
def jX{m:vB rG js α}{f:α->vB rG js eB}(d:ij T m)(k:∀a,ij T (f a)):ij T<|m>>=f:=by
 intro st g Q p ab;exists b;rw[Tn,ur]at ab;let(r,e,h,ag,y):=d st g _ p ab;let(B,eG,i,j,l):=k r.1 r.2 h Q e ag;show b (B,eG,i,j,λv w q o=>?_);rw[Tn,ur];show y _ _ _ λx=>l _ _ _ o
def DX{g}(d:∀st,Ci (g st)=Ci st):ij T<|modify g:=by
 intro st k Q p ab;show(((),g st),p,(d st).trans k,ab,λQ au p d=>d p)
def yt{f:rG->vB rG js eB}(k:∀st,Ci st=nT J->ij T (f st)):ij T<|get>>=f:=by
 intro st g;show k st g st g
def alw{g}(d:Ci g=nT J):ij T (set g:vB rG js PUnit):=by
 intro st k Q p ab;show(((),g),p,d,ab,λQ au p d=>d p)
def alx{a B:O}{g:O->α->vB rG js (agq α)}{c:α}(k:∀i a,ij T (g i a)):ij T<|BS [a:B] c g:=by
 rw[aAm];generalize qS _ _ _=l
 induction l generalizing c with
 |nil=>show wl c
 |cons x r b=>
  rw[SK];show jX (k x c) λB=>?_
  cases B with|done B=>show wl B|yield B=>show b
def Xj{c i n}(ab:ij T m)(ag:ij T n):ij T<|@ite _ c i m n:=by
 cases i with|isTrue=>show ab|isFalse=>show ag
def aly:ij T<|liftM (rule b:js Unit):=by
 intro st g Q p d;show(((),st),p,g,d,λQ au p d=>d p)
def DZ{b}:ij T (unsupported b:vB rG js α):=λ_ _ _ _ d=>lh d
def AF.K(T:AF):Prop:=∀x y Q au p,uf T.R T.S (xh (nT J) x y) Q au p T.X->
  ∃B b,Q B b T.X/\∀e f eG,(∀b,e B b T.a0)->uf T.R T.S (xh (nT J) x y) e f eG T.a0
def D_(ct:T.K)(x y:oW):ij T<|lt' x y:=by
 rw[lt'_eq];show yt λst g=>?_;rw[g];intro b f Q p ab;rw[Tn,ur]at ab;let ab:uf T.R T.S ((axl (xh (nT J) x.1 y.1).attempt:vB rG js _).run b) _ _ p T.X:=ab;rw[axm,ur,axn]at ab;let(B,h,e,i):=ct x.1 y.1 _ _ p ab;rw[axo]at e;show((Y B,b),h,f,e,λl m eG ag=>?_);rw[Tn,ur];change uf T.R T.S ((axl (xh (nT J) x.1 y.1).attempt:vB rG js _).run b) _ _ eG T.a0;rw[axm,ur,axn];show i _ _ _ λj=>?_;rw[axo];show ag j
def D'(a:gv oW)(i:O):ij T<|elem' a i:=by
 rw[elem'_eq]
 cases a[i]? with|none=>show DZ|some x=>show wl x
def alz(ct:T.K)(i j:O):ij T<|ltAt' i j:=yt λst g=>jX (D' _ i) λx=>jX (D' _ j) λy=>D_ ct x y
def alA(ct:T.K)(h:dq)(b:oW)(a1:gv oW)(a2 i:O):ij T<|beyond' h b a1 a2 i:=jX (D' _ _) λx=>Xj (D_ ct x b)<|jX (D_ ct b x) λB=>wl _
set_option hygiene false in
local macro_rules| `(tactic|walk)=> `(tactic|repeat' (first
 |(with_reducible first
  |exact wl _
  |exact DZ
  |refine Xj ?_ ?_
  |refine jX aly λ_=>?_
  |refine jX (D' _ _) λa=>?_
  |refine jX (DX λ_=>?_) λ_=>?_
  |refine jX (alB _) λ_=>?_
  |refine jX (alC ct _ _ _) λa=>?_
  |refine jX (alD ct _) λa=>?_
  |refine yt λst g=>?_)
 |((with_reducible refine jX (alx λi a=>?_) λa=>?_);rotate_left;rcases a with⟨_|a,B⟩)
 |((with_reducible first
  |refine jX (alz ct _ _) λa=>?_
  |refine jX (D_ ct _ _) λa=>?_
  |refine jX (alA ct _ _ _ _ _) λa=>?_
  |refine jX (alF ct _ _ _ _ _ _) λa=>?_
  |refine jX (alG ct _ _) λa=>?_);rcases a with _|a)
 |rfl
 |(dsimp only;fail_if_success done)
 |split))
def alF(ct:T.K)(b:dq)(h:oW)(a1:gv oW)(a2 n a3:O):ij T<|gallop' b h a1 a2 n a3:=by
 rw[gallop'_eq];walk
def alG(ct:T.K)(bQ n:O):ij T<|countRun' bQ n:=by
 rw[countRun'_eq];walk
def alB(g:O):ij T<|setMinGallop' g:=DX λ_=>rfl
def alH(ct:T.K)(a B:gv oW):ij T<|mergeLo' a B:=by
 rw[mergeLo'_eq];walk
def alK(ct:T.K)(a B:gv oW):ij T<|mergeHi' a B:=by
 rw[mergeHi'_eq];walk
def alC(ct:T.K)(bQ n b:O):ij T<|binarySort' bQ n b:=by
 rw[binarySort'_eq];walk
def alD(ct:T.K)(i:O):ij T<|mergeAt' i:=by
 rw[mergeAt'_eq];show yt λst g=>?_
 cases(pendingOf st)[i]? with
 |none=>show DZ
 |some b=>
  cases(pendingOf st)[i+1]? with
  |none=>show DZ
  |some eG=>
   show jX (alw g) λ_=>?_;walk;.show jX (alH ct _ _) λ_=>jX (DX λ_=>rfl) λ_=>yt λ_ _=>wl _
   .show jX (alK ct _ _) λ_=>jX (DX λ_=>rfl) λ_=>yt λ_ _=>wl _
def alP(ct:T.K):ij T agH:=by
 rw[sortRuns'_eq];walk
end
noncomputable def PQ:bs O->hn|Y k=>{cls:=cF "tuple",data:=fp (axp k<|ew 0 0) 0}|M=>{cls:=go,data:=qV #[]}
noncomputable def AG(fP:bc->bs O)(br:O):ez:={objs:=(Array.range br).map λi=>PQ<|fP<|I i}
structure PR(fP:bc->bs O)(K:O)(s:cQ):Prop where
 h:s.heap=AG fP K
 K:∀v i,fP v=Y i->∃a,v=I a/\a<K
section
variable{av:BX}{az:axk}{au:bc->iK->cQ->Prop}{p:iK}{br:O}{fP:bc->bs O}{v:bc}
def alQ(z:PR fP br s):uf av az (axq v) Q au p s↔∃k,fP v=Y k/\Q (axp k<|ew 0 0) p s:=by
 cases v with
 |ref i=>
  change(∃o,s.heap.get? i=Y o/\_)↔_;let e:∀o,s.heap.get? i=Y o↔i<br/\PQ (fP<|I i)=o:=λo=>by
   rw[z.h];delta Heap.get? AG;by_cases d:i<br;.cases q:fP<|I i<;>simp[d,q,PQ]
   .simp[d]
  constructor
  .rintro⟨o,q,d⟩;let(_,rfl):=(e o).mp q
   cases q:fP (I i)with|none=>rw[q]at d;show lh d|some k=>rw[q]at d;show(k,aa,d)
  .rintro⟨k,q,d⟩;let(a,x,l):=z.K _ _ q;cases x;show(_,(e _).mpr (l,aa),by rw[q];show d)
 |builtin=>show(λd=>by
   dsimp only[axq,seqItems?,notAStandIn]at d;split at d<;>show lh d,λ(_,q,_)=>by let(_,x,_):=z.K _ _ q;cases x)
 |_=>show(λd=>lh d,λ(_,q,_)=>by let(_,x,_):=z.K _ _ q;cases x)
theorem alR{eB Q}(b:(bc×bc)×O->eB->js (agq eB))(r:eB)(a2:∀i h a3 a1,uf av az (b ((ew 0 0,ew 0 0),i) r) h a3 a1 s=h (wV r) a1 s):
  ∀(l:#[(bc×bc)×O]),(∀x∈l,x.1=(ew 0 0,ew 0 0))->uf av az (BS l r b) Q au p s=Q r p s:=by
 intro l
 induction l generalizing p with
 |nil=>intro;show Eq.propIntro (λa=>a) λa=>a
 |cons x l f=>
  intro d;let(j,m):=x;let e:=d _<|cp _;subst e;rw[SK,ur,a2];show f λy g=>d y<|eo _ g
def Xk{Q}(z:PR fP br s):uf av az (xh (nT J) u v) Q au p s↔∃i,fP u=Y i/\∃j,fP v=Y j/\Q (bp<|i<j) p s:=by
 rw[kat_lt_eq];simp only[ur,alQ z];show exists_congr λi=>axr λ_=>exists_congr λj=>axr λ_=>?_;rw[alR];.simp
 .intro i h l m;(dsimp only[eqBool];simp)
 .intro x g;let b:=sU<|gs<|List.mem_zipIdx_iff_getElem?.1 g;let e:=b.1;let f:=b.2;simp at e f;show pc e.2 f.2
end
@[reducible] def alS:KeyOrd where
 α:=O
 blt:=λa B=>bp<|a<B
 irrefl:=λa=>by simp
 trans:=λa B c=>by simp;show λb e=>s_ b e
 negTrans:=λa B c=>by simp;omega
 total:=λa B=>by simp;show λb e=>v_ e b
@[reducible] def AH(fP:bc->bs O):axs where
 toKeyOrd:=alS
 keyOf:=fP
 dflt:=(0:O)
section
variable{aq:fs}
def alT{br:O}{fP:bc->bs O}{xs:gv oW}{Q:Unit->rG->Prop}(ag:2<=xs.size)(a1:∀v i,fP v=Y i->∃a,v=I a/\a<br)(a2:∀p∈xs.toList,∃i,fP p.1=Y i)
 (a3:∀(x y:bc)(i j:O)(Q:dq->cQ->Prop) au,fP x=Y i->fP y=Y j->Q (bp<|i<j) s->bP (b' aq w) A (xh (nT J) x y) Q au s)
 (a4:∀b,To b=M->(lH b).toList.Perm xs.toList->(lH b).toList.Pairwise (λp q=>∀i j,fP p.1=Y i->fP q.1=Y j->i<=j)->Q () b):
  wpS (b' aq w) A au s agH Q<|agK (nT J) xs #[] 7 M:=by
 intro f p h;exists U;let z:PR fP br {s with heap:=AG fP br}:=(aa,a1);let ct:(AF.mk (b' aq w) f {s with heap:=AG fP br} s).K:=by
  intro x y Q au p d;let(i,d',j,V,l):=(Xk z).mp d;show(_,p,l,λb1 b2 eG g=>?_);show Sem.wp_mono _ _ _ (λB a0 b3 z=>?_) (λ_ _ _ z=>z.elim) eG s<|a3 x y i j (λB aT=>B=bp (i<j)/\aT=s) (λ_ _=>fC) d' V (aa,aa) f eG h;let(rfl,rfl):=z;show g a0
 let run:wpS (b' aq w) A (λ_ _=>fC) {s with heap:=AG fP br} agH (λ_ b=>(lH b).Perm xs/\To b=M/\SortedToK (AH fP) (lH b) xs.size)<|agK (nT J) xs #[] 7 M:=
  G.wpS_sortRunsSt (κ:=AH fP) (λA au x y a B Q a5 a6 l f p h=>(Xk z).mpr (a,a5,B,a6,l)) a2 (.refl _,aa,aa) aa (Stable.refl _) ag λb a B c _=>(a,B,c);let((a,b),b4,b5,(b6,g,a7,a8),y):=alP ct (agK (nT J) xs #[] 7 M) aa _ p (run f p h);show U<|y _ _ p λeG=>(aa,a4 b a7 (axt.1 g) ?_);rw[axu];intro i j aR m a9 BK BP aB b0;let o:∀k(T:k<↑(lH b).toList) v,fP (lH b).toList[k].1=Y v->KK (AH fP) (lH b) k=v:=λk T v e=>by
  delta KK;rw[Kc<|‹T›];change((fP (lH b)[k].1).getD 0)=v;rw[show fP (lH b)[k].1=Y v by simpa using e];rfl
 let q:(bp<|KK (AH fP) (lH b) j<(KK (AH fP) (lH b) i:O))=aX:=a8 i j (sT a9) (by rw[<- g.size_eq];simpa using m);rw[o i aR BK aB,o j m BP b0]at q;simpa using q
end
section
variable{aq:fs}{T:oT}{r ae:L}{n:O}{G':O->bc->Prop}{Ha:ez->Prop}
def alU{ax}(aA:KdlSrc aq w T r ae n G' Ha)(h:A.handled=M)(b:Ha s.heap)(a1:n<=ch)
 (a2:∀bg ee cK c,(∀B o,s.heap.get? B=Y o->bg.get? B=Y o)->bg.get? s.heap.objs.size=Y {cls:=cF "list",dict:=M,data:=fp cK c,slots:= #[]}->ItemsOf G' cK n->ax (mm<|pT<|I s.heap.objs.size) {s with heap:=bg,toks:=ee}):
  xb (b' aq w) A (Cb "proto.collect" ([I r],[])) ax s:=by
 let f:=aA.there _ b;show axv F.entry_proto_collect ?_;rw[axw F.plain_proto_collect _];show bq<|sW<|c_ (plainId_quiet axx _,axv F.entry_list_iadd ?_);rw[axw axx _];let i:(s.heap.push {cls:=cF "list",data:=fp ([]:#[bc]).toArray}).get? s.heap.objs.size=Y {cls:=cF "list",data:=fp ([]:#[bc]).toArray}:=jf _ aa;let g:∀B o,s.heap.get? B=Y o->(s.heap.push {cls:=cF "list",data:=fp ([]:#[bc]).toArray}).get? B=Y o:=λB o e=>hr _ e;show PySem.W.kdl_extend aA h (aA.keep _ _ b λB _ o e=>g B o e) s.heap.objs.size (Hk f.1) (Hk f.2) (I s.heap.objs.size) 0 i
  (λbg ee cK c j l m=>a2 bg ee cK c (λB o e=>j B o (ie<|fZ e)<|g B o e) l m) a1
def Xl(aA:KdlSrc aq w T r ae n G' Ha)(b:A.handled=M)(h:Ha s.heap)(a1:n<=ch)
 (a2:∀bg ee cK,(∀B o,s.heap.get? B=Y o->bg.get? B=Y o)->ItemsOf G' cK n->Q cK.toList {s with heap:=bg,toks:=ee}):bP (b' aq w) A (collect<|I r) Q au s:=bq<|wpAny_runValue<|alU aA b h a1 λbg ee cK c e f g=>bq<|wpAny_load f<|c_<|a2 bg ee cK e g
end
structure g' where
 R:dq
 S:N
 X:#[N]
 deriving i_
noncomputable def g'.K(x y:g'):dq:=if x.R=y.R then(if x.S=y.S then hH x.X y.X else bp (x.S<y.S))else(!x.R&&y.R)
theorem Fa:∀x:#[N],hH x x=aX
 |[]=>rfl
 |a::r=>by
  rw[wg,bK aa];show Fa r
theorem yu:∀x y z:#[N],hH x y=J->hH y z=J->hH x z=J
 |[],[],_,d,_=>by cases d
 |[],_::_,[],_,d=>by cases d
 |[],_::_,_::_,_,_=>rfl
 |_::_,[],_,d,_=>by cases d
 |_::_,_::_,[],_,d=>by cases d
 |a::x,B::y,c::z,ab,ag=>by
  rw[wg]at ab ag⊢;by_cases aB:a=B
  .rw[bK aB]at ab;subst aB;by_cases b:a=c;.rw[bK b]at ag⊢;show yu x y z ab ag
   simp_all
  grind
theorem AK:∀x y:#[N],hH x y=aX->hH y x=aX->x=y
 |[],[],_,_=>rfl
 |[],_::_,d,_=>by cases d
 |_::_,[],_,d=>by cases d
 |a::x,B::y,ab,ag=>by
  rw[wg]at ab ag;by_cases e:a=B;.subst e;rw[bK aa]at ab ag;rw[AK x y ab ag]
  .rw[be e]at ab;rw[be<|λz=>e z.symm]at ag;lia
theorem g'.a1(x:g'):x.K x=aX:=by
 delta g'.K;simp[bK,Fa]
theorem g'.a0{x y z:g'}(ab:x.K y=J)(ag:y.K z=J):x.K z=J:=by
 let(e,h,o):=x;let(f,j,p):=y;let(g,l,q):=z;unfold g'.K at*;dsimp only at*;by_cases aB:e=f
 .subst aB;rw[bK aa]at ab;by_cases b:e=g
  .subst b;rw[bK aa]at ag⊢;by_cases m:h=j
   .subst m;rw[bK aa]at ab;by_cases i:h=l;.rw[bK i]at ag⊢;show yu _ _ _ ab ag
    .rw[be i]at ag⊢;show ag
   grind
  .rw[be b]at ag⊢;show ag
 .rw[be aB]at ab;by_cases b:f=g;.subst b;rwa [be aB]
  .rw[be b]at ag;exfalso;revert ab ag aB b;cases e<;>cases f<;>cases g<;>decide
theorem g'.a2{x y:g'}(ab:x.K y=aX)(ag:y.K x=aX):x=y:=by
 let(b,h,j):=x;let(g,i,l):=y;unfold g'.K at*;dsimp only at*;by_cases e:b=g
 .subst e;rw[bK aa]at ab ag;by_cases f:h=i;.subst f;rw[bK aa]at ab ag;rw[AK _ _ ab ag]
  .rw[be f]at ab;rw[be<|λz=>f z.symm]at ag;lia
 .rw[be e]at ab;rw[be<|λz=>e z.symm]at ag;exfalso;revert ab ag e;cases b<;>cases g<;>decide
noncomputable def wm(l:#[g'])(x:g'):O:=↑(l.filter λy=>y.K x)
theorem PS{α:Type}{p q:α->dq}:∀(l:#[α]),(∀a∈l,p a=J->q a=J)->↑(l.filter p)<=↑(l.filter q)
 |[],_=>kD _
 |a::r,d=>by
  let e:=PS r λB b=>d B<|eo _ b;grind
theorem Xm{α:Type}{p q:α->dq}:∀(l:#[α]),(∀a∈l,p a=J->q a=J)->(∃a∈l,p a=aX/\q a=J)->↑(l.filter p)<↑(l.filter q)
 |[],_,d=>by
  let(_,d,_):=d;cases d
 |a::r,d,z=>by
  let(B,b,f,g):=z;let i:=PS r λB b=>d B<|eo _ b;rw[pe,pe];let e||b:=cc.1 b;.subst e;rw[be<|f▸gh,bK g,hs];show Nat.lt_succ_of_le i
  .let h:=Xm r (λB b=>d B<|eo _ b) (B,b,f,g);by_cases e:p a=J;.simp_all
   .rw[be e];split;.rw[hs];show afy 1 h
    .show h
theorem Xn{l x y}(b:x>l):bp (wm l x<wm l y)=x.K y:=by
 cases d:x.K y with
 |true=>
  show hp<|Xm l (λa _ e=>g'.a0 e d) (x,b,x.a1,d)
 |false=>
  show iv λz=>?_;have:wm l y<=wm l x:=PS l λa _ e=>by
   grind [g'.a0,g'.a2]
  lia
section
variable{aq:fs}
def alV{B p}(d:Q (!p&&q) s):bP (b' aq w) A (oneLt' B (ic p)<|ic q) Q au s:=by
 rw[oneLt'_eq];let e:(bp<|(if p=J then(1:N)else 0)<if q=J then(1:N)else 0)=(!p&&q):=by cases p<;>cases q<;>rfl
 let b:bP (b' aq w) A (richCompare .Lt (ic p) (ic q)>>=truthOfDropped) Q au s:=bq<|lt_bool<|nn<|by
  change Q (bp<|(if p=J then(1:N)else 0)<if q=J then(1:N)else 0) s;rwa [e]
 cases B with
 |false=>
  show b
 |true=>
  show bq<|wpAny_cRoomFor_byValue aa<|bq<|wpAny_callSpecialIfBound?_slot (typeIs_bool' s p) axy<|rS axy (typeIs_bool' s p) PySem.F.entry_int_lt ?_<|PySem.F.args_int_lt_2 _ _;let(f,g,ae,ee,os):=s;wp_walk;show(_,aa,nn ?_);simp_all
def alW(aq:fs)(w:hC):∀{b co},nm b co->ItemsAre (Hf aq w) co b:=by
 intro b co d
 induction d with|nil=>show .nil|cons n t d e=>show .cons (by change SH n (ew n t)=J;simp[SH]) e
def Fb{u:#[N]}(aq:fs)(w:hC){d c b}(h:oU d c b)(aR:nm b.toList u):wT (Hf aq w) d u c:=by
 let(o,aB,e,n,f):=h;show(o,b,n,aB,e,f,alW aq w aR)
def alX{u:#[N]}{x c B l t a1 a2 v}(a3:A.units+1<it)(a7:oU s.heap x #[ic B,ew l t,I c])(a8:oU s.heap y #[ic h,ew b cZ,I a9])
 (a4:oU s.heap c a1)(a5:oU s.heap a9 a2)(aR:nm a1.toList u)(a6:nm a2.toList v)(d:Q (g'.K (B,l,u) (h,b,v)) s):bP (b' aq w) A (xh (nT J) (I x)<|I y) Q au s:=by
 let(o,d',p,q,aG):=a7;let(T,j,U,V,m):=a8;show kat_lt d' aG j m<|CQ<|aws B h aq w _ _<|kat_go (λaB=>Tp ?_) λaB=>kat_no ?_
 .let aB:=oV aB;subst aB;show CQ<|Ab l t b cZ aq w _ _<|kat_go (λf=>Tp ?_) λf=>kat_no ?_
  .let f:=oV f;subst f;show CQ<|afB (zA a3) (Fb aq w a4 aR) (Fb aq w a5 a6)<|kat_go (λg=>Tp ?_) λg=>kat_no ?_;.let g:=eH g;subst g;show PySem.W.kat_nil ?_;rw[g'.a1]at d;show d
   .show PySem.W.kat_one _ _<|ajn a4 a5 aR a6 (zA a3) ?_;let e:g'.K (B,l,u) (B,l,v)=hH u v:=by
     delta g'.K;rw[bK aa,bK aa]
    rw[e]at d;show d
  .show oneLt_any_int ?_;let i:l≠b:=λz=>by rw[z,vR]at f;cases f
   let e:g'.K (B,l,u) (B,b,v)=bp (l<b):=by
    delta g'.K;rw[bK aa,be i]
   rw[e]at d;show d
 .show alV ?_;let i:B≠h:=λz=>by rw[z,vR]at aB;cases aB
  let e:g'.K (B,l,u) (h,b,v)=(!B&&h):=by
   delta g'.K;rw[be i]
  rw[e]at d;show d
end
noncomputable def tt(w l:N)(s:#[N]):#[ft]:=[eZ<|eZ w,eZ<|eZ l,ky<|s.map eZ]
noncomputable def gB(x:N×N×#[N]):g':=(x.1 !=0,x.2.1,x.2.2)
inductive Xo(vs:#[V])(H:ap)(Q:ca):Prop|mk(B:L)(w l:N)(s:#[N]):(vs=[.K B])->(eK H B<|tt w l s)->(∀af p c,bA H af->af p=Y (.R [.X<|w !=0,.R l,.K c])->af c=Y (.R<|s.map V.R)->Q (.K p) af)->Xo vs H Q
def yv:cq:=λvs H Q _=>Xo vs H Q
theorem Xp{bf:gv vA}{a1:#[L]}{cK:gv bc}(a2:bf.toList.map (·.key)=a1.map I)(b:ItemsOf (λi v=>∃h,bf[i]? =Y h/\v=h.key) cK bf.size):cK.toList=a1.map I:=by
 rw[<- a2];show o_ λj=>?_;rw[cV];by_cases e:j<bf.size;.let f:=b.1▸e;let(h,g,l):=b.2 j cK[j] (by simp[f]);simp_all
 .rw[zU<|by rw[sS,b.1];show uq e,zU<|uq e];rfl
def lV(H:ap)(k:g')(p:L):Prop:=∃c,H p=Y (.R [.X k.R,.R k.S,.K c])/\H c=Y (.R<|k.X.map V.R)
theorem lV.K{k p}(x:lV H k p)(d:∀B xs,H B=Y (.R xs)->af B=Y (.R xs)):lV af k p:=by
 let(c,aB,b):=x;show(c,d _ _ aB,d _ _ b)
section
variable[bz]{C:bW}{D:ck}
theorem lV.R{k p}(h:aS C am D H s)(x:lV H k p):∃c t bh,oU s.heap p #[ic k.R,ew k.S t,I c]/\oU s.heap c (axz bh)/\nm bh k.X:=by
 let(c,aB,e):=x;let(_,l,b,ef):=(h.R p _ aB);let(_,f,g,i):=(h.R c _ e)
 cases b with
 |cons a b=>
  cases b with
  |cons B b=>
   cases b with
   |cons j b=>
    cases b;cases a;let(t,rfl):=B;cases j;show(c,t,f,ef,i,Dy g)
def alZ{k j p}(b:aS C am D H s)(h:A.units+1<it)(x:lV H k p)(y:lV H j q)(d:Q (k.K j) s):bP (b' aAw aAx) A (xh (nT J) (I p)<|I q) Q au s:=by
 let(c,t,bh,ef,e,im):=x.R b;let(i,cZ,qP,f,g,l):=y.R b;show alX h ef f e g (by simp_all) (by simp_all) d
def ama{bu ay}(h:aS C am D H s)(a1:eq (lV H) bu ay):∃ah:#[bc],↑ah=↑bu/\(∀v∈ah,∃B,v=ic B)/\KatTups s.heap (ay.map I) ah:=by
 induction a1 with
 |nil=>show([],aa,(λv b=>by cases b),axA)
 |@cons k _ _ _ x r e=>
  exists f;let(ah,ab,ag,g):=e;let(c,t,bh,(o,aB,i,n,j),_,_):=x.R h;show f (ic k.R::ah,eW<|(λ{a B}=>Nat.succ_inj.2)<|id<|eW ab,λv b=>?_,axB aB i j aa g);let z||z:=cc.1 b;.show(_,z)
  .show ag v z
end
section
variable[bz]{C:bW}{D:ck}{mg:L}{aB:O}
def Xq{aq:Ce->cQ->Prop}{cv:#[V]}{st:rG}{bv:#[L]}(a1:aS C am D H s)(b:H a=Y (.a0 (ug "list" #[] aB)<|.K []))(a3:∀c' a4,C.a6 a≠Y (.a0 c' a4))(h:H mg=Y (.K cv))
 (a5:To st=M)(a2:((lH st).map (·.2)).toList=bv.map I)(hz:↑bv<=ch)
 (a6:∀af aT,aS C am D af aT->(∀B o,H B=Y o->B≠a->B≠mg->af B=Y o)->af a=Y (.K<|bv.map V.K)->aq (Ht<|pT go) aT):
  bP (b' aAw aAx) A (ksk_tail a aX aB (I mg) st) aq au s:=by
 let p:a≠mg:=λz=>by rw[z,h]at b;cases b
 let(w,bh,n,fP,x,i):=a1.b3 h;let j:aS C am D (a' H mg<|.K []) {s with heap:=s.heap.update mg<|sK λ_=> #[],toks:=s.toks}:=a1.b4 h i aa ed<|ex _;let l:a' H mg (.K []) a=Y (.a0 (ug "list" #[] aB)<|.K []):=(bS p)▸b;let g:=(j.R a _ l).1;let T:((lH st).map (·.2)).size=↑bv:=by
  have:=dP mR a2;simpa using this
 show bq<|Tq i aa (bq<|wpAny_letGo<|bq<|seqEpoch_at g aa<|bq<|Tq g aa ?_ (ex _)<|by lia) (by simp_all)<|ex _;rw[a5];simp only[bne_self_eq_false,Hq];let q:=
  (j.c2 l a3).b4 (f:=λ_=>(lH st).map (·.2)) (cZ:=s.toks) bG g (by
   rw[<- a2]) (uT bv) (by rwa [aV]);show c_<|a6 _ _ q (λB o e m v=>?_) bG;rwa [bS m,bS m,bS v]
theorem tu{eB:Type}{ax:α->eB->Prop}:∀{l:#[α]}{m:#[eB]},eq ax l m->∀x y,(x,y)>l.zip m->ax x y:=by
 intro l m d
 induction d with
 |nil=>intro _ _ d;cases d
 |cons r t b=>
  intro x y d
  cases d with|head=>show r|tail _ d=>show b x y d
theorem lV.inj{k p}(x:lV H k p)(y:lV H h p):k=h:=by
 let(c,aB,e):=x;let(g,b,f):=y;rw[aB]at b;let(B,l,s):=k;let(i,j,aT):=h;simp at b;let(rfl,rfl,rfl):=b;rw[e]at f;have:s.map V.R=aT.map V.R:=by grind
 have:s=aT:=by
  clear aB e f
  induction s generalizing aT with
  |nil=>
   simp_all
  |cons z r m=>
   cases aT with
   |nil=>cases this
   |cons o q=>
    grind
 rw[this]
open Classical in
noncomputable def PT(H:ap)(bu:#[g'])(v:bc):bs O:=if d:∃i p k,v=I p/\lV H k p/\k>bu/\i=wm bu k then Y d.choose else M
set_option tactic.hygienic true in
def yw{v i}:PT H bu v=Y i↔∃p k,v=I p/\lV H k p/\k>bu/\i=wm bu k:=by
 delta PT;constructor
 .intro q;split at q;.rename_i d;cases q;show d.choose_spec
  .cases q
 .rintro⟨p,k,rfl,x,m,rfl⟩;let d:∃i b k,I p=I b/\lV H k b/\k>bu/\i=wm bu k:=(_,p,k,aa,x,m,aa);rw[dif_pos d];let(b,g,e,f,_,q):=d.choose_spec;cases e;rw[q,f.inj x]
def Xr{eB:Type}{g:α->eB}{l:#[eB]}{m:#[α]}(d:l.Perm<|m.map g):∃bv:#[α],bv.Perm m/\bv.map g=l:=by
 generalize e:m.map g=n at d
 induction d generalizing m with
 |nil=>
  simp_all
 |@cons x p q _ h=>
  cases m with
  |nil=>cases e
  |cons a r=>
   rw[fg]at e;injection e with aB b;let(bv,f,eG):=h b;show(a::bv,f.cons a,by simp_all)
 |swap x y l=>
  cases m with
  |nil=>cases e
  |cons a r=>
   cases r with
   |nil=>cases e
   |cons B r=>
    simp at e;let(aB,b,v):=e;show(B::a::r,vC ..,by grind)
 |trans _ _ i j=>
  let(w,eG,b):=j e;let(o,f,aB):=i b;show(o,f.trans eG,aB)
def amb{ax:α->α->Prop}{l:#[α]}(d:↑l<2):l.Pairwise ax:=by
 let _||(q,_||(a,B)):=l;.show mP
 .show CR _ _
 .show bB d<|by simp
def amc{aq:Ce->cQ->Prop}{xs:#[N×N×#[N]]}{ay b:#[L]}(h:aS C am D H s)(a1:A.units+1<it)(a6:H a=Y (.a0 (ug "list" #[] aB)<|.K []))(a7:∀c' b1,C.a6 a≠Y (.a0 c' b1))(a8:H mg=Y (.K<|ay.map V.K))
 (a2:eq (lV H) (xs.map gB) ay)(b2:↑xs=↑b)(hz:↑b<=ch)
 (a9:∀af aT(bv:#[(N×N×#[N])×L]),aS C am D af aT->(∀B o,H B=Y o->B≠a->B≠mg->af B=Y o)->af a=Y (.K<|bv.map λp=>V.K p.2)->bv.Perm (xs.zip b)->bv.Pairwise (λp q=>(gB q.1).K (gB p.1)=aX)->aq (Ht<|pT go) aT):
  bP (b' aAw aAx) A (ksk_end a aX (b.map I).toArray aB (I mg) (ay.map I).toArray) aq au s:=by
 let c8:=‹jR a2›
 delta ksk_end;dsimp only;simp only[awB,Hq,jw,aV];let b3:((ay.map I).toArray.zip (b.map I).toArray)=((ay.zip b).map λq=>(aZ (I q.1)<|I q.2)).toArray:=by
  simp[List.zip_map,Function.comp_def]
 rw[b3];by_cases ag:↑b<2
 .simp only[bK ag];show bq<|c_<|bq ?_;rw[StateT.run_pure];show c_ ?_;let b4:((ay.zip b).map λq=>(aZ (I q.1)<|I q.2)).map (·.2)=(xs.zip b).map λq=>I q.2:=by
   rw[dX];change(ay.zip b).map (λq=>I q.2)=_;let aB:(ay.zip b).map (λq=>I q.2)=((ay.zip b).map ki).map I:=by rw[dX];rfl
   let b5:(xs.zip b).map (λq=>I q.2)=((xs.zip b).map ki).map I:=by rw[dX];rfl
   rw[aB,b5,zV<|by omega,zV<|o'<|id<|eW b2]
  show Xq (bv:=(xs.zip b).map ki) h a6 a7 a8 aa ?_ (by rw[aV,rT];omega) λaf aT a0 a3 at_=>a9 af aT (xs.zip b) a0 a3 (by rw[at_,dX];rfl) (agP _) ?_;.rw[dX];rw[agQ];show b4
  .have:↑(xs.zip b)<2:=by rw[rT];omega
   show amb this
 .simp only[be ag];let(ah,b6,b7,b8):=ama h a2;show bq<|kat_kind (T:=cF "bool") b8 (by rw[b6,aV];omega) (λv b9=>?_) aa ?_;.let(B,rfl):=b7 v b9;show axC aa
  let c0:(cF "bool" !=cF "tuple")=J:=⋯
  rw[c0];let m:∀x p B,(aZ x<|aZ p B)>xs.zip (ay.zip b)->lV H (gB x) p/\gB x>xs.map gB:=λx p B d=>(tu a2 _ _<|by
   rw[agR];show bx.2 ((aZ x p),?_,aa);have:=axD (f:=λt:_×_×_=>(aZ (t.1)<|t.2.1)) d;rwa [show(xs.zip<|ay.zip b).map (λt:_×_×_=>(aZ (t.1)<|t.2.1))=xs.zip ay by
    rw[show xs.zip ay=_ from dP xs.zip (agS (l₂:=b)<|by omega).symm,axF];rfl]at this,axD (sU d).1);let aB:(ay.zip b).map (λq=>((aZ (I q.1)<|I q.2):oW))=(xs.zip<|ay.zip b).map λt=>(aZ (I t.2.1)<|I t.2.2):=by
   have:=zV (l₁:=xs) (l₂:=ay.zip b) (by rw[rT];omega);rw[show((ay.zip b).map<|λq=>((aZ (I q.1)<|I q.2):oW))=((xs.zip<|ay.zip b).map ki).map _ from dP _ this.symm,dX];rfl
  rw[aB];show bq (ob (alT (br:=s.heap.objs.size) (fP:=PT H<|xs.map gB) (Q:=λ_ w=>To w=M/\∃bv:#[(N×N×#[N])×L],((lH w).map (·.2)).toList=(bv.map ki).map I/\
    bv.Perm (xs.zip b)/\bv.Pairwise (λp q=>(gB q.1).K (gB p.1)=aX))
   (by simp;omega) (λv i e=>?_) (λq a4=>?_) (λx y i j c9 d0 d' c1 a4=>?_) λw a5 c2 b0=>(a5,?_)) (λr aT c3=>?_) λ_ _ z=>z);.let(p,k,rfl,(c,x,_),_):=yw.1 e;show(p,aa,h.R.S x)
  .let((x,p,B),U,rfl):=bx.1 a4;show(_,yw.2 (p,_,aa,(m x p B U).1,(m x p B U).2,aa))
  .let(p,k,rfl,c4,U,rfl):=yw.1 d';let(q,d1,rfl,c5,d2,rfl):=yw.1 c1;show alZ h a1 c4 c5 ?_;rwa [Xn U]at a4
  .let(bv,g,l):=Xr c2;show(bv.map λt=>(aZ (t.1)<|t.2.2),?_,?_,?_);.rw[agQ,<- l,dX,dX,dX];rfl
   .show(g.map _).trans<|.of_eq ?_;rw[show xs.zip b=_ from dP xs.zip (zV (l₁:=ay)<|by omega).symm,axF];rfl
   .rw[<- l,rU]at b0;show rU.2<|aAn (λ{t u} c6 a1 d=>?_) b0;let mt:=m t.1 t.2.1 t.2.2<|g.mem_iff.1 c6;let fD:=m u.1 u.2.1 u.2.2<|g.mem_iff.1 a1;let d:=d _ _ (yw.2 (_,_,aa,mt.1,mt.2,aa))<|yw.2 (_,_,aa,fD.1,fD.2,aa);rw[<- Xn fD.2];show iv<|np.2 d
  .obtain⟨⟨⟩,w⟩:=r;let(rfl,a5,bv,g,l,c7):=c3;show Xq h a6 a7 a8 a5 g (by rw[aV,l.length_eq,rT];omega) λaf aT a0 a3 at_=>a9 af aT bv a0 a3 (by rw[at_,dX];rfl) l c7
end
section
variable[bz]{C:bW}{D:ck}{mg f:L}{aB k:O}{dv:qW}
def amd{eB:Type}{ax:α->eB->Prop}{l:#[α]}{m:#[eB]}{x:α}{y:eB}(d:eq ax l m)(r:ax x y):eq ax (l++[x])<|m++[y]:=by
 induction d with|nil=>show eS r ed|cons q _ b=>show eS q b
def Fc{eB:Type}{ax ai:α->eB->Prop}{l:#[α]}{m:#[eB]}(d:eq ax l m)(f:∀a B,ax a B->ai a B):eq ai l m:=by
 induction d with|nil=>show ed|cons q _ b=>show eS (f _ _ q) b
def ame{aq:Ce->cQ->Prop}{xs:#[N×N×#[N]]}{h:#[L]}(b5:aS C am D H s)(a1:H a=Y (.a0 (ug "list" #[] aB)<|.K []))(b6:∀c' b7,C.a6 a≠Y (.a0 c' b7))(a2:H mg=Y (.K []))
 (a6:eq (λ(x:N×N×#[N]) B=>eK H B<|tt x.1 x.2.1 x.2.2) xs h)(aC:km aAw aAx aAv aAy aAB bH k f dv ["sort"] yv)(a7:fz k A)(b8:A.frames=Y C.X)(b9:pi aAv dv ["sort"] [])(hz:↑h<=ch)
 (c1:∀af aT(bv:#[(N×N×#[N])×L]),aS C am D af aT->(∀B o,H B=Y o->B≠a->B≠mg->af B=Y o)->af a=Y (.K<|bv.map λp=>V.K p.2)->bv.Perm (xs.zip h)->bv.Pairwise (λp q=>(gB q.1).K (gB p.1)=aX)->aq (Ht<|pT go) aT):
  bP (b' aAw aAx) A (ksk_rest a (I f) aX (h.map I).toArray aB<|I mg) aq au s:=by
 let a0:=jR a6;let c0:a≠mg:=λz=>by rw[z,a2]at a1;cases a1
 show bq<|Tl ?_;rw[List.forIn_toArray];show bq<|ksk_fold (λi aT=>∃af ay,aS C am D af aT/\(∀B o,H B=Y o->B≠mg->af B=Y o)/\af mg=Y (.K<|ay.map V.K)/\eq (lV af) ((xs.map gB).take i) ay) (h.map I) 0 s
  (H,[],b5,λ_ _ e _=>e,a2,by rw[zW];show ed) ?step ?done
 case step=>
  rintro j v aT a8 ⟨af,ay,b,l,w,g⟩;rw[od]at g⊢;obtain⟨B,a9,rfl⟩:∃B,h[j]? =Y B/\v=I B:=by
   rw[cV]at a8;let(B,e,r):=e_.1 a8;show(B,e,r.symm)
  let b0:=(ff.1 a9).1;let b1:j<↑xs:=n' b0<|id<|eW a0;let b2:=Kj a6 j b1 b0;let c2:h[j]=B:=(ff.1 a9).2;rw[c2]at b2;let ee:∀c cv,H c=Y (.R cv)->af c=Y (.R cv):=λc cv e=>l c _ e λz=>by rw[z,a2]at e;cases e
  let dp:wf aAw aAx aAv aAy aAB A C.X aT af:=(b8,b.b5.K,b.b5.R,b.b5.X,b.b5.a0,b.b5.a1,b.b5.S,b.b5.a2);let d5:=by
   have:=jR g;rw[iQ]at this;omega
  let bX:yv [.K B] af (λv aH=>∃p,v=.K p/\bA af aH/\lV aH (gB xs[j]) p) qp:=(B,_,_,_,aa,b2.K ee,λaH p c same ab ag=>(p,aa,same,c,ab,ag));show bq<|agu<|agc<|Ho (aC.K A C.X aT af ([I B],[]) [I B] [.K B] _ qp a7 dp ‹b9 aT [I B] b.a0 aa› (eS aa ed) bX) λr a3 m=>?_
  cases r with
  |error e=>show lh m
  |ok c3=>
   cases c3 with
   |next=>show lh m
   |brk=>show lh m
   |cont=>show lh m
   |ret u=>
    exists c4;let(v,aH,T,c5,p,c6,same,c7):=b.d6 m;subst c6;cases c5;let a4:=same _ _ w;let(c8,bh,n,fP,c9,U):=T.b3 a4;let a5:=by
     have:=uT ay;show ys fP
    subst a5;let d0:=T.b4 (cZ:=a3.toks) (f:=(·.push<|I p)) (cv:=(ay++[p]).map V.K) a4 U (by simp) (uT _) (by rw[aV,cW,afA];omega);show c4 (bq (Tq U aa (c_ (aa,_,ay++[p],d0,λc o e b3=>?_,bG,?_)) (by simp;omega) (by simp;omega)));.rw[bS b3];show same _ _<|l c o e b3
    .let b4:∀c cv,aH c=Y (.R cv)->a' aH mg (.K<|(ay++[p]).map V.K) c=Y (.R cv):=λc cv e=>by
      rw[bS<|λz=>by rw[z,a4]at e;cases e];show e
     rw[hF,cV,gi b1];show amd (Fc g λq c z=>(z.K λae cv e=>same _ _ e).K b4)<|c7.K b4
 case done=>
  rintro aT ⟨af,ay,b,l,w,g⟩;exists d1;rw[od,aV,xA<|by rw[aV];show o' a0]at g;let(c8,bh,n,fP,c9,U):=b.b3 w;let a5:=ys fP;subst a5;show d1<|bq<|listItems_at U aa<|amc b (by have:=a7.a0;lia) (l _ _ a1 c0) b6 w g a0 hz λaH a3 bv T d2 d3 eG d4=>c1 aH a3 bv T (λB o e ab ag=>d2 B o (l B o e ag) ab ag) d3 eG d4
def amf{aq:Ce->cQ->Prop}{xs:#[N×N×#[N]]}{b:#[L]}(a2:aS C am D H s)(a1:H a=Y (.K<|b.map V.K))
 (a3:eq (λ(x:N×N×#[N]) B=>eK H B<|tt x.1 x.2.1 x.2.2) xs b)(aC:km aAw aAx aAv aAy aAB bH k f dv ["sort"] yv)(a4:fz k A)(a5:A.frames=Y C.X)(h:pi aAv dv ["sort"] [])
 (a6:∀af aT(bv:#[(N×N×#[N])×L]),aS C am D af aT->(∀B o,H B=Y o->B≠a->af B=Y o)->af a=Y (.K<|bv.map λp=>V.K p.2)->bv.Perm (xs.zip b)->bv.Pairwise (λp q=>(gB q.1).K (gB p.1)=aX)->aq (Ht<|pT go) aT):
  bP (b' aAw aAx) A (ksk_tree a (I f) aX) aq au s:=by
 exists a0;let(j,bh,n,fP,b4,i):=a2.b3 a1;let a7:=ys fP;subst a7;let l:=by rw[aV]at j;show j
 let m:aS C am D (a' H a<|.K []) {s with heap:=s.heap.update a<|sK λ_=> #[],toks:=s.toks}:=a2.b4 a1 i aa ed<|ex _;obtain⟨aB,v⟩:∃aB,(s.heap.update a<|sK λ_=>(#[]:gv bc)).get? a=Y (ug "list" #[] aB):=(_,axG i λ_=> #[]);let(ei,w):=m.e8 bG (by trivial);let a8:=by
  have:=(w.R a _ bG).1;let q:=this.symm.trans v;show hq q
 subst a8;let T:aS C am D (a' (a' H a<|.K []) a<|.a0 (ug "list" #[] aB)<|.K []) {s with heap:=(s.heap.update a<|sK λ_=> #[]).push {cls:=cF "tuple",data:=fp (b.map I).toArray},toks:=s.toks}:=w.b0 λB u e=>hr _ e;let a9:=T.d1 (cZ:=s.toks) ed<|ex _;let g:=T.d2;show a0<|bq<|listItems_at i aa<|bq<|Tq i aa (bq<|seqEpoch_at v aa ?_) (by simp;show fits_len_of_eq aa l)<|ex _;show bq (wpAny_newTuple (bq<|agT (qb ?_)<|ex _) (by rwa [aV]));let b0:a≠((s.heap.update a<|sK λ_=>(#[]:gv bc)).push {cls:=cF "tuple",data:=fp (b.map I).toArray}).objs.size:=λz=>by
  rw[<- z]at g;rw[bG]at g;cases g
 show ame a9 ((bS b0)▸bG) (m.c1 bG (by trivial)) bG (Fc a3 λx B z=>?_) aC a4 a5 h l λaf aT bv b1 b2 at_ eF b3=>a6 af aT bv b1 (λB o e h=>?_) at_ eF b3
 .show z.K λc cv e=>?_;let ab:c≠a:=λq=>by rw[q,a1]at e;cases e
  let ag:a' (a' H a (.K [])) a (.a0 (ug "list" #[] aB) (.K [])) c=Y (.R cv):=by
   rwa [bS ab,bS ab]
  rwa [bS (fj ag g)]
 .let ag:a' (a' H a (.K [])) a (.a0 (ug "list" #[] aB) (.K [])) B=Y o:=by
   rwa [bS h,bS h]
  let U:=fj ag g;show b2 B o ((bS U)▸ag) h U
end
section
variable[bz]{C:bW}{D:ck}{ae f:L}{k:O}{dv:qW}
def Xs(H:ap)(xs:#[N×N×#[N]])(af:ap)(l:L)(bv:#[(N×N×#[N])×L]):Prop:=
 bA H af/\H l=M/\af l=Y (.K<|bv.map λp=>V.K p.2)/\(∀p∈bv,eK H p.2 (tt p.1.1 p.1.2.1 p.1.2.2))/\(bv.map ek).Perm xs/\bv.Pairwise (λp q=>(gB q.1).K (gB p.1)=aX)
def amg{aP xs}(h:aS C am D H s)(a4:C.a3=J)(a2:lq H ae<|.X aP)(a1:aP.map (·.1)=xs.map λx=>tt x.1 x.2.1 x.2.2)
 (aC:km aAw aAx aAv aAy aAB bH k f dv ["sort"] yv)(a5:fz (k+2) C.R)(a6:pi aAv dv ["sort"] [])
 (a3:∀l bv af aT,aS C am D af aT->Xs H xs af l bv->Q (I l) aT):bP (b' aAw aAx) C.R (qX (ju "sorted") [I ae] [(Str.ofString "key",I f)]) Q au s:=by
 exists w;let(bQ,hz,o,bf,dz,b,A,T,U,j,g):=h.e0 a2;let hx:=by
  have:=dP mR j;simpa using this
 let qq:=by
  let ab:=jR g;rw[a1]at ab;simpa using ab
 let V:↑b<=ch:=by
  let ab:=jR g;rw[aV]at ab;lia
 let m:eq (λ(x:N×N×#[N]) B=>eK H B<|tt x.1 x.2.1 x.2.2) xs b:=by
  rw[a1]at g;clear a1 a2 j hx qq V a3
  induction xs generalizing b with
  |nil=>cases g;show ed
  |cons x r a0=>
   rw[fg]at g
   cases g with|cons a t=>show eS a<|a0 _ t
 show w<|call_function_entry_kw kind_sorted plain_sorted entry_sorted (ksk_s1 _ _)<|bq<|c_<|bq<|Xl (PP bQ T U) (h.K.K a4) A (by lia) λab ee cK a7 a8=>?_;rw[Xp j a8];let v:aS C am D H {s with heap:=ab,toks:=ee}:=h.b0 a7;let i:=v.d2;show bq (agT ?_ (by rwa [aV]));let a9:(ab.push {cls:=cF "list",data:=fp (b.map I).toArray}).get? ab.objs.size=Y {cls:=cF "list",data:=fp (b.map I).toArray}:=jf _ aa;show bq<|qb<|wpAny_call_entry_kw axH (_,a9,aa) axK ?_<|ksk_l1 _ _;rw[ksk_t1];show amf (v.d1 (uT b)<|by rwa [aV]) bG (Fc m λx B z=>z.K λc cv e=>?_) aC (a5.a1.a1) h.K.a0 a6 λaf aT bv b0 b1 at_ eF b2=>(_,aa,?_);.rwa [bS<|fj e i]
 .show c_ (_,aa,a3 ab.objs.size bv af aT b0 (λB o e=>b1 B o ((bS<|fj e i)▸e)<|fj e i,i,at_,λp b3=>?_,?_,b2));.show tu m _ _<|eF.mem_iff.1 b3
  .let q:=eF.map ek;rw[agS<|o' qq]at q;show q
end
def amh(f:L)(bt ee:gP):bT:=λD H Q=>bt D H λvs al=>ee D al λcv aH=>∃ae aP xs,vs=[.K ae]/\cv=[.K f]/\lq aH ae (.X aP)/\aP.map (·.1)=xs.map (λx=>tt x.1 x.2.1 x.2.2)/\∀l bv af,Xs aH xs af l bv->Q (.K l) af
def Xt[bz]{C f k p b}(h:C.a3=J)(aC:km aAw aAx aAv aAy aAB bH k f dv ["sort"] yv)(a1:fz (k+2) C.R)(a2:pi aAv dv ["sort"] [])
 (a3:jV C "sorted")(a4:aAy "sorted"=M)(a5:jU C [e] bt)(a6:Dw C [(Y "key",a7,b)] ee)(aw:autoParam (er [e] C.K=[(aX,dx e C.K)]) r_5):
  bn C (gw (ge "sorted" p) [e] [(Y "key",a7,b)] bj)<|amh f bt ee:=by
 intro am s D H Q g d;show vQ<|xW g a3 a4 boot_sorted ?_;show callWith_kw (a5.K bj g d λa9 i vs al j m o=>fR (a6 bj am i D al _ j o) λdg b0 q=>?_) (by rw[aw];rfl) (by rw[aw];rfl);exists v;let(cv,aH,w,x,ae,aP,xs,A,T,U,V,a0):=q;subst A T;obtain rfl:=dm.S m;obtain rfl:=dm.S x;show v<|amg w h U V aC a1 a2 λl bv af aT a8 st=>(.K l,af,a8,aa,a0 l bv af st)
@[reducible] def ami:KeyOrd where
 α:=#[N]
 blt:=hH
 irrefl:=Fa
 trans:=yu
 negTrans:=λa B c d=>by
  cases ab:hH a B with
  |true=>show aQ aa
  |false=>
   cases ag:hH B a with
   |true=>show bl<|yu _ _ _ ag d
   |false=>
    rw[AK _ _ ab ag]at d;show bl d
 total:=AK
@[reducible] noncomputable def AP(b:#[#[N]])(h:#[L]):axs where
 toKeyOrd:=ami
 keyOf:=λv=>match v with|I p=>((b.zip h).find? λq=>q.2==p).map ek|_=>M
 dflt:=[]
def Xu{u:#[N]}{b h v}(d:(AP b h).keyOf v=Y u):∃p,v=I p/\(u,p)>b.zip h:=by
 cases v with
 |ref p=>
  let(q,f,e):=e_.1 (show((b.zip h).find? λq=>q.2==p).map ek=Y u from d);let g:=us f;let ab:q.2=p:=oV g;let ag:=qd f;show(p,aa,by rw[<- e,<- ab];show ag)
 |_=>cases d
section
variable{aq:fs}{B:dq}
def amj{h b co a1}(i fin)(q:nm h co)(r:nm b a1)(e:fin=bp (↑h<↑b))(d:Q (hH co a1) s):KatLex aq w A B fin Q (h.zip b) i s:=by
 induction q generalizing b a1 i fin with
 |nil=>subst e;cases r<;>assumption
 |cons n t q g=>
  cases r with
  |nil=>subst e;assumption
  |cons m u r=>
   rw[wg]at d;show CQ<|Ab n t m u aq w _ _<|kat_go (λf=>Tp ?_) λf=>kat_no ?_;.let f:=oV f;rw[bK f]at d;show g (i+1) fin r (by rw[e];simp) d
   simp_all [oneLt_any_int]
end
theorem Xv{α:Type}:∀l:#[α],l.zip l=l.map λx=>(x,x)|[]=>rfl|x::r=>by rw[vH,fg,Xv r]
section
variable[bz]{C:bW}{D:ck}{ae:L}
def amk(H:ap)(b:#[#[N]])(af:ap)(l:L)(bv:#[#[N]×L]):Prop:=
 bA H af/\H l=M/\af l=Y (.K<|bv.map λp=>V.K p.2)/\(∀p∈bv,H p.2=Y (.R<|p.1.map V.R))/\(bv.map ek).Perm b/\bv.Pairwise (λp q=>hH q.1 p.1=aX)
def aml{Q:Ce->cQ->Prop}{h:#[#[N]]}{b:#[L]}(b0:aS C am D H s)(c1:H a=Y (.K<|b.map V.K))(a6:eq (λ(u:#[N]) B=>H B=Y (.R<|u.map V.R)) h b)(c8:↑b<2∨∀u∈h,u≠[])
 (c9:∀af aT(bv:#[#[N]×L]),aS C am D af aT->(∀B o,H B=Y o->B≠a->af B=Y o)->af a=Y (.K<|bv.map λp=>V.K p.2)->bv.Perm (h.zip b)->bv.Pairwise (λp q=>hH q.1 p.1=aX)->Q (Ht<|pT go) aT):
  bP (b' aAw aAx) A (Builtin.«list.sort» ([I a],[])) Q au s:=by
 exists b1;let(c2,bh,n,fP,g3,a7):=b0.b3 c1;let d0:=ys fP;subst d0;let d1:=by rw[aV]at c2;show c2
 let b2:=jR a6;let at_:∀u p,(u,p)>h.zip b->∃o w n,s.heap.get? p=Y o/\o.cls=cF "tuple" /\o.data=fp (axz w) n/\nm w u:=λu p d=>by
  exists d2;let(_,w,r,o,aB,U,n,a2):=(b0.R p _<|tu a6 u p d);show d2 (o,w,n,aB,U,a2,Dy r)
 let hK:∀u p,(u,p)>h.zip b->(AP h b).keyOf (I p)=Y u:=λu p d=>by
  change((h.zip b).find? λq=>q.2==p).map ek=Y u
  cases e:(h.zip b).find? λq=>q.2==p with
  |none=>
   have:=s'.1 e _ d;simp at this
  |some q=>
   let b3:=us e;let ab:=oV b3;let ag:=tu a6 q.1 q.2<|qd e;rw[ab,tu a6 u p d]at ag;let d3:u.map V.R=q.1.map V.R:=by injection ag with ag;injection ag
   let d4:∀l m:#[N],l.map V.R=m.map V.R->l=m:=λl=>by
    induction l with
    |nil=>
     intro m a0
     cases m with|nil=>rfl|cons=>cases a0
    |cons x r b4=>
     intro m a0
     cases m with
     |nil=>cases a0
     |cons y d5=>
      simp at a0;rw[a0.1,b4 d5 a0.2]
   rw[d4 _ _ d3];rfl
 let d6:∀p,p>b->∃u,(u,p)>h.zip b:=λp a1=>by
  let(i,aR,e):=agU a1;show(h[i]'(n' aR<|id<|eW b2),?_);rw[<- e];show axP.2 (i,by rw[rT];omega,by rw[axQ])
 let b5:=G.keeps_sort6 (vs:=b.map I) a7;let b3:KeysOf (AP h b)<|pairsOf<|b.map I:=λp a1=>by
  rw[pairsOf_toList]at a1;let(q,a3,e):=bx.1 (sU a1).1;let(u,d7):=d6 q a3;show(u,by rw[<- e];show hK u q d7)
 show b1<|G.list_sort_treeG (kd:=nT J) a7 b3 (λg4 g5 x y u v d8 d9 e0 a3=>?_) (λag d8 a3=>?_) (by rw[aV];show d1) λa4 eF e1 _=>?_
 .exists b1;let(p,rfl,a1):=Xu d9;let(q,rfl,e2):=Xu e0;let(o,w,e3,aB,U,a2,im):=at_ u p a1;let(c',g6,g7,e4,e5,e6,e7):=at_ v q e2;show b1<|kat_lt (b5 p o aB U) a2 (b5 q c' e4 e5) e6<|by
   show amj 0 _ im e7 aa a3
 .rw[aV]at ag;let e8:=c8.resolve_left<|np.2 ag
  let e9:∀(a8:#[#[N]])(g:#[L]),(∀u p,(u,p)>a8.zip g->(u,p)>h.zip b)->↑a8=↑g->∃ah:#[bc],↑ah=↑g/\(∀v∈ah,∃i t,v=ew i t)/\KatTups (agV s.heap a<|b.map I) (g.map I) ah:=by
   intro a8
   induction a8 with
   |nil=>
    intro g _ a9
    cases g with|nil=>show([],aa,(λv a5=>by cases a5),axA)|cons=>cases a9
   |cons u r b4=>
    intro g aw a9
    cases g with
    |nil=>cases a9
    |cons p f0=>
     let(ah,c3,b6,b7):=b4 f0 (λf1 f2 d=>aw f1 f2<|by rw[vH];show el _ d) ‹a9›;let c4:=aw u p (by rw[vH];show ig);let(o,w,e3,aB,U,a2,im):=at_ u p c4;let f3:=e8 u (sU c4).1
     cases im with
     |nil=>show bB aa f3
     |cons z t hS=>
      show(ew z t::ah,by rw[hs,hs,c3],λv a5=>?_,axB (b5 p o aB U) U a2 aa b7);let q||q:=cc.1 a5;.show(_,_,q)
      .show b6 v q
  let(ah,c3,b6,b7):=e9 h b (λ_ _ d=>d) b2;show kat_kind (T:=cF "int") b7 (by omega) (λv a5=>?_) aa ?_;.let(i,t,rfl):=b6 v a5;show axC aa
  .let f4:(cF "int" !=cF "tuple")=J:=⋯
   rw[f4];show a3
 .
  let f5:(lH a4).toList.Perm<|(h.zip b).map λq=>((I q.2,I q.2):oW):=by
   show(axt.1 eF).trans ?_;rw[pairsOf_toList];have:((b.map I).zip<|b.map I)=(h.zip b).map λq=>((I q.2,I q.2):oW):=by
    let aB:(h.zip b).map (λq=>((I q.2,I q.2):oW))=((h.zip b).map ki).map λB=>((I B,I B):oW):=by rw[dX];rfl
    rw[aB,zV<|o'<|id<|eW b2,Xv,dX];rfl
   rw[this]
  let(bv,b8,b9):=Xr f5;let f6:((lH a4).map (·.2)).toList=(bv.map ki).map I:=by
   rw[agQ,<- b9,dX,dX];rfl
  let f7:=b0.b4 (f:=λ_=> #[]) (cZ:=s.toks) c1 a7 aa ed<|ex _;obtain⟨aB,f8⟩:∃aB,(s.heap.update a<|sK λ_=>(#[]:gv bc)).get? a=Y (ug "list" #[] aB):=(_,axG a7 λ_=> #[]);let f9:aS C am D (a' H a<|.K []) {s with heap:=agV s.heap a<|b.map I,toks:=s.toks}:=f7.b0 λB u e=>hr _<|hr _ e;let g0:(agV s.heap a<|b.map I).get? a=Y (ug "list" #[] aB):=hr _<|hr _ f8;let bQ:↑bv=↑b:=by rw[b8.length_eq,rT];omega
  let g1:=
   f9.b4 (f:=λ_=>(lH a4).map (·.2)) (qP:=(bv.map ki).map I) (cZ:=s.toks) bG g0 (by rw[<- f6]) (by
    have:=uT<|bv.map ki;rw[dX]at this;show this) (by rw[aV];omega);show c9 _ _ bv g1 (λB o e c5=>by rw[bS c5,bS c5];show e) bG b8 ?_;rw[axu];intro i j aR c6 g2;let g8:=by
   have:=dP mR b9;rw[aV,sS]at this;show this.symm
  let c7:∀k(c0:k<↑bv),KK (AP h b) (lH a4) k=bv[k].1:=λk c0=>by
   let e:(lH a4)[k]? =Y (I bv[k].2,I bv[k].2):=by
    rw[<- zH,<- b9,cV,gi c0];rfl
   delta KK;rw[e];change(((AP h b).keyOf (I bv[k].2)).getD ([]:#[N]))=_;rw[hK bv[k].1 bv[k].2 (b8.mem_iff.1 (agW c0))];rfl
  let q:=e1 i j (sT g2) (by rw[pairsOf_size,aV];show n' c6 bQ);let q:=q;rw[c7 i aR,c7 j c6]at q;show q
def amm(a2:C.a3=J):qk C (ju "sorted") (λvs H Q=>∃ae aP b,vs=[.K ae]/\lq H ae (.X aP)/\aP.map (·.1)=b.map (λu=>u.map λi=>(eZ<|eZ i:ft))/\(↑b<2∨∀u∈b,u≠[])/\∀l bv af,amk H b af l bv->Q (.K l) af):=by
 intro am s D H vs dg Q m r d;exists a3;let(ae,aP,b,rfl,T,v,U,q):=d;obtain rfl:=dm.S r;let(bQ,hz,o,bf,dz,f,a4,a5,a6,w,h):=m.e0 T;let hx:=by
  have:=dP mR w;simpa using this
 let qq:=by
  let ab:=jR h;rw[v]at ab;simpa using ab
 let a7:↑f<=ch:=by
  let ab:=jR h;rw[aV]at ab;lia
 let a8:∀(u:#[N]) B,eK H B (u.map λi=>(eZ<|eZ i:ft))->H B=Y (.R<|u.map V.R):=λu B z=>by
  let(vs,e,g):=z
  have:vs=u.map V.R:=by
   clear e
   induction u generalizing vs with
   |nil=>cases g;rfl
   |cons x r A=>
    rw[fg]at g
    cases g with
    |cons a9 b0=>
     rw[fg,<- A _ b0];cases a9;rfl
  rwa [<- this]
 let a0:eq (λ(u:#[N]) B=>H B=Y (.R<|u.map V.R)) b f:=by
  rw[v]at h;clear v T w hx qq a7 q U
  induction b generalizing f with
  |nil=>cases h;show ed
  |cons x r A=>
   rw[fg]at h
   cases h with|cons a t=>show eS (a8 _ _ a)<|A _ t
 show a3<|Calls.call_function_entry kind_sorted plain_sorted entry_sorted (args_sorted1 _)<|bq<|c_<|bq<|Xl (PP bQ a5 a6) (m.K.K a2) a4 (by lia) λab ee cK b1 b2=>?_;rw[Xp w b2];let a1:aS C am D H {s with heap:=ab,toks:=ee}:=m.b0 b1;let j:=a1.d2;show bq (agT ?_ (by rwa [aV]));let b3:(ab.push {cls:=cF "list",data:=fp (f.map I).toArray}).get? ab.objs.size=Y {cls:=cF "list",data:=fp (f.map I).toArray}:=jf _ aa;show bq<|qb<|rS axH (_,b3,aa) axK (aml (a1.d1 (uT f)<|by rwa [aV]) bG (Fc a0 λx B z=>?_) (qq▸U) λaf aT bv b4 b5 at_ eF b6=>(_,aa,?_))<|args_list_sort _;.rwa [bS<|fj z j]
 .show c_ (_,aa,.K ab.objs.size,af,b4,aa,q ab.objs.size bv af (λB o e=>b5 B o ((bS<|fj e j)▸e)<|fj e j,j,at_,λp b7=>?_,?_,b6));.show tu a0 _ _<|eF.mem_iff.1 b7
  .let q:=eF.map ek;rw[agS<|o' qq]at q;show q
end
section
section
open PySem.W (WData Codec OpenSpec Well WellAll ReadsW ReadsAllW)
mutual
inductive jZ(aA:eh)(H:ap):V->pX->Prop|a1:jZ aA H .a0 Hu|a2(B:dq):jZ aA H (.X B)<|Hv B|S(i:N):jZ aA H (.R i)<|zn i|a3(x:E):jZ aA H (.S x)<|.str x|a4(B:gv nP):jZ aA H (.a1 B)<|Hw B.toList|K{a:L}{xs:#[V]}{bb:#[pX]}:fa aA H a xs->po aA H xs bb->jZ aA H (.K a) (Cj bb)|X{a:L}{xs:#[V]}{bb:#[pX]}:lT aA H a xs->po aA H xs bb->jZ aA H (.K a) (Ck bb)
inductive po(aA:eh)(H:ap):#[V]->#[pX]->Prop|R:po aA H [] []|K{v:V}{vs:#[V]}{ae:pX}{bb:#[pX]}:jZ aA H v ae->po aA H vs bb->po aA H (v::vs) (ae::bb)
end
theorem Xw{H:ap}{aA}:∀co:#[N],po aA H (co.map V.R) (co.map zn)|[]=>.R|n::r=>.K (.S n)<|Xw r
theorem Xx{aA H}:∀(co:#[N])(xs:#[V]),po aA H xs (co.map zn)->xs=co.map V.R
 |[],xs,d=>by
  cases d;rfl
 |n::r,xs,d=>by
  cases d with
  |K ab ag=>
   cases ab;rw[Xx r _ ag]<;>rfl
section
variable{aq:fs}{aA:eh}{d:ez}{ax:PySem.W.WRecords}{bw:E->bs L}
def amn{a}(h:gj aq w H d)(a1:aA.In d)(q:fa aA H a xs):∃(bh:#[bc])(o:hn)(n:O),dm xs bh/\d.get? a=Y o/\o.cls=cF "list" /\o.data=fp bh.toArray n:=by
 let q||(o,bh,n,e,f,_,g,_,b):=q;.let(_,bh,n,b,e):=(q.K h);show(bh,_,n,b,e,aa,aa)
 .show(bh.toList,o,n,b,a1 _ _ e,f,by simp[g])
def amo{a}(h:gj aq w H d)(a1:aA.In d)(q:lT aA H a xs):∃(bh:#[bc])(o:hn)(n:O),dm xs bh/\d.get? a=Y o/\o.cls=cF "tuple" /\o.data=fp bh.toArray n:=by
 let q||(o,bh,n,e,b,f,_,g):=q;.let(_,bh,g,o,e,b,n,f):=(q.K h);show(bh,o,n,g,e,b,f)
 .show(bh.toList,o,n,g,a1 _ _ e,b,by simp[f])
mutual
theorem jZ.a0(b:gj aq w H d)(h:aA.In d):∀(ae:pX)(v:V)(u:bc),jZ aA H v ae->dk v u->∃as,ReadsW ax bw d u ae as
 |Hu,_,_,x,r=>by
  cases x;cases r;show(_,ReadsW.none)
 |Hv B,_,_,x,r=>by
  cases x;cases r;show(_,ReadsW.bool B)
 |zn i,_,_,x,r=>by
  cases x;let(t,rfl):=r;show(_,ReadsW.int i t)
 |.str s,_,_,x,r=>by
  cases x;let(t,rfl):=r;show(_,ReadsW.str s t)
 |Hw B,_,_,x,r=>by
  cases x;let(t,rfl):=r;show(_,ReadsW.bytes _ t)
 |Cj bb,_,_,x,r=>by
  cases x with
  |K aw e=>
   cases r;let(bh,o,n,f,g,j,l):=amn b h aw;let(as,m):=jZ.R b h bb _ bh e f;show(_,ReadsW.list g j l m)
 |Ck bb,_,_,x,r=>by
  cases x with
  |X aw e=>
   cases r;let(bh,o,n,f,g,j,l):=amo b h aw;let(as,m):=jZ.R b h bb _ bh e f;show(_,ReadsW.tuple g j l m)
 |.float _,_,_,x,_=>by cases x
 |.dict _,_,_,x,_=>by cases x
 |agX _,_,_,x,_=>by cases x
 |.set _,_,_,x,_=>by cases x
 |agZ _,_,_,x,_=>by cases x
 |.obj _ _,_,_,x,_=>by cases x
theorem jZ.R(b:gj aq w H d)(h:aA.In d):∀(bb:#[pX])(vs:#[V])(a5:#[bc]),po aA H vs bb->dm vs a5->∃as,ReadsAllW ax bw d a5 bb as
 |[],_,_,x,r=>by
  cases x;cases r;show(_,ReadsAllW.nil)
 |ae::bb,_,_,x,r=>by
  cases x with
  |K ab ag=>
   cases r with
   |cons p q=>
    let(as,A):=jZ.a0 b h ae _ _ ab p;let(U,T):=jZ.R b h bb _ _ ag q;show(_,ReadsAllW.cons A T)
end
end
mutual
noncomputable def oo:pX->dq|Hu=>J|Hv _=>J|zn _=>J|.str _=>J|Hw _=>J|Cj xs=>qr xs|Ck xs=>qr xs|_=>aX
noncomputable def qr:#[pX]->dq|[]=>J|x::r=>oo x&&qr r
end
theorem Xy{α:Type}{f}(d:∀a,oo (f a)=J):∀l:#[α],qr (l.map f)=J
 |[]=>rfl
 |x::r=>by
  change(oo (f x)&&qr (r.map f))=J;rw[d x,Xy d r]<;>rfl
theorem uU:∀(c:Codec)(a:c.denote),oo (c.enc a)=J
 |.unit,_=>rfl
 |.bool,_=>rfl
 |.int _ _,_=>rfl
 |.nat _ _,_=>rfl
 |.u8,_=>rfl
 |.bytes _ _,_=>rfl
 |.text _ _ _ _,_=>rfl
 |.list _ _ c,a=>Xy (λx=>uU c x) a
 |.pair c ae,a=>by
  change(oo (c.enc a.1)&&(oo (ae.enc a.2)&&J))=J;rw[uU c a.1,uU ae a.2]<;>rfl
 |.triple c ae e,a=>by
  change(oo (c.enc a.1)&&(oo (ae.enc a.2.1)&&(oo (e.enc a.2.2)&&J)))=J;rw[uU c a.1,uU ae a.2.1,uU e a.2.2]<;>rfl
 |.option c,M=>rfl
 |.option c,Y x=>uU c x
theorem Xz:∀(bo:#[Codec])(a:aha bo),qr (zo bo a)=J
 |[],_=>rfl
 |c::bo,a=>by
  change(oo (c.enc a.1)&&qr (zo bo a.2))=J;simp[uU,Xz]
theorem PU:∀{xs ae},ae>xs->ae.weight<=Tr xs
 |[],ae,d=>bB d<|hD
 |x::r,ae,d=>by
  change ae.weight<=x.weight+1+Tr r;let e||m:=cc.1 d;.rw[e];lia
  .let z:=PU m;show axR z
noncomputable def pp:bc->V|go=>.a0|ic B=>.X B|ew i _=>.R i|nk x _=>.S x|SQ B _=>.a1 B|I a=>.K a|_=>.a0
def pq(A:#[L]):bc->Prop|go=>kz|ic _=>kz|ew _ _=>kz|nk _ _=>kz|SQ _ _=>kz|I a=>a>A|_=>fC
theorem pq.K{A}(d:∀a∈A,a>dt):∀{u},pq A u->pq dt u:=λ{u} x=>by
 cases u with|ref a=>show d a x|none=>trivial|bool B=>trivial|int i t=>trivial|str s t=>trivial|bytes B t=>trivial|_=>assumption
def amp{A}(x:pq A u):dk (pp u) u:=by
 cases u with|ref a=>rfl|none=>rfl|bool B=>rfl|int i t=>show(t,aa)|str s t=>show(t,aa)|bytes B t=>show(t,aa)|_=>show lh x
theorem yx{A}:∀{vs},(∀u∈vs,pq A u)->dm (vs.map pp) vs|[],_=>ed|u::r,d=>eS (amp<|d u<|(cp _) ..)<|yx λx b=>d x<|eo _ b
def rl(d:ez)(A:#[L])(a:L):Prop:=∃vs:#[bc],↑vs<=ch/\(∀u∈vs,pq A u)/\
 (d.get? a=Y {cls:=cF "list",data:=fp vs.toArray}∨d.get? a=Y {cls:=cF "tuple",data:=fp vs.toArray})
theorem rl.K{dt:#[L]}{d A a}(k:∀a∈A,a>dt)(x:rl d A a):rl d dt a:=by
 let(vs,ab,ag,b):=x;show(vs,ab,λu e=>(ag u e).K k,b)
theorem PV{d}:∀{vs bb},xi aq d vs bb->↑vs=↑bb:=by
 intro vs bb d
 induction bb generalizing vs with|nil=>cases d;rfl|cons ae bb b=>cases d with|cons _ B=>show dP (·+1)<|b B
def XA{d v bb}(x:Well aq d v<|Cj bb):∃(a:L)(vs:#[bc]),v=I a/\d.get? a=Y {cls:=cF "list",data:=fp vs.toArray}/\xi aq d vs bb:=by
 cases x with|list b e=>show(_,_,aa,b,e)
def XB{d v bb}(x:Well aq d v<|Ck bb):∃(a:L)(vs:#[bc]),v=I a/\d.get? a=Y {cls:=cF "tuple",data:=fp vs.toArray}/\xi aq d vs bb:=by
 cases x with|tuple b e=>show(_,_,aa,b,e)
def XC{d bb}(x:xi aq d b<|ae::bb):∃(v:bc)(vs:#[bc]),b=v::vs/\Well aq d v ae/\xi aq d vs bb:=by
 cases x with|cons a B=>show(_,_,aa,a,B)
def XD{n}(d:n<=1048576):n<=ch:=db d ⋯
section
variable{aq:Hx}{d:ez}
mutual
theorem amq:∀(ae:pX)(v:bc),Well aq d v ae->oo ae=J->ae.weight<=1048576->∃A:#[L],pq A v/\∀a∈A,rl d A a
 |Hu,_,x,_,_=>by
  cases x;show([],lG,λa m=>bB m<|hD)
 |Hv B,_,x,_,_=>by
  cases x;show([],lG,λa m=>bB m<|hD)
 |zn i,_,x,_,_=>by
  cases x;show([],lG,λa m=>bB m<|hD)
 |.str s,_,x,_,_=>by
  cases x;show([],lG,λa m=>bB m<|hD)
 |Hw B,_,x,_,_=>by
  cases x;show([],lG,λa m=>bB m<|hD)
 |Cj bb,_,x,p,z=>by
  let(a,vs,rfl,j,f):=XA x;let g:Tr bb<=1048576:=z;let(A,ab,ag):=Fd bb _ f p λae l=>db (PU l) g;let k:∀B∈A,B>a::A:=λB b=>el _ b;show(a::A,ig ..,λB b=>?_);let e||m:=cc.1 b;.rw[e];show(vs,XD<|by rw[PV f];show db (axS bb) g,λu h=>(ab u h).K k,aQ j)
  .show(ag B m).K k
 |Ck bb,_,x,p,z=>by
  let(a,vs,rfl,j,f):=XB x;let g:Tr bb<=1048576:=z;let(A,ab,ag):=Fd bb _ f p λae l=>db (PU l) g;let k:∀B∈A,B>a::A:=λB b=>el _ b;show(a::A,ig ..,λB b=>?_);let e||m:=cc.1 b;.rw[e];show(vs,XD<|by rw[PV f];show db (axS bb) g,λu h=>(ab u h).K k,bl j)
  .show(ag B m).K k
 |.float _,_,_,p,_=>nU<|show aX=J from p
 |.dict _,_,_,p,_=>nU<|show aX=J from p
 |agX _,_,_,p,_=>nU<|show aX=J from p
 |.set _,_,_,p,_=>nU<|show aX=J from p
 |agZ _,_,_,p,_=>nU<|show aX=J from p
 |.obj _ _,_,_,p,_=>nU<|show aX=J from p
theorem Fd:∀(bb:#[pX])(vs:#[bc]),xi aq d vs bb->qr bb=J->(∀ae∈bb,ae.weight<=1048576)->∃A:#[L],(∀u∈vs,pq A u)/\∀a∈A,rl d A a
 |[],_,x,_,_=>by
  cases x;show([],λu m=>bB m<|hD,λa m=>bB m<|hD)
 |ae::bb,_,x,p,z=>by
  let(v,vs,rfl,T,U):=XC x;let q:oo ae=J/\qr bb=J:=axT.1 p;let(A,V,a0):=amq ae v T q.1 (z ae<|ig ..);let(dt,a1,a2):=Fd bb vs U q.2 λe a3=>z e<|el _ a3;let o:∀B∈A,B>A++dt:=λB b=>du.2<|aQ b;let w:∀B∈dt,B>A++dt:=λB b=>du.2<|bl b;show(A++dt,λu h=>?_,λB b=>?_)
  .let e||m:=cc.1 h;.rw[e];show V.K o
   .show(a1 u m).K w
  .let m||m:=du.1 b;.show(a0 B m).K o
   .show(a2 B m).K w
end
end
noncomputable def Fe(o:hn):bs bF:=match o.data with|fp vs _=>if(o.cls==cF "list")=J then Y (.a0 o<|.K<|vs.toList.map pp)else Y (.a0 o<|.R<|vs.toList.map pp)|_=>M
noncomputable def lW(aA:eh)(d:ez)(A:#[L]):ap:=λB=>if B>A then(if(aA.lookup B).isNone=J then(d.get? B).bind Fe else M)else M
def AQ(H:ap):Prop:=∀B,H B=M∨∃o u,H B=Y (.a0 o u)
theorem XF(vs:#[bc]):Fe {cls:=cF "list",data:=fp vs.toArray}=Y (.a0 {cls:=cF "list",data:=fp vs.toArray}<|.K<|vs.map pp):=by
 rfl
theorem XG(vs:#[bc]):Fe {cls:=cF "tuple",data:=fp vs.toArray}=Y (.a0 {cls:=cF "tuple",data:=fp vs.toArray}<|.R<|vs.map pp):=by
 rfl
section
variable{aq:fs}{aA:eh}{d:ez}{A:#[L]}
theorem Ff{B o}(b:B>A)(h:aA.lookup B=M)(e:d.get? B=Y o):lW aA d A B=Fe o:=by
 delta lW;grind
def amr{u:bF}{B}(q:lW aA d A B=Y u):B>A/\aA.lookup B=M:=by
 delta lW at q;by_cases b:B>A
 .rw[bK b]at q
  cases e:aA.lookup B with
  |none=>show(b,aa)
  |some o=>
   grind
 grind
def Fg{u:bF}(dS:∀a∈A,rl d A a){B}(q:lW aA d A B=Y u):aA.lookup B=M/\∃vs:#[bc],↑vs<=ch/\(∀u∈vs,pq A u)/\
  ((d.get? B=Y {cls:=cF "list",data:=fp vs.toArray}/\u=.a0 {cls:=cF "list",data:=fp vs.toArray} (.K<|vs.map pp))∨
   (d.get? B=Y {cls:=cF "tuple",data:=fp vs.toArray}/\u=.a0 {cls:=cF "tuple",data:=fp vs.toArray} (.R<|vs.map pp))):=by
 let(b,f):=amr q;let(vs,ab,ag,g):=dS B b;show(f,vs,ab,ag,?_);let e||e:=g;.rw[Ff b f e,XF]at q;show aQ (e,(hq q).symm)
 .rw[Ff b f e,XG]at q;show bl (e,(hq q).symm)
def ams(dS:∀a∈A,rl d A a):AQ<|lW aA d A:=λB=>by
 cases q:lW aA d A B with
 |none=>show aQ aa
 |some u=>
  let (_,vs,_,_,(_,e)||(_,e)):=Fg dS q;.show bl (_,_,by rw[e])
  .show bl (_,_,by rw[e])
def amt(a1:aA.In d)(dS:∀a∈A,rl d A a){vs:#[bc]}(h:a>A)(e:d.get? a=Y {cls:=cF "list",data:=fp vs.toArray}):(∀u∈vs,pq A u)/\fa aA (lW aA d A) a (vs.map pp):=by
 let(f,ab,ag,i):=dS a h;obtain rfl:f=vs:=by
  grind
 show(ag,?_)
 cases b:aA.lookup a with
 |none=>show aQ<|bl (_,by rw[Ff h b e,XF])
 |some o=>
  let g:=a1 a o b;rw[e]at g;obtain rfl:=hq g;show bl (_,f.toArray,_,b,aa,aa,aa,jw▸ab,‹yx ag›)
def amu(a1:aA.In d)(dS:∀a∈A,rl d A a){vs:#[bc]}(h:a>A)(e:d.get? a=Y {cls:=cF "tuple",data:=fp vs.toArray}):(∀u∈vs,pq A u)/\lT aA (lW aA d A) a (vs.map pp):=by
 let(f,ab,ag,i):=dS a h;obtain rfl:f=vs:=by
  grind
 show(ag,?_)
 cases b:aA.lookup a with
 |none=>show aQ<|bl (_,by rw[Ff h b e,XG])
 |some o=>
  let g:=a1 a o b;rw[e]at g;obtain rfl:=hq g;show bl (_,f.toArray,_,b,aa,aa,jw▸ab,‹yx ag›)
mutual
theorem amv{h:Hx}(b:aA.In d)(dS:∀a∈A,rl d A a):∀(ae:pX)(v:bc),Well h d v ae->oo ae=J->pq A v->jZ aA (lW aA d A) (pp v) ae
 |Hu,_,x,_,_=>by
  cases x;show .a1
 |Hv B,_,x,_,_=>by
  cases x;show .a2 B
 |zn i,_,x,_,_=>by
  cases x;show .S i
 |.str s,_,x,_,_=>by
  cases x;show .a3 s
 |Hw B,_,x,_,_=>by
  cases x;let z:=jZ.a4 (aA:=aA) (H:=lW aA d A) B.toArray;show z
 |Cj bb,_,x,p,e=>by
  let(a,vs,rfl,f,g):=XA x;let(ag,aw):=amt b dS e f;show .K aw<|Fh b dS bb _ g p ag
 |Ck bb,_,x,p,e=>by
  let(a,vs,rfl,f,g):=XB x;let(ag,aw):=amu b dS e f;show .X aw<|Fh b dS bb _ g p ag
 |.float _,_,_,p,_=>nU<|show aX=J from p
 |.dict _,_,_,p,_=>nU<|show aX=J from p
 |agX _,_,_,p,_=>nU<|show aX=J from p
 |.set _,_,_,p,_=>nU<|show aX=J from p
 |agZ _,_,_,p,_=>nU<|show aX=J from p
 |.obj _ _,_,_,p,_=>nU<|show aX=J from p
theorem Fh{h:Hx}(b:aA.In d)(dS:∀a∈A,rl d A a):∀(bb:#[pX])(vs:#[bc]),xi h d vs bb->qr bb=J->(∀u∈vs,pq A u)->po aA (lW aA d A) (vs.map pp) bb
 |[],_,x,_,_=>by
  cases x;show .R
 |ae::bb,_,x,p,e=>by
  let(v,vs,rfl,j,l):=XC x;let q:oo ae=J/\qr bb=J:=axT.1 p;show .K (amv b dS ae v j q.1<|e _<|ig ..)<|Fh b dS bb vs l q.2 λu m=>e u<|el _ m
end
end
def amw{w aA k a6 ay b h bb ax bw hW}
 (a1:aA.In b.heap)(a7:b.heap.Ns iP a8)(a2:b.heap.Ns afH a9)(b5:∀x:E,x≠"__name__" ->a9 x=BV x)(b6:b.heap.NoLimit)(b7:b.gens= #[])
 (a3:xi w.params b.heap h bb)(b0:qr bb=J)(b8:∀ae∈bb,ae.weight<=1048576)(b9:fz k Hy)
 (aC:∀a4:ez,aA.In a4->a4.Ns iP a8->km aq w aA a8 a4 da k a6 dv ay bX)(c1:∀s a5,↑a5=↑ay->Cd s dv (a5,[]) (ay.zip a5))(c2:↑bb=↑ay)
 (c3:∀H xs,AQ H->po aA H xs bb->bX xs H (λv af=>jZ aA af v hW) λ_ _ _=>fC)
 (c4:∀H e aT,da [] H b (λ_ _ _=>fC) e aT->fC):
  xb (b' aq w) Hy (.call (I a6) (h,[])) (λr aT=>∃u as,r=mm (pT u)/\ReadsW ax bw aT.heap u hW as/\OldK b.heap aT.heap/\aT.os=b.os/\wW aT.gens) b:=by
 let(A,l,dS):=Fd bb h a3 b0 b8;let i:AQ<|lW aA b.heap A:=ams dS;let j:gj aq w (lW aA b.heap A) b.heap:=λB u q=>by
    let (_,vs,ab,ag,(e,rfl)||(e,rfl)):=Fg dS q;.show(e,by rwa [aV],vs,_,yx ag,e)
    .show(e,by rwa [aV],vs,yx ag,_,e,aa,_,aa)
 let p:=Fh a1 dS bb h a3 b0 l;let T:∀B u,lW aA b.heap A B=Y u->aA.lookup B=M:=λB u q=>(Fg dS q).1
 let U:∀{B o bf dz},b.heap.get? B=Y o->o.data=i' bf dz->lW aA b.heap A B=M:=λ{B o bf dz} e ae=>by
  cases q:lW aA b.heap A B with
  |none=>rfl
  |some u=>
   let (_,vs,_,_,(f,_)||(f,_)):=Fg dS q;.rw[f]at e;cases e;cases ae
   .rw[f]at e;cases e;cases ae
 generalize lW aA b.heap A=H at i j p T U;let V:∀{B o},b.heap.get? B=Y o->H B=M->(Df b.heap H).get? B=Y o:=λe n=>CH _ e λc0=>by
    let q:=(je.1 c0).2;simp_all
 let g:∀{B m},b.heap.Ns B m->(Df b.heap H).Ns B m:=λ{B m} (o,bf,dz,e,ae,r)=>(o,bf,dz,V e<|U e ae,ae,r)
 let c5:∀B o,aA.lookup B=Y o->H B=M:=λB o e=>by
  cases q:H B with
  |none=>rfl
  |some u=>
   rw[T B u q]at e;cases e
 let a0:=λB o e=>V (a1 B o e)<|c5 B o e;show Ho ((aC _ a0<|g a7).K Hy [] b H (h,[]) h (h.map pp) _ _ b9 ((aa,((a0,g a7,(a9,g a2,b5),let(c6,ab,ag):=b6;(c6,g ab,ag))),λB o e=>aic e,o'<|(PySem.W.hideAll_size _ _),⟨⟩,λB a2=>bB (show B>([]:#[L])from a2)<|hD,j,.of_eq b7)) (c1 b h<|(PV a3)▸c2) (yx l)<|c3 H _ i p) λr aT x=>?_
 cases r with
 |error e=>show(c4 H e aT x).elim
 |ok c7=>
  cases c7 with
  |next=>show lh x
  |brk=>show lh x
  |cont=>show lh x
  |ret u=>
   exists c8;let(v,af,os,c9,b1,b2,d0,q):=x
   let b3:=λB o e=>by
    cases b4:H B with
    |none=>show b1.S B o e b4 (by intro z;show bB (show B>([]:#[L])from z)<|hD)<|hD
    |some d3=>
     let z||(d1,d4,z):=i B;.rw[b4]at z;cases z
     .let(aB,_):=j B _ z;let(f,_):=b2 B _ (b1.X B d1 _ z);rw[e]at aB;cases aB;show f
   let(as,d2):=jZ.a0 b2 (λB o e=>b3 B o<|a1 B o e) hW v u q d0;show c8 (u,as,aa,d2,OldK.of_keep b3,os,c9)
theorem XH:∀bo a,↑(zo bo a)=↑bo
 |[],_=>rfl
 |c::bo,a=>by
  change↑(zo bo a.2)+1=↑bo+1;rw[XH bo a.2]
def amx{r:OpenSpec}{k:O}{q:fs}{a5:#[E]}{a6:(E->bs bc)->ez->Prop}{a2:hC->ez->Prop}{ae:DefRec}{aA:Hx->eh}{da:hC->jj}{ay:#[E]}{bX:hC->cq}
 (a7:r.wellSaid=J)(c3:ae.params.defaults=[])(c4:↑r.args=↑ay)(a8:fz k Hy)
 (a9:∀(w:hC)(d:ez),a2 w d->(aA w.params).In d)
 (aC:∀(w:hC)(h:E->bs bc)(a1:L)(d:ez),a2 w d->(aA w.params).In d->d.Ns iP h->h ae.name=Y (I a1)->
   ∃dv:qW,(∀(s:cQ)(a3:#[bc]),↑a3=↑ay->Cd s dv (a3,[]) (ay.zip a3))/\
    ∀a4:ez,(aA w.params).In a4->a4.Ns iP h->km r.prog w (aA w.params) h a4 (da w) k a1 dv ay (bX w))
 (b0:∀(w:hC)(H:ap)(xs:#[V])(a:aha r.args),AQ H->axU r.args a=J->Cm r.args r.asked a=J->po (aA w.params) H xs (zo r.args a)->
   bX w xs H (λv af=>jZ (aA w.params) af v<|r.ret.enc<|Cm r.args r.f a) λ_ _ _=>fC)
 (b1:∀(w:hC)(H:ap)(s:cQ)(e:bc)(aT:cQ),da w [] H s (λ_ _ _=>fC) e aT->fC):
  WalkOS q a5 a6 a2 r ae []<|λf vs=>qX f vs:=by
 intro w p x h c5 az i a1 o eF c6 ke c7 iZ c8 j c9 d0 A U a0 d1 as b2 b3 d2 b4 d3;let(a,aB,b5):=PySem.W.os_pre_some b2;let(rfl,l):=Codec.encAll_of_decAll r.args a0 a aB;let m:=a9 w _ i;let(dv,b6,b7):=aC w h a1 _ i m az.T.g A;show PySem.W.enter_call<|Ho (amw (ax:=[]) (bw:=classAt p.heap) m az.T.g az.T.b az.T.builtins az.T.nolimit U b4 (Xz _ _) ((λae j=>
    (PySem.W.layableW_iff.1<|jS.1 b3 ae j).2.2)) a8 b7 b6 (by rwa [XH])
  (λH xs b8 b9=>b0 w H xs a b8 l b5 b9) λH e aT=>b1 w H x e aT) λd4 aT c0=>?_;let(u,wR,rfl,ab,ag,c1,c2):=c0;show(aQ (u,_,wR,aa,λ_=>rfl,ab,(OpenSpec.post_iff a7 l _ _).mpr aa,λz=>nU<|z),ag,c1,c2)
def azg{r:OpenSpec}{k:O}{q:fs}{a4:#[E]}{a5:(E->bs bc)->ez->Prop}{h:hC->ez->Prop}{ae:DefRec}{aA:Hx->eh}{da:jj}{ay:#[E]}{bX:eh->cq}
 (a6:r.wellSaid=J)(a7:ae.params.defaults=[])(a8:↑r.args=↑ay)(a9:fz k Hy)
 (b0:∀(w:hC)(d:ez),h w d->(aA w.params).In d)
 (aC:∀(w:hC)(b:E->bs bc)(a3:L)(d:ez),h w d->(aA w.params).In d->d.Ns iP b->b ae.name=Y (I a3)->
   ∃dv:qW,(∀(s:cQ)(a1:#[bc]),↑a1=↑ay->Cd s dv (a1,[]) (ay.zip a1))/\
    ∀a2:ez,(aA w.params).In a2->a2.Ns iP b->km r.prog w (aA w.params) b a2 da k a3 dv ay (bX<|aA w.params))
 (b1:∀(aA:eh)(H:ap)(xs:#[V])(a:aha r.args),AQ H->axU r.args a=J->Cm r.args r.asked a=J->po aA H xs (zo r.args a)->
   bX aA xs H (λv af=>jZ aA af v<|r.ret.enc<|Cm r.args r.f a) λ_ _ _=>fC)
 (b2:∀(H:ap)(s:cQ)(e:bc)(aT:cQ),da [] H s (λ_ _ _=>fC) e aT->fC):
  WalkOS q a4 a5 h r ae []<|λf vs=>qX f vs:=
 amx a6 a7 a8 a9 b0 aC (λw H xs a ab ag g i=>b1 (aA w.params) H xs a ab ag g i) λ_ H s e aT=>b2 H s e aT
end
section
variable[bz]{C:bW}
def amy:se C "str.startswith"<|λx xs H Q=>∃a B i,x=.S a/\xs=[.S B,.R i]/\Q (.X<|Ts a B i) H:=by
 intro am s D H x xs v h Q e bC b d;let(a,B,i,rfl,rfl,d):=d;let(t,rfl):=bC
 cases b with
 |cons f b=>
  cases b with
  |cons g b=>
   cases b;let(u,rfl):=f;let(j,rfl):=g;show SC.startswith3 (.X _,H,e,aa,d)
inductive XK(aA:eh)(x:V)(xs:#[V])(H:ap)(Q:ca):Prop|mk(a:L)(cv:#[V])(y:V):(x=V.K a)->(xs=[y])->(fa aA H a cv)->(qm y=J)->(cv.all qm=J)->(Q (.R (cv.countP λz=>ri z y:O)) H)->XK aA x xs H Q
def amz(aA:eh):V->#[V]->ap->ca->Prop:=λx xs H Q=>XK aA x xs H Q
theorem amA{x}:∀{xs b},dm xs b->xs.all qm=J->b.countP (mr x)=xs.countP λy=>ri y x:=by
 intro xs b d
 induction d with
 |nil=>intro;rfl
 |cons r t e=>
  intro f;rw[uo,fV]at f;rw[axV,axV,Pa r f.1,e f.2]
set_option tactic.hygienic true in
def amB:se C "list.count"<|amz aAv:=by
 intro am s D H x xs v V Q b bC h d;let(a,cv,y,rfl,rfl,aw,i,e,q):=d;cases bC
 cases h with
 |cons j l=>
  rename_i m a0;exists o;cases l;let(bh,f,((oF,p,a1,dU),n,g,w,a2,A),a3):=b.a1 aw;subst w A;show o<|Hr axW (_,g,aa) PySem.F.entry_list_count (PySem.F.args_list_count_2 _ _) (SeqAt.list_countAt a bh.toArray n p dU m<|mr y) (g,λT U=>Av j i f e T<|List.mem_toArray.1 U,(.R _,H,b.X _,(_,aa),?_));rw[<- amA f e]at q;show q
inductive XP(aA:eh)(x:V)(y:V)(H:ap)(Q:ca):Prop|mk(a:_)(p:_)(b:_)(h:_)(u:_):(x=.K a)->(y=.K p)->(H a=Y (.R<|u.map V.R))->(fa aA H p<|b.map V.K)->(eq (λ(u:#[N]) B=>H B=Y (.R<|u.map V.R)) h b/\Q (.X<|h.contains u) H)->XP aA x y H Q
def amC(aA:eh):lu:=λx y H Q=>XP aA x y H Q
noncomputable def Fi(b:#[#[N]])(h:#[L])(u:#[N]):bc->dq|I B=>((b.zip h).find? λq=>q.2==B).map ek==Y u|_=>aX
theorem XQ:∀{l m:#[N]},l.map V.R=m.map V.R->l=m
 |[],[],_=>rfl
 |[],_::_,d=>by cases d
 |_::_,[],d=>by cases d
 |x::l,y::m,d=>by
  simp at d;rw[d.1,XQ d.2]
theorem XR{b:#[#[N]]}{h:#[L]}{u v:#[N]}{B:L}(a1:eq (λ(u:#[N]) B=>H B=Y (.R<|u.map V.R)) b h)(a2:(v,B)>b.zip h):Fi b h u (I B)=(v==u):=by
 let e:((b.zip h).find? λq=>q.2==B).map ek=Y v:=by
  cases e:(b.zip h).find? λq=>q.2==B with
  |none=>
   have:=s'.1 e _ a2;simp at this
  |some q=>
   let f:=us e;let ab:=oV f;let ag:=tu a1 q.1 q.2<|qd e;rw[ab,tu a1 v B a2]at ag;grind [XQ]
 change(((b.zip h).find? λq=>q.2==B).map ek==Y u)=_;rw[e];rfl
def XS(a1:C.R.units+2<it):hV C (jt .In)<|amC aAv:=by
 intro am s D H x y v w Q l bC a0 d;let(a,p,f,b,u,rfl,rfl,a2,a3,aw,q):=d;cases bC;cases a0;let(bh,r,a4,hz):=l.a1 a3;let a5:=ys r;subst a5;let h:=jR aw;show awt (Fi b f u) a4.isList (λz a6=>?_) (.X _,H,l,aa,?_)
 .obtain⟨B,a7,rfl⟩:∃B,B>f/\z=I B:=by
   have:z>f.map I:=‹a6›
   let(B,ab,ag):=bx.1 this;show(B,ab,ag.symm)
  let(i,aR,e):=agU a7;let A:(b[i]'(n' aR<|id<|eW h),B)>b.zip f:=by
   rw[<- e];show axP.2 (i,by rw[rT];lia,by rw[axQ])
  rw[XR aw A];intro T U b7 b8 d;let a8:(b[i]'(n' aR<|id<|eW h)==u)=bp (b[i]'(n' aR<|id<|eW h)=u):=by
   by_cases z:b[i]'(n' aR<|id<|eW h)=u;.rw[hp z,z,vR]
   .rw[iv z];show zB z
  rw[a8]at d;let a9:wT (Hf T U) s.heap (b[i]'(n' aR<|id<|eW h)) B:=by
   let(_,b0,o,ef):=(l.R B _<|tu aw _ _ A);show Fb _ _ ef<|‹Dy o›
  let b1:wT (Hf T U) s.heap u a:=by
   let(_,b0,o,ef):=(l.R a _ a2);show Fb _ _ ef<|‹Dy o›
  show afB (zA a1) a9 b1 d
 .let b2:∀(j:#[#[N]])(g:#[L]),↑j=↑g->(∀v B,(v,B)>j.zip g->(v,B)>b.zip f)->(g.map I).any (Fi b f u)=j.contains u:=by
   intro j
   induction j with
   |nil=>
    intro g m _
    cases g with|nil=>rfl|cons=>cases m
   |cons v r b3=>
    intro g m V
    cases g with
    |nil=>cases m
    |cons B b4=>
     rw[fg,xv,b3 b4 ‹m›<|λb5 b6 d=>V b5 b6<|by rw[vH];show el _ d,XR aw<|V v B<|by rw[vH];show(cp _),List.contains_cons];congr 1;by_cases e:v=u;.rw[e]
     .rw[zB e,zB<|λz=>e z.symm]
  have:(f.map I).toArray.any (Fi b f u)=b.contains u:=by
   rw[zG];show b2 b f h λ_ _ d=>d
  rwa [this]
end
noncomputable def cr(i:O):dK:=aAo.main.body.getD i<|.Pass (0,0,0,0)
structure qs(aA:eh)(x fo:E)(st:dK)(f:L)(ay:#[E]):Prop where
 S:∃dv,uR aA x fo st f dv/\pi aA dv ay []
structure ly(aq:fs)(w:hC)(aA:eh)(b:E->bs bc)(h:ez)(da:jj)(k:O)(f:L)(ay:#[E])(bX:cq):Prop where
 K:∃dv,km aq w aA b h da k f dv ay bX/\pi aA dv ay []
 R:rD aA (I f)=J
section
variable[bz]
theorem qs.K{x fo st f br ay k bX}(aj:qs aAv x fo st f ay)(ai:fu br ay<|dh st)(hx:∀vs H Q au,bX vs H Q au->↑vs=↑ay)
 (b:∀z H vs Q au,fz k (z.R.deeper<|z.K fo<|dh st)->bX vs H Q au->
   yk (iy bH br fo (dh st) z H au).b1 (nx st) br vs Q H):ly aAw aAx aAv aAy aAB bH (k+1) f ay bX:=by
 let(dv,aC,B):=aj.S;show((dv,aC.S ai hx b,B),aC.R)
theorem qs.R{x st f br ay k}(aj:qs aAv x fo st f ay)(ai:fu br ay<|dh st)(hx:∀vs H Q au,bX vs H Q au->↑vs=↑ay)
 (b:∀z H vs Q au,fz k (z.R.deeper<|z.K fo<|dh st)->bX vs H Q au->
   yk (iy (fr aAw aAx) br fo (dh st) z H au) (nx st) br vs Q H):ly aAw aAx aAv aAy aAB (fr aAw aAx) (k+1) f ay bX:=by
 let(dv,aC,B):=aj.S;show((dv,?_,B),aC.R);let(gb,ei,iZ,ke,eF,kf,hw,iH,pP,rfl,e,g):=aC.K;show Vz e g ai hx b
end
def fA(b:E->bs bc)(x:E)(n:N):Prop:=∃t,b x=Y (ew n t)
def lX(ar:L)(H:ap)(a:L)(ah:#[E×V]):Prop:=∃aG,H a=Y (.S ar aG ah)
section
variable[bz]{C:bW}{da:jj}{k:O}{f ar:L}{ay:#[E]}{bX:cq}{au:fQ}{x m:E}{p fm vu jH:iK}{e o iG:dD}{bf:#[dD]}{bt hv:bT}{t:gP}
def cH{n}(d:fA aAy x n)(b:autoParam (jV C x) r_5)(h:autoParam ((x==("__debug__":E))=aX) r_1):bn C (ge x bj)<|gA<|.R n:=by
 let(t,d):=d;show Kp b d (t,aa) h
def tv{a}(d:aAy x=Y (I a))(b:autoParam (jV C x) r_5)(h:autoParam ((x==("__debug__":E))=aX) r_1):bn C (ge x bj)<|gA<|.K a:=Kp b d aa h
inductive XT(ar:L)(f:E)(Q:ca)(x:V)(al:ap):Prop|mk(a:_)(ah:_)(v:_):(x=.K a)->(lX ar al a ah)->(ah.lookup f=Y v)->(Q v al)->XT ar f Q x al
def amD(ar:L)(f:E)(bt:bT):bT:=λD H Q=>bt D H λx al=>XT ar f Q x al
def f'(c:kK aAv ar)(n:jW aAv ar m)(b:bn C e bt)(h:autoParam (sD e m C.K (dx e C.K)=dx e C.K) r_5):bn C (hU e m bj)<|amD ar m bt:=by
 intro am s D H Q f d;show Vp h<|b.K f d λu p x al g bC i=>?_;let(a,ah,v,d',(aG,ea),l,q):=i;subst d';obtain rfl:u=I a:=bC;show Dr g ea c n l λw A j o=>(v,al,j,o,q)
inductive XU(ar:L)(f:E)(aj:gQ)(D:ck)(y:V)(x:V)(aH:ap):Prop|mk(a:_)(aG:_)(ah:_):(x=.K a)->(aH a=Y (.S ar aG ah))->(↑ah<1000)->(aj.K D<|a' aH a<|.S ar aG<|kH f y ah)->XU ar f aj D y x aH
def amF(ar:L)(f:E)(bt hv:bT):gz:=λaj D H=>hv D H λy al=>bt D al λx aH=>XU ar f aj D y x aH
def tw(c:kK aAv ar)(n:jW aAv ar m)(b:bn C o bt)(h:bn C iG hv)(aw:autoParam (vy iG (Y<|hU o m jH) bj.line C.K=gt aX) r_5):ix C (zi [hU o m jH] iG bj)<|amF ar m bt hv:=by
 intro am s D H aj e d;show axX (h.K e d λu A y al f g q=>b.K f q λi T x aH j bC p=>?_) aw;let(a,aG,ah,d',ea,l,v):=p;subst d';obtain rfl:i=I a:=bC;show Dt j ea c n l g λU w=>(D,_,w,v)
inductive XV(ar:L)(f:E)(hv:bT)(aj:gQ)(D:ck)(x:V)(al:ap):Prop|mk(a:_)(ah:_)(i:_):(x=.K a)->(lX ar al a ah)->(ah.lookup f=Y (.R i))->(hv D al λy aH=>∃j aG pK,y=.R j/\aH a=Y (.S ar aG pK)/\↑pK<1000/\aj.K D (a' aH a<|.S ar aG<|kH f (.R<|i+j) pK))->XV ar f hv aj D x al
def amG(ar:L)(f:E)(bt hv:bT):gz:=λaj D H=>bt D H λx al=>XV ar f hv aj D x al
def XW(c:kK aAv ar)(n:jW aAv ar m)(h:bn C o bt)(a1:bn C iG hv):ix C (afU (hU o m vu) wZ iG bj)<|amG ar m bt hv:=by
 intro am s D H aj f d;show axZ<|h.K f d λg a9 x al p bC b=>?_;let(a,ah,i,d',(aG,ea),l,q):=b;subst d';obtain rfl:g=I a:=bC;show Dr p ea c n l λu b0 v w=>a1.K v q λA T y aH U V b=>?_;let(j,b1,pK,a0,a2,a3,a4):=b;subst a0;show fR (KU am T D aH (.R i) (.R j) u A (λz e=>z=.R (i+j)/\e=aH) U w V (i,j,aa,aa,aa,aa)) λb2 b3 b=>?_;let(z,e,a5,a6,aB,a7):=b;subst aB a7;show Dt a5 a2 c n a3 a6 λb4 a8=>(D,_,a8,a4)
def PW(bX:cq)(au:fQ)(t:gP):bT:=λD H Q=>t D H λvs al=>bX vs al Q au
def amH(g:ly aAw aAx aAv aAy aAB da k f ay bX)(a1:aAy x=Y (I f))(a2:fz k C.R)(a3:kP da C au)(a4:jU C (e::bf) t)(a5:autoParam (jV C x) r_5)
 (a6:autoParam ((x==("__debug__":E))=aX) r_1)(a7:autoParam (er (e::bf) C.K=(aX,dx e C.K)::er bf C.K) r_5)(a8:autoParam ((h' bj<|er bf C.K).any (·.1)=aX) r_5):
  bn C (gw (ge x p) (e::bf) [] bj)<|PW bX au t:=by
 let((dv,aC,B),i):=g;intro am s D H Q b d;show vQ<|xV b a5 a1 (zS b.K.S.K i (a4.K bj b d λj l vs al h r q=>(h.a0,yh aC a2 B ed a3 h r<|by simp_all)) a7 a8) a6
inductive XX(ar:L)(m:E)(bX:cq)(au:fQ)(t:gP)(D:ck)(Q:ca)(x:V)(al:ap):Prop|mk(a:_)(ah:_):(x=.K a)->(lX ar al a ah)->(ah.lookup m=M)->(t D al λvs aH=>bX (x::vs) aH Q au)->XX ar m bX au t D Q x al
def Fj(ar:L)(m:E)(bX:cq)(au:fQ)(bt:bT)(t:gP):bT:=λD H Q=>bt D H λx al=>XX ar m bX au t D Q x al
def Fk{a1}(a2:bn C o bt)(c:kK aAv ar)(b:Ao aAv ar m f)(g:ly aAw aAx aAv aAy aAB da k f ay bX)(a3:fz k C.R)(a4:kP da C au)
 (a5:jU C (e::bf) t)(a6:autoParam (er (e::bf) C.K=(aX,dx e C.K)::er bf C.K) r_5)(a7:autoParam ((h' bj<|er bf C.K).any (·.1)=aX) r_5)
 (a8:autoParam (dx (gw (hU o m fm) (e::bf) [] bj) C.K=(do
   let h<- dx o C.K
   ub fm.atName
   let(f,a9)<- rC [h] (xa h m a1)
   Cn bj f a9 (h' bj<|er (e::bf) C.K) (sF bj<|sG [] C.K))) r_5):bn C (gw (hU o m fm) (e::bf) [] bj)<|Fj ar m bX au bt t:=by
 let((dv,aC,B),w):=g;intro am s D H Q i d;show CS (a2.K i d λu A x al j bC v=>?_) a8;let(a,ah,d',(aG,ea),l,q):=v;subst d';obtain rfl:u=I a:=bC;show Ds j ea c b l<|zS i.K.S.K b.K (a5.K bj j q λT U vs aH p r V=>(p.a0,yh (vs:=.K a::vs) aC a3 B ed a4 p (eS aa r)<|by rwa [e'])) a6 a7
inductive XZ(ar:L)(m:E)(bX:cq)(au:fQ)(Q:ca)(x:V)(al:ap):Prop|mk(a:_)(ah:_):(x=.K a)->(lX ar al a ah)->(ah.lookup m=M)->(bX [x] al Q au)->XZ ar m bX au Q x al
def X_(ar:L)(m:E)(bX:cq)(au:fQ)(bt:bT):bT:=λD H Q=>bt D H λx al=>XZ ar m bX au Q x al
def X'{a2}(a3:bn C o bt)(c:kK aAv ar)(h:Ao aAv ar m f)(g:ly aAw aAx aAv aAy aAB da k f ay bX)(a4:fz k C.R)(a5:kP da C au)
 (a6:autoParam (dx (gw (hU o m fm) [] [] bj) C.K=(do
   let a1<- dx o C.K
   ub fm.atName
   let(f,a7)<- rC [a1] (xa a1 m a2)
   Cn bj f a7 (h' bj<|er [] C.K) (sF bj<|sG [] C.K))) r_5):bn C (gw (hU o m fm) [] [] bj)<|X_ ar m bX au bt:=by
 let((dv,aC,B),j):=g;intro am s D H Q e d;show CS (a3.K e d λu p x al b bC i=>?_) a6;let(a,ah,d',(aG,ea),l,q):=i;subst d';obtain rfl:u=I a:=bC;show Ds b ea c h l<|agd b.a0 h.K<|yh (vs:=[.K a]) aC a4 B ed a5 b (eS aa ed) q
def Fl(ar:L)(bX:cq)(au:fQ)(t:gP):bT:=λD H Q=>t D H λvs al=>∀x aG,al x=M->al aG=M->aG≠x->bX (.K x::vs) (a' (a' al aG<|.a2 x) x<|.S ar aG []) (λv aH=>v=.a0/\Q (.K x) aH) au
def amK(av:yi aAv ar f)(g:ly aAw aAx aAv aAy aAB da k f ay bX)(a1:fz (k+1) C.R)(a2:aAy x=Y (I ar))(a3:kP da C au)(a4:jU C (e::bf) t)(a5:autoParam (jV C x) r_5)
 (a6:autoParam ((x==("__debug__":E))=aX) r_1)(a7:autoParam (er (e::bf) C.K=(aX,dx e C.K)::er bf C.K) r_5)(a8:autoParam ((h' bj<|er bf C.K).any (·.1)=aX) r_5):
  bn C (gw (ge x p) (e::bf) [] bj)<|Fl ar bX au t:=by
 let((dv,aC,B),j):=g;intro am s D H Q b d;show vQ<|xV b a5 a2 (zS b.K.S.K av.K (a4.K bj b d λl m vs al h r q=>(h.a0,Vr av aC a1 B ed a3 h r λx aG ab ag i=>by rw[e'];show q x aG ab ag i)) a7 a8) a6
def amP(av:yi aAv ar f)(g:ly aAw aAx aAv aAy aAB da k f ay bX)(b:fz (k+1) C.R)(h:aAy x=Y (I ar))(a1:kP da C au)(a2:autoParam (jV C x) r_5)
 (a3:autoParam ((x==("__debug__":E))=aX) r_1):bn C (gw (ge x p) [] [] bj)<|Fl ar bX au kl:=by
 let((dv,aC,B),e):=g;show ajh av aC b a2 h B ed a1 a3
end
noncomputable def uV(p m d c l qR mG s B:V):#[E×V]:=[("program",p),("most",m),("held",d),("come_to",c),("links",l),("watchers",qR),("waiting",mG),("sort_facts",s),("body_facts",B)]
section
variable{p m d c l qR mG s B v:V}
theorem amQ:kH "sort_facts" v (uV p m d c l qR mG s B)=uV p m d c l qR mG v B:=rfl
end
structure j_[bz](ar:L)(f:E):Prop where
 K:kK aAv ar
 R:jW aAv ar f
structure si[bz](da:jj)(k:O)(ar:L)(m:E)(ay:#[E])(bX:cq):Prop where
 K:∃f,Ao aAv ar m f/\ly aAw aAx aAv aAy aAB da k f ay bX
structure cX[bz](da:jj)(k:O)(x:E)(ay:#[E])(bX:cq):Prop where
 R:∃f,aAy x=Y (I f)/\ly aAw aAx aAv aAy aAB da k f ay bX
structure qt[bz](da:jj)(k:O)(ar:L)(x:E)(ay:#[E])(bX:cq):Prop where
 K:∃f,yi aAv ar f/\aAy x=Y (I ar)/\ly aAw aAx aAv aAy aAB da k f ay bX
structure eD[bz](da:jj)(k:O)(ar:L)(m:E)(ay:#[E])(bX:cq):Prop where
 R:kK aAv ar
 K:si da k ar m ay bX
structure PX[bz](ar:L):Prop where
 K:kK aAv ar
 R:jW aAv ar "program"
 a0:jW aAv ar "most"
 X:jW aAv ar "held"
 a2:jW aAv ar "come_to"
 a3:jW aAv ar "links"
 a4:jW aAv ar "watchers"
 S:jW aAv ar "waiting"
 a5:jW aAv ar "sort_facts"
 a1:jW aAv ar "body_facts"
structure PZ[bz](ar:L):Prop where
 K:kK aAv ar
 R:jW aAv ar "kinds"
 S:jW aAv ar "parts"
 a0:jW aAv ar "numbers"
 X:jW aAv ar "binders"
 a1:jW aAv ar "homes"
 a2:jW aAv ar "outer"
structure Za[bz](ar b b1 h b0:L):Prop where
 S:j_ ar "program"
 a6:j_ ar "given"
 a4:j_ ar "steps"
 X:j_ ar "frames"
 a5:j_ ar "came_about"
 R:j_ b "label"
 a1:j_ b "string"
 a0:j_ b "bound"
 K:j_ b "got"
 a8:fA aAy "MOST_STEPS" 300
 a7:fA aAy "FLOW" 0
 a9:fA aAy "CALL" 1
 a2:aAy "WrongRun"=Y (I h)/\uS aAv h
 a3:aAy "LongRun"=Y (I b0)/\uS aAv b0
structure Zb[bz](ar:L):Prop where
 K:j_ ar "program"
 R:j_ ar "most"
 S:j_ ar "grown"
structure amR[bz](ar:L):Prop where
 K:j_ ar "numbers"
 R:j_ ar "place"
structure amS[bz](ar:L):Prop where
 K:j_ ar "signs"
 X:j_ ar "place"
 R:j_ ar "program"
 a0:j_ ar "names"
 S:j_ ar "around"
noncomputable def wn:#[E×V]:=[("fun",.R 1),("let",.R 2),("if",.R 3),("pair",.R 2),("fst",.R 1),("snd",.R 1),("new",.R 1),("get",.R 1),("set",.R 2),("add",.R 2)]
structure amT[bz]:Prop where
 K:∃a,aAy "FORMS"=Y (I a)/\mv aAv a wn
noncomputable def yy:E:="() 0123456789abcdefghijklmnopqrstuvwxyz"
noncomputable abbrev gT:#[E]:=["run","frame"]
structure fk[bz](ar:L)(m q:E)(st:dK)(ay:#[E]):Prop where
 X:∃f,Ao aAv ar m f/\qs aAv m q st f ay
structure dB[bz](x:E)(st:dK)(ay:#[E]):Prop where
 a0:∃f,aAy x=Y (I f)/\qs aAv x x st f ay
structure oq[bz](ar:L)(x q:E)(st:dK)(ay:#[E]):Prop where
 S:∃f,yi aAv ar f/\aAy x=Y (I ar)/\qs aAv "__init__" q st f ay
structure tx[bz](x:E)(l:#[E×E]):Prop where
 R:∃a aj,aAy x=Y (I a)/\mv aAv a aj/\∀q∈l,∃f,jv q.1 aj=Y (.K f)/\aAy q.2=Y (I f)
noncomputable abbrev Zc:#[E×E]:=[("number","settle_number"),("in","settle_number"),("add","settle_number"),("name","settle_name"),("fun","settle_fun"),("call","settle_watcher"),("let","settle_let"),("if","settle_if"),("pair","settle_pair"),("fst","settle_watcher"),("snd","settle_watcher"),("new","settle_new"),("get","settle_watcher"),("set","settle_set")]
noncomputable abbrev Zd:#[E×E]:=[("call","react_call"),("fst","react_fst"),("snd","react_snd"),("get","react_get"),("set","react_set")]
noncomputable abbrev pr:#[E×E]:=[("number","run_number"),("in","run_in"),("name","run_name"),("fun","run_fun"),("call","run_call"),("let","run_let"),("if","run_if"),("pair","run_pair"),("fst","run_fst"),("snd","run_snd"),("new","run_new"),("get","run_get"),("set","run_set"),("add","run_add")]
noncomputable def P_:#[E×V]:=[("number",.R 0),("in",.R 0),("name",.R 0),("fun",.R 0),("call",.R 2),("let",.R 1),("if",.R 1),("pair",.R 2),("fst",.R 1),("snd",.R 1),("new",.R 1),("get",.R 1),("set",.R 2),("add",.R 2)]
inductive yz(h:eh):cq|mk{a1 b a2 a3 a4}:fa h a2 a1 (b.map V.R)->ahb b=J->(∀af p,af p=Y (.K<|(Tt b).map V.R)->a3 (.K p) af)->yz h [.K a1] a2 a3 a4
noncomputable abbrev amU:dK:=jk (cr 12) 3
noncomputable abbrev amV:dK:=cr 11
noncomputable abbrev amW:dK:=cr 13
noncomputable abbrev amX:dK:=jk (cr 12) 4
noncomputable abbrev amZ:dK:=jk (cr 12) 10
noncomputable abbrev ana:dK:=jk (cr 12) 5
noncomputable abbrev anb:dK:=jk (cr 12) 6
noncomputable abbrev anc:dK:=jk (cr 12) 7
noncomputable abbrev Ze:dK:=jk (cr 12) 0
noncomputable abbrev ane:dK:=jk (cr 12) 8
noncomputable abbrev anf:dK:=jk (cr 12) 9
noncomputable abbrev ang:dK:=jk (cr 12) 11
noncomputable abbrev anh:dK:=jk (cr 12) 1
noncomputable abbrev ani:dK:=jk (cr 12) 2
noncomputable abbrev Zf:dK:=jk (cr 12) 12
noncomputable abbrev Zg:dK:=cr 70
noncomputable abbrev anj:dK:=cr 71
noncomputable abbrev ank:dK:=cr 72
noncomputable abbrev anl:dK:=cr 73
noncomputable abbrev anm:dK:=cr 74
noncomputable abbrev ann:dK:=cr 75
noncomputable abbrev ano:dK:=cr 76
noncomputable abbrev anp:dK:=cr 77
noncomputable abbrev anq:dK:=cr 78
noncomputable abbrev anr:dK:=cr 79
noncomputable abbrev ans:dK:=cr 81
noncomputable abbrev ant:dK:=cr 82
noncomputable abbrev anu:dK:=cr 84
noncomputable abbrev anv:dK:=cr 83
noncomputable abbrev Fm:dK:=cr 85
noncomputable abbrev anw:dK:=cr 86
noncomputable abbrev anx:dK:=cr 87
noncomputable abbrev anz:dK:=cr 88
noncomputable abbrev anA:dK:=cr 90
noncomputable abbrev anB:dK:=cr 91
noncomputable abbrev Zh:dK:=cr 92
noncomputable abbrev anC:dK:=jk (cr 62) 1
noncomputable abbrev anD:dK:=jk (cr 62) 2
noncomputable abbrev Zi:dK:=jk (cr 62) 3
noncomputable abbrev anF:dK:=jk (cr 62) 4
noncomputable abbrev Zj:dK:=cr 93
noncomputable abbrev anG:dK:=cr 48
noncomputable abbrev anH:dK:=cr 49
noncomputable abbrev Zk:dK:=cr 50
noncomputable abbrev anK:dK:=cr 51
noncomputable abbrev Zl:dK:=cr 52
noncomputable abbrev anP:dK:=cr 53
noncomputable abbrev Fn(j:O):dK:=jk (cr 120) j
noncomputable abbrev sj(j:O):dK:=jk (cr 26) j
noncomputable abbrev anQ:dK:=jk (cr 25) 0
noncomputable abbrev uW(j:O):dK:=jk (cr 103) j
noncomputable abbrev hk(j:O):dK:=jk (cr 67) j
class ci[bz]:Prop where
 aAS:PX aAA
 aAR:PZ aAC
 aAU:Za aAF aAG aAC aAK cL
 aAW:Zb aAD
 aAX:amR aAH
 aAT:amS aAz
 aAV:aAy "len"=M
 aBa:aAy "sorted"=M
 O8:aAy "list"=M
 aBb:aAy "enumerate"=M
 O9:aAy "range"=M
 aBj:aAy "dict"=M
 aBk:aAy "all"=M
 aBl:aAy "any"=M
 aBm:aAy "tuple"=M
 O_:aAy "ord"=M
 aBn:aAy "int"=M
 aBd:aAy "reversed"=M
 aAZ:fA aAy "NODE" 0
 aBe:fA aAy "BINDER" 1
 aBo:fA aAy "FIRST" 2
 aBp:fA aAy "SECOND" 3
 aBq:fA aAy "CONTENTS" 4
 HI:fA aAy "NUMBER" 0
 aBf:fA aAy "FUNCTION" 1
 aBg:fA aAy "PAIR" 2
 aBh:fA aAy "REFERENCE" 3
 aBr:fA aAy "MOST_FACTS" 400
 aBs:fA aAy "MODULUS" 100
 aBt:fA aAy "MOST_SITES" 3
 aBu:fA aAy "ENDED" 0
 aBv:fA aAy "WRONG" 1
 aBw:fA aAy "LONG" 2
 aBx:fA aAy "TOO_LARGE"<|-7
 aBy:fA aAy "NO_NODE"<|-3
 aBi:fA aAy "WRONG_KIND"<|-5
 aBz:fA aAy "NO_STRING"<|-4
 HJ:fA aAy "OUT_OF_RANGE"<|-2
 aBc:fA aAy "MOST_LABELS" 2
 aBA:fA aAy "LARGEST_INPUT" 9
 aBB:fA aAy "MOST_LETTERS" 4
 aBC:fA aAy "MOST_NODES" 30
 aBD:fA aAy "MOST_AROUND" 8
 aBF:fA aAy "NO_PROGRAM"<|-1
 jL:aAy "NotAProgram"=Y (I cN)/\uS aAv cN
 aBG:∃t,aAy "SIGNS"=Y (nk yy t)
 HL:amT
 aBH:tx "SETTLERS" Zc
 aBK:tx "REACTIONS" Zd
 aBP:tx "KINDS" pr
 aBQ:∃a,aAy "PARTS_AHEAD"=Y (I a)/\mv aAv a P_
 aBR:fk aAA "put" "Table.put" amU ["self","cell","sort"]
 aBS:fk aAA "mark_come_to" "Table.mark_come_to" amX ["self","fun","string"]
 aBT:fk aAA "sorts_at" "Table.sorts_at" amZ ["self","cell"]
 aBU:fk aAA "wait_again" "Table.wait_again" ana ["self","cell"]
 aBV:fk aAA "link" "Table.link" anb ["self","source","target"]
 aBW:fk aAA "watch" "Table.watch" anc ["self","source","label","string"]
 aBX:fk aAA "count_facts" "Table.count_facts" anh ["self"]
 aBZ:fk aAA "too_large" "Table.too_large" ani ["self"]
 aCa:fk aAA "targets_of" "Table.targets_of" ane ["self","cell"]
 aCb:fk aAA "watchers_of" "Table.watchers_of" anf ["self","cell"]
 aCc:fk aAA "strings_of_body" "Table.strings_of_body" ang ["self","fun"]
 aCd:fk aAA "sorts_in_any_string" "Table.sorts_in_any_string" Zf ["self","group","label"]
 aCe:fk aAC "has_node" "Program.has_node" anC ["self","label"]
 aCf:fk aAC "is_kind" "Program.is_kind" anD ["self","label","kind"]
 aCg:fk aAC "count_kind" "Program.count_kind" anF ["self","kind"]
 aCh:fk aAC "labels_of" "Program.labels_of" Zi ["self","kinds"]
 aCi:fk aAF "enter" "Run.enter" (sj 1) ["self","label","string","bound"]
 aCj:fk aAF "note" "Run.note" (sj 2) ["self","event","frame","value"]
 aCk:fk aAF "give" "Run.give" (sj 3) ["self","value"]
 aCl:fk aAF "enter_part" "Run.enter_part" (sj 4) ["self","frame","place","bound"]
 aCm:fk aAD "change_program" "Subject.change_program" (uW 1) ["self","program"]
 aCn:fk aAD "find_table" "Subject.find_table" (uW 2) ["self"]
 aCo:fk aAD "find_table_by" "Subject.find_table_by" (uW 3) ["self","most"]
 aCp:fk aAH "at_end" "Cursor.at_end" (Fn 1) ["self"]
 aCq:fk aAH "take" "Cursor.take" (Fn 2) ["self"]
 aCr:fk aAH "take_row" "Cursor.take_row" (Fn 3) ["self"]
 aCs:fk aAz "sees" "Reader.sees" (hk 1) ["self","sign"]
 aCt:fk aAz "skip" "Reader.skip" (hk 2) ["self","sign"]
 aCu:fk aAz "peek_word" "Reader.peek_word" (hk 3) ["self"]
 aCv:fk aAz "take_word" "Reader.take_word" (hk 4) ["self"]
 aCw:fk aAz "home" "Reader.home" (hk 5) ["self"]
 aCx:fk aAz "add_node" "Reader.add_node" (hk 6) ["self","kind"]
 aCy:fk aAz "begin" "Reader.begin" (hk 7) ["self"]
 aCz:fk aAz "begin_form" "Reader.begin_form" (hk 8) ["self"]
 aCA:fk aAz "read_binder" "Reader.read_binder" (hk 9) ["self"]
 aCB:fk aAz "read_leaf" "Reader.read_leaf" (hk 10) ["self"]
 aCC:fk aAz "use_name" "Reader.use_name" (hk 11) ["self","word"]
 aCD:fk aAz "find_binder" "Reader.find_binder" (hk 12) ["self","word"]
 aCF:fk aAz "need_outside" "Reader.need_outside" (hk 13) ["self","fun","binder"]
 aCG:fk aAz "in_last_part" "Reader.in_last_part" (hk 14) ["self","label"]
 aCH:fk aAz "go_on" "Reader.go_on" (hk 15) ["self"]
 aCK:oq aAA "Table" "Table.__init__" Ze ["self","program","most"]
 aCP:oq aAC "Program" "Program.__init__" (jk (cr 62) 0) ["self"]
 aCQ:oq aAF "Run" "Run.__init__" (sj 0) ["self","program","given"]
 aCR:oq aAG "Frame" "Frame.__init__" anQ ["self","label","string","bound"]
 aCS:oq aAD "Subject" "Subject.__init__" (uW 0) ["self"]
 aCT:oq aAH "Cursor" "Cursor.__init__" (Fn 0) ["self","numbers"]
 aCU:oq aAz "Reader" "Reader.__init__" (hk 0) ["self","signs"]
 aCV:dB "string_within" amV ["site","string","most"]
 aCW:dB "sort_order" amW ["sort"]
 aCX:dB "part_cells" Zg ["table","label","string"]
 aCZ:dB "settle_number" anj ["table","label","string"]
 aDa:dB "settle_name" ank ["table","label","string"]
 aDb:dB "settle_fun" anl ["table","label","string"]
 aDc:dB "settle_watcher" anm ["table","label","string"]
 aDd:dB "settle_let" ann ["table","label","string"]
 aDe:dB "settle_if" ano ["table","label","string"]
 aDf:dB "settle_pair" anp ["table","label","string"]
 aDg:dB "settle_new" anq ["table","label","string"]
 aDh:dB "settle_set" anr ["table","label","string"]
 aDi:dB "settle_home" ans ["table","home","string"]
 aDj:dB "come_to_body" ant ["table","fun","string"]
 aDk:dB "inside" anu ["group","sort"]
 aDl:dB "react_call" anv ["table","label","string","sort"]
 aDm:dB "react_fst" Fm ["table","label","string","sort"]
 aDn:dB "react_snd" anw ["table","label","string","sort"]
 aDo:dB "react_get" anx ["table","label","string","sort"]
 aDp:dB "react_set" anz ["table","label","string","sort"]
 aDq:dB "pass_on" anA ["table","cell","sort"]
 aDr:dB "pass_on_next" anB ["table"]
 aDs:dB "grow_table" Zh ["program","most"]
 aDt:dB "grow_table_without_strings" Zj ["program"]
 aDu:dB "find_arrows" anG ["table"]
 aDv:dB "find_dead" anH ["table"]
 aDw:dB "list_places" Zk ["program"]
 aDx:dB "find_parting" anK ["coarse","fine"]
 aDy:dB "has_flow" Zl ["table","label","string","value"]
 aDz:dB "has_call" anP ["table","site","string","value"]
 aDA:dB "find_missing" (cr 54) ["table","run"]
 aDB:dB "need" (cr 27) ["value","what"]
 aDC:dB "bind" (cr 28) ["bound","binder","value"]
 aDD:dB "run_number" (cr 29) gT
 aDF:dB "run_in" (cr 30) gT
 aDG:dB "run_name" (cr 31) gT
 aDH:dB "run_fun" (cr 32) gT
 aDK:dB "run_call" (cr 33) gT
 aDP:dB "run_let" (cr 34) gT
 aDQ:dB "run_if" (cr 35) gT
 aDR:dB "run_pair" (cr 36) gT
 aDS:dB "run_fst" (cr 37) gT
 aDT:dB "run_snd" (cr 38) gT
 aDU:dB "run_new" (cr 39) gT
 aDV:dB "run_get" (cr 40) gT
 aDW:dB "run_set" (cr 41) gT
 aDX:dB "run_add" (cr 42) gT
 aDZ:dB "go_on" (cr 45) ["run"]
 aFa:dB "finish" (cr 46) ["run"]
 aFb:dB "spell" (cr 63) ["text"]
 aFc:dB "is_number" (cr 64) ["word"]
 aFd:dB "is_name" (cr 65) ["word"]
 aFe:dB "count_parts" (cr 66) ["kind"]
 aFf:dB "read_program" (cr 68) ["text"]
 aFg:dB "answer_program" (cr 104) ["subject","text"]
 aFh:dB "answer_strings" (cr 105) ["subject","most"]
 aFi:dB "answer_facts" (cr 106) ["subject"]
 aFj:dB "answer_values" (cr 107) ["subject","label"]
 aFk:dB "answer_at" (cr 108) ["subject","label","string"]
 aFl:dB "is_string" (cr 109) ["subject","string"]
 aFm:dB "answer_arrows" (cr 110) ["subject"]
 aFn:dB "answer_bodies" (cr 111) ["subject","label"]
 aFo:dB "answer_ladder" (cr 112) ["subject"]
 aFp:dB "answer_parts" (cr 113) ["subject","most"]
 aFq:dB "answer_dead" (cr 114) ["subject"]
 aFr:dB "answer_check" (cr 115) ["subject","given"]
 aFs:dB "answer_name" (cr 116) ["subject","label"]
 aFt:dB "answer_size" (cr 117) ["subject"]
 aFu:dB "tell_pairs" (cr 118) ["pairs"]
 aFv:dB "answer_next" (cr 121) ["subject","cursor"]
 aFw:uR aAv "answers" "answers" (cr 122) aAP aAQ
open ci
def P'(ae:bz):Prop:=@ci ae/\¬km ae.aAw ae.aAx ae.aAv ae.aAy ae.aAB bH 19 ae.aAP ae.aAQ ["calls"] (yz ae.aAv)
instance:Nonempty bz:=⟨{aAw:=Tu,aAx:=(λ_ _=>0,{strHash:=λ_=>0,shareClass:=λ_=>0,mergeTok:=id,idOf:=λ_=>0,idOfShared:=λ_ _=>0,followText:=λ_=>J,idOfImm:=λ_=>0}),aAv:=[],aAy:=λ_=>M,aAB:=Tu,aAA:=0,aAC:=0,aAF:=0,aAG:=0,aAD:=0,aAH:=0,aAz:=0,aAK:=0,cL:=0,cN:=0,aAP:=0,aAQ:=Tu}⟩
noncomputable instance hW:bz:=Classical.epsilon P'
section
variable{da:jj}{k j:O}{ar:L}{x m q:E}{st:dK}{ay:#[E]}{bX:cq}{l:#[E×E]}
theorem fk.a0(d:fk ar m q st ay)(g:∀f,qs aAv m q st f ay->ly aAw aAx aAv aAy aAB da k f ay bX):si da k ar m ay bX:=
 d.X.elim λf z=>(f,z.1,g f z.2)
theorem dB.X(d:dB x st ay)(g:∀f,qs aAv x x st f ay->ly aAw aAx aAv aAy aAB da k f ay bX):cX da k x ay bX:=
 d.a0.elim λf z=>(f,z.1,g f z.2)
theorem oq.R(d:oq ar x q st ay)(g:∀f,qs aAv "__init__" q st f ay->ly aAw aAx aAv aAy aAB da k f ay bX):qt da k ar x ay bX:=
 d.S.elim λf z=>(f,z.1,z.2.1,g f z.2.2)
theorem cX.K(d:cX da j x ay bX)(e:j<=k):cX da k x ay bX:=by
 let(f,a,(dv,B,c),ae):=d.R;show(f,a,(dv,B.S e,c),ae)
theorem tx.K(av:tx x l):∃a aj,aAy x=Y (I a)/\mv aAv a aj/\∀kd ga,(kd,ga)>l->∀{da k ay bX},cX da k ga ay bX->∃f,jv kd aj=Y (.K f)/\ly aAw aAx aAv aAy aAB da k f ay bX:=by
 let(a,aj,ab,ag,b):=av.R;show(a,aj,ab,ag,λkd ga d _ _ _ _ g=>?_);let(f,e,h):=b _ d;let(m,i,j):=g.R;cases h.symm.trans i;show(f,e,j)
def anR{a k:E}{B v:α}{l:#[E×α]}(d:uc k ((a,B)::l)=Y v):(k=a/\v=B)∨uc k l=Y v:=by
 rw[sZ]at d
 cases q:k==a with|true=>rw[q]at d;show aQ (oV q,(hq d).symm)|false=>rw[q]at d;show bl d
theorem Qa{α:Type}{p:E->α->Prop}:∀{l:#[E×α]}{k:E}{v:α},(∀q∈l,p q.1 q.2)->uc k l=Y v->p k v|[],_,_,_,d=>nomatch d|(a,B)::l,k,v,g,d=>(anR d).elim (λe=>e.1▸e.2▸g (a,B) ig) λe=>Qa (λq b=>g q<|el _ b) e
theorem fk.S(d:fk ar m q st ay)(c:kK aAv ar)(g:∀f,qs aAv m q st f ay->ly aAw aAx aAv aAy aAB da k f ay bX):eD da k ar m ay bX:=(c,d.a0 g)
def yA[bz](k:O)(q:E)(st:dK)(bX:cq)(br:#[E])(dt:Aq->ap->fQ->bW):Prop:=∀z H vs Q au,fz k (z.R.deeper<|z.K q<|dh st)->bX vs H Q au->br.Nodup->yk (dt z H au) (nx st) br vs Q H
theorem dB.K(d:dB x st ay)(br:#[E])(B:yA k x st bX br<|λz H au=>(iy bH br x (dh st) z H au).b1)(ai:autoParam (fu br ay (dh st)) r_7)(hx:autoParam (∀vs H Q au,bX vs H Q au->↑vs=↑ay) r_8):cX bH (k+1) x ay bX:=d.X λ_ aj=>aj.K ai hx λz H vs Q au b d=>B z H vs Q au b d ai.K
theorem dB.S(d:dB x st ay)(br:#[E])(B:yA k x st bX br<|iy (fr aAw aAx) br x<|dh st)(ai:autoParam (fu br ay (dh st)) r_7)(hx:autoParam (∀vs H Q au,bX vs H Q au->↑vs=↑ay) r_8):cX (fr aAw aAx) (k+1) x ay bX:=d.X λ_ aj=>aj.R ai hx λz H vs Q au b d=>B z H vs Q au b d ai.K
theorem fk.K(d:fk ar m q st ay)(c:kK aAv ar)(br:#[E])(B:yA k q st bX br<|λz H au=>(iy bH br q (dh st) z H au).b1)(ai:autoParam (fu br ay (dh st)) r_7)(hx:autoParam (∀vs H Q au,bX vs H Q au->↑vs=↑ay) r_8):eD bH (k+1) ar m ay bX:=d.S c λ_ aj=>aj.K ai hx λz H vs Q au b d=>B z H vs Q au b d ai.K
theorem fk.R(d:fk ar m q st ay)(c:kK aAv ar)(br:#[E])(B:yA k q st bX br<|iy (fr aAw aAx) br q<|dh st)(ai:autoParam (fu br ay (dh st)) r_7)(hx:autoParam (∀vs H Q au,bX vs H Q au->↑vs=↑ay) r_8):eD (fr aAw aAx) (k+1) ar m ay bX:=d.S c λ_ aj=>aj.R ai hx λz H vs Q au b d=>B z H vs Q au b d ai.K
theorem oq.K(d:oq ar x q st ay)(br:#[E])(B:yA k q st bX br<|λz H au=>(iy bH br q (dh st) z H au).b1)(ai:autoParam (fu br ay (dh st)) r_7)(hx:autoParam (∀vs H Q au,bX vs H Q au->↑vs=↑ay) r_8):qt bH (k+1) ar x ay bX:=d.R λ_ aj=>aj.K ai hx λz H vs Q au b d=>B z H vs Q au b d ai.K
theorem oq.X(d:oq ar x q st ay)(br:#[E])(B:yA k q st bX br<|iy (fr aAw aAx) br q<|dh st)(ai:autoParam (fu br ay (dh st)) r_7)(hx:autoParam (∀vs H Q au,bX vs H Q au->↑vs=↑ay) r_8):qt (fr aAw aAx) (k+1) ar x ay bX:=d.R λ_ aj=>aj.R ai hx λz H vs Q au b d=>B z H vs Q au b d ai.K
end
abbrev b_:=N×N×#[N]
noncomputable def gU(x:b_):#[ft]:=tt x.1 x.2.1 x.2.2
noncomputable def wo(s:#[N]):#[ft]:=s.map λi=>eZ<|eZ i
noncomputable def yB(x:N×#[N]):#[ft]:=[eZ<|eZ x.1,ky<|x.2.map eZ]
theorem Fo{α eB:Type}:∀{l m:#[α]},l.map (eZ:α->α⊕eB)=m.map eZ->l=m
 |[],[],_=>rfl
 |[],_::_,d=>by cases d
 |_::_,[],d=>by cases d
 |x::l,y::m,d=>by
  simp at d;rw[d.1,Fo d.2]
def Zn{a B}(d:gU a=gU B):a=B:=by
 let(b,e,f):=a;let(g,h,i):=B;(dsimp only[gU,tt]at d;simp only[uz,Tv,ahc,Tw]at d);rw[d.1,d.2.1,Fo d.2.2]
def anS{a B}(d:yB a=yB B):a=B:=by
 let(b,e):=a;let(f,g):=B;simp only[yB,uz,Tv,ahc,Tw]at d;rw[d.1,Fo d.2]
theorem Zo:∀{a B},wo a=wo B->a=B
 |[],[],_=>rfl
 |[],_::_,d=>by cases d
 |_::_,[],d=>by cases d
 |x::l,y::m,d=>by
  simp only[wo,fg,uz,Tv]at d;rw[d.1,Zo d.2]
abbrev mw(κ eg:Type):=#[κ×L×#[eg]]
structure lz{κ eg:Type}[i_ κ](m:mw κ eg)(l:#[κ×eg]):Prop where
 K:(m.map (·.1)).Nodup
 S:∀e∈m,e.2.2=(l.filter λp=>bp<|p.1=e.1).map (·.2)
 all:∀p∈l,p.1>m.map (·.1)
 a0:l.Nodup
section
variable{κ eg:Type}[i_ κ][i_ eg]
theorem lz.X:lz ([]:mw κ eg) []:=(lP,(λe d=>by cases d),(λp d=>by cases d),lP)
theorem lz.R{m:mw κ eg}{l:#[κ×eg]}(aC:lz m l){e:κ×L×#[eg]}(b:e>m){x:eg}:x>e.2.2↔(e.1,x)>l:=by
 rw[aC.S e b,bx];simp_all
def Zp{m:mw κ eg}(h:(m.map (·.1)).Nodup){e f:κ×L×#[eg]}(b:e>m)(a1:f>m)(d:e.1=f.1):e=f:=by
 induction m with
 |nil=>cases b
 |cons a r g=>
  let(ab,ag):=f_.1 h;let z||z:=cc.1 b<;>let w||w:=cc.1 a1;.rw[z,w]
  .show bB (by change a.1>_;rw[<- z,d];show bx.2 (f,w,aa)) ab
  .show bB (by change a.1>_;rw[<- w,<- d];show bx.2 (e,z,aa)) ab
  .show g ag z w
def anT{m:mw κ eg}(h:(m.map (·.2.1)).Nodup){e f:κ×L×#[eg]}(b:e>m)(a1:f>m)(d:e.2.1=f.2.1):e=f:=by
 induction m with
 |nil=>cases b
 |cons a r g=>
  let(ab,ag):=f_.1 h;let z||z:=cc.1 b<;>let w||w:=cc.1 a1;.rw[z,w]
  .show bB (by change a.2.1>_;rw[<- z,d];show bx.2 (f,w,aa)) ab
  .show bB (by change a.2.1>_;rw[<- w,<- d];show bx.2 (e,z,aa)) ab
  .show g ag z w
noncomputable def uX(m:mw κ eg)(k:κ)(x:eg):mw κ eg:=m.map λe=>if e.1=k then(e.1,e.2.1,e.2.2++[x])else e
theorem Zq(m:mw κ eg)(k:κ)(x:eg):(uX m k x).map (·.1)=m.map (·.1):=by
 delta uX;rw[dX];show rb λe _=>?_;change(if e.1=k then _ else e).1=e.1;split<;>rfl
theorem anU(m:mw κ eg)(k:κ)(x:eg):(uX m k x).map (·.2.1)=m.map (·.2.1):=by
 delta uX;rw[dX];show rb λe _=>?_;change(if e.1=k then _ else e).2.1=e.2.1;split<;>rfl
theorem lz.a1{m:mw κ eg}{l:#[κ×eg]}(aC:lz m l){k:κ}{x:eg}(a5:k>m.map (·.1))(h:(k,x)∉l):lz (uX m k x)<|l++[(k,x)]:=by
 show(by rw[Zq];show aC.K,λe g=>?_,λp i=>?_,?_)
 .let(b,f,rfl):=bx.1 g;rw[ta,cs];by_cases q:b.1=k;.rw[bK q];rw[aC.S b f,pe,bK<|hp q.symm];rfl
  .rw[be q];rw[aC.S b f,pe,be<|by rw[rR];show λz=>q z.symm];simp
 .rw[Zq];let z||z:=du.1 i;.show aC.all p z
  .have:=‹z›
   rwa [this]
 .show pm aC.a0 h
theorem lz.a2{m:mw κ eg}{l:#[κ×eg]}(aC:lz m l){k:κ}(h:k∉m.map (·.1)):lz (m++[(k,a,[])]) l:=by
 let bU:∀p∈l,p.1≠k:=λp b z=>h<|z▸aC.all p b;show(by rw[cs];show pm aC.K h,λe f=>?_,λp b=>?_,aC.a0)
 .let z||z:=du.1 f;.show aC.S e z
  .have:=‹z›
   subst this;rw[CT.2 λp b=>by rw[rR];show bU p b];rfl
 .rw[cs];show dQ _<|aC.all p b
theorem lz.a3{m:mw κ eg}{l:#[κ×eg]}(aC:lz m l)(h:∀e∈m,e.2.2≠[]):↑m<=↑l:=by
 let d:↑(m.map (·.1))<=↑(l.map (·.1)):=by
  show Kd aC.K λk f=>?_;let(e,b,rfl):=bx.1 f;let(x,g):=aya _ (h e b);show bx.2 ((e.1,x),(aC.R b).mp g,aa)
 simpa using d
theorem lz.a4{m:mw κ eg}{l:#[κ×eg]}(aC:lz m l){e:κ×L×#[eg]}(b:e>m):↑e.2.2<=↑l:=by
 rw[aC.S e b,aV];show qe _ _
end
def fF(H af:ap):Prop:=∀B xs,H B=Y (.R xs)->af B=Y (.R xs)
theorem bA.R(s:bA H af):fF H af:=λB _ e=>s B _ e
theorem fF.K(a:fF H al)(B:fF al aH):fF H aH:=λc xs e=>B c xs<|a c xs e
theorem fF.R(H:ap):fF H H:=λ_ _ e=>e
def wp{u:bF}{a o}(e:H a=Y u)(b:∀xs,u≠.R xs):fF H<|a' H a o:=λB xs q=>(bS<|qi q e λz=>b xs z.symm)▸q
def cf{a o}(d:H a=M):bA H<|a' H a o:=λB u e=>(bS<|fj e d)▸e
structure lA(κ:Type)[i_ κ] where
 K:#[κ×V]->bF
 R:ap->V->κ->Prop
 X:∀{H a aP},H a=Y (K aP)->DR H a
 a2:∀aP xs,K aP≠.R xs
 S:∀{H a aP y k},H a=Y (K aP)->R H y k->iA H a y (fq aP k)
 a0:∀{H a aP y k v},H a=Y (K aP)->R H y k->↑aP<ch->om H a y v (a' H a<|K<|gS aP k v)
 a1:∀{H af y k},fF H af->R H y k->R af y k
theorem Fp{κ b:Type}[i_ κ][i_ b]{kt:κ->b}(inj:∀a B,kt a=kt B->a=B)(k:κ):∀l:#[κ×V],fq (l.map λp=>(kt p.1,p.2)) (kt k)=fq l k
 |[]=>rfl
 |p::r=>by
  rw[fg];by_cases e:p.1=k;.rw[ms e,ms<|by rw[e]]
  .rw[mu e,mu<|λz=>e<|inj _ _ z];show Fp inj k r
theorem Qb{κ h:Type}[i_ κ][i_ h]{kt:κ->h}(inj:∀a B,kt a=kt B->a=B)(k:κ)(v:V)(l:#[κ×V]):gS (l.map λp=>(aZ (kt p.1)<|p.2)) (kt k) v=(gS l k v).map λp=>(aZ (kt p.1)<|p.2):=by
 delta gS;let e:((l.map λp=>(aZ (kt p.1)<|p.2)).any λb=>bp<|b.1=kt k)=l.any λb=>bp<|b.1=k:=by
  rw[agp];congr 1;funext p;change bp (kt p.1=kt k)=_;rw[nr];show(inj _ _,λd=>by rw[d])
 rw[e];split;.rw[dX,dX];show rb λp _=>?_;grind
 .rw[cs];rfl
noncomputable def Qc{κ:Type}[i_ κ](kt:κ->#[ft])(inj:∀a B,kt a=kt B->a=B):lA κ where
 K aP:=.X<|aP.map λp=>(kt p.1,p.2)
 R H y k:=∃B,y=.K B/\eK H B (kt k)
 X e:=bl (_,aQ e)
 a2 _ _:=bF.noConfusion
 S e d:=by
  let(B,rfl,b):=d;rw[<- Fp inj];show iA.R e b
 a0 e d l:=by
  let(B,rfl,b):=d;rw[<- Qb inj];show om.K e b<|by rw[aV];show l
 a1 t d:=by
  let(B,e,b):=d;show(B,e,b.K t)
def Zr{a B}(d:(eZ a:jh)=eZ B):a=B:=Sum.inl.inj d
noncomputable def hX:lA N where
 K aP:=.a1<|aP.map λp=>(eZ p.1,p.2)
 R _ y k:=y=.R k
 X e:=aQ (_,aQ e)
 a2 _ _:=bF.noConfusion
 S{H a aP y k} e d:=by
  subst d;rw[<- Fp (kt:=(eZ:N->jh))<|λ_ _=>Zr];show iA.K (k:=eZ k) e
 a0{H a aP y k v} e d l:=by
  subst d;rw[<- Qb (kt:=(eZ:N->jh))<|λ_ _=>Zr];show om.R (k:=eZ k) e<|by rw[aV];show l
 a1 _ d:=d
noncomputable def ha:lA b_:=Qc gU λ_ _=>Zn
noncomputable def Zs:lA #[N]:=Qc wo λ_ _=>Zo
noncomputable def Fq:lA (N×#[N]):=Qc yB λ_ _=>anS
section
variable{κ eg:Type}[i_ κ][i_ eg]
structure uZ(fU:lA κ)(gm:lA eg)(H:ap)(cC:L->O)(n:O)(ae:L)(l:#[κ×eg])(m:mw κ eg)(o:bs κ):Prop where
 K:H ae=Y (fU.K<|m.map λe=>(e.1,V.K e.2.1))
 S:∀e∈m,H e.2.1=Y (gm.K<|e.2.2.map λk=>(k,V.X J))
 R:lz m l
 X:cC ae=n
 a0:∀e∈m,cC e.2.1=n+1
 a1:(m.map (·.2.1)).Nodup
 a2:∀e∈m,o≠Y e.1->e.2.2≠[]
def ko(fU:lA κ)(gm:lA eg)(H:ap)(cC:L->O)(n:O)(ae:L)(l:#[κ×eg]):Prop:=∃m,uZ fU gm H cC n ae l m M
structure sk(H:ap)(cC:L->O)(af:ap)(nF:L->O)(n:O):Prop where
 R:∀B o,H B=Y o->cC B≠n->cC B≠n+1->af B=Y o
 S:∀B o,H B=Y o->nF B=cC B
 X:∀B,nF B≠cC B->H B=M
 K:fF H af
variable{fU:lA κ}{gm:lA eg}{cC nF:L->O}{n iX:O}{ae:L}{l:#[κ×eg]}{m:mw κ eg}{o:bs κ}
theorem uZ.a4(az:uZ fU gm H cC n ae l m o)(aC:sk H cC af nF iX)(ab:n≠iX)(ag:n≠iX+1)(h:n+1≠iX)(a5:n+1≠iX+1):uZ fU gm af nF n ae l m o where
 K:=aC.R _ _ az.K (az.X▸ab)<|az.X▸ag
 S e b:=aC.R _ _ (az.S e b) ((az.a0 e b)▸h)<|(az.a0 e b)▸a5
 R:=az.R
 X:=by rw[aC.S _ _ az.K,az.X]
 a0 e b:=by rw[aC.S _ _<|az.S e b,az.a0 e b]
 a1:=az.a1
 a2:=az.a2
theorem ko.K(az:ko fU gm H cC n ae l)(aC:sk H cC af nF iX)(ab:autoParam (n≠iX) r_1)(ag:autoParam (n≠iX+1) r_1)(b:autoParam (n+1≠iX) r_1)(h:autoParam (n+1≠iX+1) r_1):ko fU gm af nF n ae l:=by
 let(m,az):=az;show(m,az.a4 aC ab ag b h)
theorem ko.R(az:ko fU gm H cC n ae l)(s:bA H af):ko fU gm af cC n ae l:=by
 let(m,az):=az;show(m,s _ _ az.K,λe b=>s _ _<|az.S e b,az.R,az.X,az.a0,az.a1,az.a2)
theorem Fs{m:mw κ eg}(h:(m.map (·.1)).Nodup){e:κ×L×#[eg]}(b:e>m):fq (m.map λe=>(e.1,V.K e.2.1)) e.1=Y (.K e.2.1):=by
 induction m with
 |nil=>cases b
 |cons a r f=>
  rw[fg];let(ab,ag):=f_.1 h;let z||z:=cc.1 b;.simp_all [ms]
  .rw[mu<|λq=>ab<|by change a.1>_;rw[q];show bx.2 (e,z,aa)];show f ag z
theorem Qd{m:mw κ eg}{k:κ}(d:k∉m.map (·.1)):fq (m.map λe=>(e.1,V.K e.2.1)) k=M:=by
 delta fq;rw[Option.map_eq_none_iff,s'];intro p b;let(e,f,rfl):=bx.1 b;rw[rR];show λz=>d<|z▸bx.2 (e,f,aa)
theorem Qe(x:κ)(bu:#[κ]):fq (bu.map λk=>(k,V.X J)) x=if x>bu then Y (.X J)else M:=by
 induction bu with
 |nil=>rfl
 |cons k r b=>
  rw[fg];by_cases e:k=x;.rw[ms e,bK<|by rw[e];show(cp _)]
  .rw[mu e,b];grind
theorem Qf{aP:#[κ×V]}{k:κ}{v:V}(d:fq aP k=M):gS aP k v=aP++[(k,v)]:=by
 delta gS;simp_all [uP]
structure ty(fU:lA κ)(gm:lA eg)(H:ap)(cC:L->O)(n:O)(ae:L)(l:#[κ×eg])(k:κ)(a:L):Prop where
 K:∃m b,uZ fU gm H cC n ae l m (Y k)/\(k,a,b)>m
theorem ko.S{Q:V->ap->Prop}{y:V}{k:κ}{p:L}(az:ko fU gm H cC n ae l)(a1:fU.R H y k)(h:H p=M)(a3:gm.K []=.X [])(a4:↑l<ch)
 (d:∀af nF a,ty fU gm af nF n ae l k a->sk H cC af nF n->Q (.K a) af):
  ∃o,iA (a' H p<|.X []) ae y o/\(∀v,o=Y v->Q v (a' H p<|.X []))/\(o=M->∃a2,om (a' H p<|.X []) ae y (.K p) a2/\Q (.K p) a2):=by
 let(m,az):=az;let fv:bA H<|a' H p<|.X []:=cf h;show(_,fU.S (fv _ _ az.K)<|fU.a1 fv.R a1,λv f=>?_,λf=>?_)
 .by_cases g:k>m.map (·.1);.let(e,b,rfl):=bx.1 g;rw[Fs az.R.K b]at f;cases f;show d _ cC _ (m,e.2.2,(fv _ _ az.K,λe b=>fv _ _<|az.S e b,az.R,az.X,az.a0,az.a1,λe b _=>az.a2 e b<|λz=>nomatch z),b) (λB o e _ _=>fv _ _ e,λ_ _ _=>rfl,λ_ z=>bB aa z,fv.R)
  .rw[Qd g]at f;cases f
 .exists w;let g:k∉m.map (·.1):=λg=>by
   let(e,b,rfl):=bx.1 g;rw[Fs az.R.K b]at f;cases f
  let j:=fj az.K h;let hx:↑(m.map λe=>(aZ (e.1)<|V.K e.2.1))<ch:=by
   rw[aV];show kF (az.R.a3 λe b=>az.a2 e b<|λz=>nomatch z) a4
  show w (_,fU.a0 (fv _ _ az.K) (fU.a1 fv.R a1) hx,?_);rw[Qf<|Qd g];let i:=λe b=>fj (az.S e b) h;let ad:∀e∈m,e.2.1≠ae:=λe b z=>by
   let ab:=az.a0 e b;rw[z,az.X]at ab;lia
  show d _ (λB=>if B=p then n+1 else cC B) p (m++[(aZ k<|aZ p [])],[],(?_,λe b=>?_,az.R.a2 g,?_,λe b=>?_,?_,λe b x=>?_),List.mem_concat_self) (λB o e ab ag=>?_,λB o e=>?_,λB z=>?_,λB xs e=>?_);.rw[bG,cs];rfl
  .let z||z:=du.1 b;.rw[bS<|ad e z,bS<|i e z];show az.S e z
   .have:=‹z›
    subst this;rw[bS j.symm,bG];show dP Y a3.symm
  .rw[be j,az.X]
  .let z||z:=du.1 b;.rw[be<|i e z,az.a0 e z]
   .have:=‹z›
    subst this;rw[bK aa]
  .rw[cs];show pm az.a1 λz=>by
    let(e,b,q):=bx.1 z;show i e b q
  .let z||z:=du.1 b;.show az.a2 e z<|λz=>nomatch z
   .have:=‹z›
    subst this;show bB aa x
  .rwa [bS<|λz=>ab<|by rw[z,az.X],bS<|fj e h]
  .show be<|fj e h
  .by_cases q:B=p;.rwa [q]
   .show bB (be q) z
  .rwa [bS<|qi e az.K λz=>fU.a2 _ _ z.symm,bS<|fj e h]
theorem ty.R{k:κ}{a:L}{x:eg}{y:V}(ct:ty fU gm H cC n ae l k a)(h:gm.R H y x):iA H a y<|if(k,x)>l then Y (.X J)else M:=by
 let(m,e,az,b):=ct.K;have:=gm.S (az.S _ b) h;rw[Qe]at this;let q:=(az.R.R b (x:=x));grind
theorem uZ.a3{k}(az:uZ fU gm H cC n ae l m<|Y k)(h:e>m)(a5:e.1=k)(a6:e.2.2≠[]):ko fU gm H cC n ae l:=
 (m,az.K,az.S,az.R,az.X,az.a0,az.a1,λf b _=>by
  by_cases q:f.1=k;.have:=Zp az.R.K b h<|q.trans a5.symm;rwa [this]
  .show az.a2 f b λz=>q (hq z).symm)
theorem ty.S{k:κ}{a:L}{x:eg}(ct:ty fU gm H cC n ae l k a)(h:(k,x)>l):ko fU gm H cC n ae l:=by
 let(m,e,az,b):=ct.K;show az.a3 b aa λz=>by
  have:=(az.R.R b).mpr h;grind
theorem ty.X{k:κ}{a:L}{x:eg}{y:V}(ct:ty fU gm H cC n ae l k a)(a2:gm.R H y x)(a1:(aZ k x)∉l)(a3:↑l<ch):
  ∃af,om H a y (.X J) af/\ko fU gm af cC n ae (l++[(aZ k x)])/\sk H cC af cC n:=by
 let(m,h,az,b):=ct.K;show(_,gm.a0 (az.S _ b) a2<|by rw[aV];show kF (az.R.a4 b) a3,?_,λB o e ab ag=>?_,λ_ _ _=>rfl,λ_ z=>bB aa z,λB xs e=>?_)
 .rw[Qf<|by rw[Qe,be<|λz=>a1<|(az.R.R b).mp z]];let ea:(h.map λk=>(aZ k<|V.X J))++[(aZ x<|V.X J)]=(h++[x]).map λk=>(aZ k<|V.X J):=by rw[cs];rfl
  rw[ea];let p:ae≠a:=λz=>by
   let ab:=az.a0 _ b;rw[<- z,az.X]at ab;lia
  let aC:uZ fU gm (a' H a<|gm.K<|(h++[x]).map λk=>(aZ k<|V.X J)) cC n ae (l++[(aZ k x)]) (uX m k x)<|Y k:=by
   show(?_,λe i=>?_,az.R.a1 (bx.2 (_,b,aa)) a1,az.X,λe i=>?_,?_,λe i j=>?_);.rw[bS p,az.K];delta uX;rw[dX];congr 2;show rb λe _=>?_;change _=(aZ ((if e.1=k then _ else e).1)<|V.K (if e.1=k then _ else e).2.1);split<;>rfl
   .let(f,g,rfl):=bx.1 i;by_cases q:f.1=k;.have:=Zp az.R.K g b q;subst this;rw[bK aa];show bG
    .rw[be q];rw[bS λz=>q (dP (·.1)<|anT az.a1 g b z),az.S f g]
   .let(f,g,rfl):=bx.1 i;have:=az.a0 f g;split;.show this
    .show this
   .rw[anU];show az.a1
   .let(f,g,rfl):=bx.1 i;by_cases q:f.1=k;.rw[bK q]at j;show bB (dP Y q.symm) j
    .rw[be q];show az.a2 f g λz=>q (hq z).symm
  have:(aZ k<|aZ a<|h++[x])>uX m k x:=bx.2 (_,b,bK aa);show aC.a3 this aa<|List.concat_ne_nil x h
 .rwa [bS<|λz=>ag<|by rw[z];show az.a0 _ b]
 .rwa [bS<|qi e (az.S _ b) λz=>gm.a2 _ _ z.symm]
end
def Zt{p d c l qR mG s B}:↑(uV p m d c l qR mG s B)<1000:=by
 change 9<1000;decide
def ps{a}(d:H a=Y (.K xs)):DC aAv "list" (.K a) H:=aQ (aa,xs,aQ<|aQ d)
def mX{a B:V}:↑[a,B]<=ch:=by
 change 2<=ch;decide
structure cn where
 a1:L
 a2:N
 K:#[b_×b_]
 R:#[N×#[N]]
 a0:#[b_×b_]
 S:#[b_×N×#[N]]
 X:#[b_×b_]
def yC(H:ap)(f:b_×b_)(p:L):Prop:=∃c s,H p=Y (.R [.K c,.K s])/\eK H c (gU f.1)/\eK H s (gU f.2)
theorem yC.K{H af:ap}{f p}(x:yC H f p)(d:fF H af):yC af f p:=by
 let(c,s,aB,b,e):=x;show(c,s,d _ _ aB,b.K d,e.K d)
structure wq(an H:ap)(t:L)(T:cn)(i j:N)(cC:L->O)(cb cl cS de w:L)(dg:#[L]):Prop where
 a2:bA an H
 K:lX aAA H t<|uV (.K T.a1) (.R T.a2) (.K cb) (.K cl) (.K cS) (.K de) (.K w) (.R i)<|.R j
 R:H w=Y (.K<|dg.map V.K)
 a0:eq (yC H) T.X dg
 S:cC t=1
 X:cC w=2
 a1:∀B,cC B≠0->an B=M
structure ny(an H:ap)(t:L)(T:cn)(i j:N)(cC:L->O)(cb cl cS de w:L)(dg:#[L]):Prop where
 K:wq an H t T i j cC cb cl cS de w dg
 R:ko ha ha H cC 3 cb T.K
 S:ko hX Zs H cC 5 cl T.R
 X:ko ha ha H cC 7 cS T.a0
 a0:ko ha Fq H cC 9 de T.S
inductive dR(an H:ap)(t:L)(T:cn):Prop|mk(cC cb cl cS de w dg):ny an H t T ↑T.K ↑T.R cC cb cl cS de w dg->dR an H t T
section
variable{t:L}{T bd:cn}{i j:N}{cC nF:L->O}{cb cl cS de w:L}{dg:#[L]}
theorem wq.a3(x:wq an H t T i j cC cb cl cS de w dg){n}(aC:sk H cC af nF n)(b:3<=n):wq an af t T i j nF cb cl cS de w dg where
 a2 B o e:=aC.R B o (x.a2 B o e) (λz=>nomatch (x.a1 B<|by lia).symm.trans e)<|λz=>nomatch (x.a1 B<|by lia).symm.trans e
 K:=by
  let(aG,e):=x.K;show(aG,aC.R _ _ e (by rw[x.S];lia)<|by rw[x.S];lia)
 R:=aC.R _ _ x.R (by rw[x.X];show ie b)<|by rw[x.X];show W.ktu_ne 1 b
 a0:=lp x.a0 λ_ _ z=>z.K aC.K
 S:=by
  let(aG,e):=x.K;rw[aC.S _ _ e,x.S]
 X:=by rw[aC.S _ _ x.R,x.X]
 a1 B d:=by
  by_cases q:nF B=cC B;.show x.a1 B<|q▸d
  .show x.a2.S<|aC.X B q
theorem wq.a4(x:wq an H t T i j cC cb cl cS de w dg)(s:bA H af):wq an af t T i j cC cb cl cS de w dg where
 a2:=x.a2.K s
 K:=let(aG,e):=x.K;(aG,s _ _ e)
 R:=s _ _ x.R
 a0:=lp x.a0 λ_ _ z=>z.K s.R
 S:=x.S
 X:=x.X
 a1:=x.a1
theorem ny.a1(x:ny an H t T i j cC cb cl cS de w dg)(s:bA H af):ny an af t T i j cC cb cl cS de w dg:=(x.K.a4 s,x.R.R s,x.S.R s,x.X.R s,x.a0.R s)
theorem dR.R(x:dR an H t T)(s:bA H af):dR an af t T:=by
 let(cC,cb,cl,cS,de,w,dg,x):=x;show(cC,cb,cl,cS,de,w,dg,x.a1 s)
theorem dR.S(x:dR an H t T):bA an H:=by
 let(cC,cb,cl,cS,de,w,dg,x):=x;show x.K.a2
theorem dR.a2(x:dR an H t T){B}(d:H B=M):an B=M:=x.S.S d
theorem dR.a5(x:dR al H t T)(s:bA an al):dR an H t T:=by
 let(cC,cb,cl,cS,de,w,dg,x):=x;show(cC,cb,cl,cS,de,w,dg,(s.K x.K.a2,x.K.K,x.K.R,x.K.a0,x.K.S,x.K.X,λB d=>s.S<|x.K.a1 B d),x.R,x.S,x.X,x.a0)
theorem Zu{u:bF}{B o}(h:cC B=1∨cC B=2)(e:H B=Y u)(b:∀xs,u≠.R xs):sk H cC (a' H B o) cC 1 where
 R c o e ab ag:=by
  rwa [bS λz=>by subst z;lia]
 S _ _ _:=aa
 X _ z:=bB aa z
 K:=wp e b
theorem ny.a2(x:ny an H t T i j cC cb cl cS de w dg){aG ah}(e:H t=Y (.S aAA aG ah)):ny an (a' H t<|.S aAA aG<|uV (.K T.a1) (.R T.a2) (.K cb) (.K cl) (.K cS) (.K de) (.K w) (.R BK)<|.R BP) t T BK BP cC cb cl cS de w dg:=by
 let aC:sk H cC (a' H t<|.S aAA aG<|uV (.K T.a1) (.R T.a2) (.K cb) (.K cl) (.K cS) (.K de) (.K w) (.R BK)<|.R BP) cC 1:=Zu (aQ x.K.S) e λ_=>bF.noConfusion;let b:∀B o,an B=Y o->B≠t:=λB o e z=>by
  have:=x.K.a1 t (by rw[x.K.S];decide);grind
 show((λB o e=>?_,(aG,bG),?_,lp x.K.a0 λ_ _ z=>z.K aC.K,x.K.S,x.K.X,x.K.a1),x.R.K aC,x.S.K aC,x.X.K aC,x.a0.K aC);.rw[bS<|b B o e];show x.K.a2 B o e
 .rw[bS λz=>by have:=x.K.X;rw[z,x.K.S]at this;cases this];show x.K.R
theorem ny.a3(x:ny an H t T i j cC cb cl cS de w dg){b}(d:eq (yC H) W b):ny an (a' H w<|.K<|b.map V.K) t {T with X:=W} i j cC cb cl cS de w b:=by
 let aC:sk H cC (a' H w<|.K<|b.map V.K) cC 1:=Zu (bl x.K.X) x.K.R λ_=>bF.noConfusion;let f:∀B o,an B=Y o->B≠w:=λB o e z=>by
  have:=x.K.a1 w (by rw[x.K.X];decide);grind
 let(aG,e):=x.K.K;show((λB o e=>?_,(aG,?_),bG,lp d λ_ _ z=>z.K aC.K,x.K.S,x.K.X,x.K.a1),x.R.K aC,x.S.K aC,x.X.K aC,x.a0.K aC);.rw[bS<|f B o e];show x.K.a2 B o e
 .rw[bS λz=>by have:=x.K.X;rw[<- z,x.K.S]at this;cases this];show e
end
section
variable{t:L}{T bd:cn}{i j:N}{cC nF:L->O}{cb cl cS de w:L}{dg:#[L]}
theorem ny.a4{p c s}(x:ny an H t T i j cC cb cl cS de w dg)(a5:H p=M)(a6:eK H b<|gU c)(aw:eK H h<|gU s)(z:↑T.X<ch):
  (a' H p<|.R [.K b,.K h]) w=Y (.K<|dg.map V.K)/\↑(dg.map V.K)<ch/\fF H (a' (a' H p<|.R [.K b,.K h]) w<|.K<|dg.map V.K++[.K p])/\
  ny an (a' (a' H p<|.R [.K b,.K h]) w<|.K<|dg.map V.K++[.K p]) t {T with X:=T.X++[(c,s)]} i j cC cb cl cS de w (dg++[p]):=by
 let fv:bA H<|a' H p<|.R [.K b,.K h]:=cf a5;let y:=x.a1 fv;show(y.K.R,?_,fv.R.K<|wp y.K.R λ_=>bF.noConfusion,?_);.rwa [aV,<- x.K.a0.length]
 .let mG:yC (a' H p<|.R [.K b,.K h]) (c,s) p:=(b,h,bG,a6.K fv.R,aw.K fv.R);have:=y.a3<|y.K.a0.snoc mG;rw[cs]at this;show this
end
noncomputable def cn.a3(T:cn)(c s:b_):cn:=if(c,s)>T.K then T else{T with K:=T.K++[(c,s)],X:=T.X++[(c,s)]}
inductive Zv(vs:#[V])(H:ap)(Q:ca):Prop|mk(an:ap)(t b h:L)(T:cn)(c s:b_):(vs=[.K t,.K b,.K h])->(dR an H t T)->(eK H b<|gU c)->(eK H h<|gU s)->(↑T.K<ch)->(↑T.X<ch)->(∀af,fF H af->dR an af t (T.a3 c s)->Q .a0 af)->Zv vs H Q
def Zw:cq:=λvs H Q _=>Zv vs H Q
def anV[ci]:eD bH 1 aAA "put" ["self","cell","sort"] Zw:=by
 show aBR.K aAS.K ["self","cell","sort","sorts"] λz H vs Q au a1 d aD=>?_
 .let(an,t,a2,a3,b,c,j,rfl,x,U,aw,V,a4,k):=d;let l:=lw a1;show(_,ba (ji (i:=3) aD aa (aQ aa)<|DW l (f' aAS.K aAS.X<|aK 0) (aK 1) pl (aa,aa,aa,aa))
  <|a_<|dF (lS<|AA l (aK 2)<|aK 3) (ba (sh l (aK 3) (aK 2) td aa)<|ba (XW aAS.K aAS.a5 (aK 0) cm)
   <|a_<|cw<|tk pf v' zX Ax (f' aAS.K aAS.S<|aK 0)<|ak (es<|ak (aK 1)<|ak (aK 2) aF) aF) d_,?_);exists a5;let(cC,cb,cl,cS,de,w,dg,x):=x;let(b1,a6):=id x.R;show a5 (_,aa,t,_,_,aa,x.K.K,aa,cb,aa,ha.X a6.K,_,aa,λp m=>x.R.S (a2,aa,U) m aa V λal q a ct f=>?_);let a0:=ha.a1 f.K (a3,aa,aw);show(_,aa,_,aa,a,_,aa,ct.R a0,_,aa,?_);by_cases g:(aZ c j)>b.K;.rw[bK g];show rk<|k _ f.K ?_;delta cn.a3;rw[bK g];show(q,cb,cl,cS,de,w,dg,x.K.a3 f ⋯,ct.S g,x.S.K f,x.X.K f,x.a0.K f)
  .rw[be g];show lx ?_;let(aH,eG,a7,h):=ct.X a0 g V;let y:ny an aH t {b with K:=b.K++[(aZ c j)]} ↑b.K ↑b.R q cb cl cS de w dg:=by
    let z:=(x.K.a3 f ⋯).a3 h ⋯;show((z.a2,z.K,z.R,z.a0,z.S,z.X,z.a1),a7,(x.S.K f).K h,(x.X.K f).K h,(x.a0.K f).K h)
   let(aG,v):=y.K.K;show(_,aa,_,aa,a,aH,aa,eG,(_,aa,t,_,_,aa,y.K.K,aa,_,aG,_,aa,v,Zt,?_));rw[amQ];let A:=y.a2 (BK:=(↑b.K:N)+1) (BP:=↑b.R) v;let T:=(f.K.K h.K).K<|wp (o:=.S aAA aG<|uV (.K b.a1) (.R b.a2) (.K cb) (.K cl) (.K cS) (.K de) (.K w) (.R<|(↑b.K:N)+1)<|.R ↑b.R) v λ_=>bF.noConfusion;show(_,aa,t,_,_,aa,A.K.K,aa,ps A.K.R,_,aa,_,aa,mX,λp m=>?_);let(a8,a9,b0,b2):=A.a4 m (U.K T) (aw.K T) a4;show(w,_,.K p,aa,aa,a8,a9,k _ (T.K b0) ?_);delta cn.a3;rw[be g];show(q,cb,cl,cS,de,w,dg++[p],?_);let e:((↑(b.K++[(aZ c j)]):O):N)=(↑b.K:N)+1:=by rw[cW];rfl
   rwa [e]
section
variable{eR:fs}
def anW{t dU b bQ}(h:oU s.heap t b)(aw:s.heap.IsSliceOf dU a2 a3 go)(a4:sH a2 bQ)(a5:sH a3 aR)
 (a1:dn b.size 0 bQ=0/\dn b.size b.size aR=b.size)(d:Q (I t) s):bP (b' eR w) A (rF (I t)<|I dU) Q au s:=by
 let(os,e,f,i):=id aw;delta rF;try with_reducible show qb ?_
 first|show bq<|c_ ?_|skip
 show bq<|agg h.typeIs ⋯<|bq<|zD h.typeIs uy
 <|rS uy h.typeIs awm ?_<|awn _ _;change bP _ _ (afC (I t)>>=_) _ _ s;show bq<|tupleItemsOf_ h<|bq<|agh ((os,e,f)) ?_;rw[bK ⋯];show bq<|VF aw a4 a5 ?_;let g:((((dn b.size 0 bQ:O):N)==0&&(1:N)==1&&(dn b.size b.size aR - dn b.size 0 bQ)==b.size)=J):=by
  rw[a1.1,a1.2];simp
 change bP _ _ (if(((dn b.size 0 bQ:O):N)==0&&(1:N)==1&&(dn b.size b.size aR - dn b.size 0 bQ)==b.size)=J then _ else _) _ _ s;rw[bK g];show bq<|bq<|agh h.typeIs<|c_ ?_;rw[bK ⋯];show bq<|Tl<|c_ (_,aa,c_ d)
variable{C:bW}
inductive Zx(x:V)(bQ:bs N)(aR:bs N)(H:ap)(Q:ca):Prop|mk(a:_)(xs:_):(x=.K a)->(lT aAv H a xs)->(((dn ↑xs 0 bQ=0/\dn ↑xs ↑xs aR=↑xs)->Q (.K a) H))->((¬(dn ↑xs 0 bQ=0/\dn ↑xs ↑xs aR=↑xs)->∀p,H p=M->Q (.K p) (a' H p<|.R<|rh xs bQ aR)))->Zx x bQ aR H Q
def AR:V->bs N->bs N->ap->ca->Prop:=λx bQ aR H Q=>Zx x bQ aR H Q
def AS:Au C AR:=by
 intro am s D H x v j l bQ aR dU Q e bC aw f g d;let(a,xs,rfl,h,m,o):=d;by_cases b:dn ↑xs 0 bQ=0/\dn ↑xs ↑xs aR=↑xs;.cases bC;let(bh,r,i,hz):=e.b2 h;show("tuple",_,uy.lookup,i.typeIs,anW i aw f g ((jw▸r.length.symm)▸b) (.K a,H,e,aa,m b))
 .show ajv am s D H _ v j l bQ aR dU Q e bC aw f g (a,xs,aa,h,b,o b)
end
def hl(H:ap)(B:L)(s:#[N]):Prop:=H B=Y (.R<|s.map V.R)
theorem anX:∀{s vs},eq (wc H) (wo s) vs->vs=s.map V.R:=by
 intro s
 induction s with
 |nil=>intro _ d;cases d;rfl
 |cons i s b=>
  intro _ d
  cases d with|cons x r=>rw[fg,<- b r,show _=_ from x];rfl
theorem Zy{H:ap}:∀s:#[N],eq (wc H) (wo s) (s.map V.R)|[]=>ed|i::s=>eS (aa)<|Zy s
def anZ{B s}:eK H B (wo s)↔hl H B s:=by
 constructor;.rintro⟨vs,e,r⟩;rw[anX r]at e;show e
 .intro e;show(_,e,Zy s)
theorem Ft(s:#[N]):(s.map (eZ:N->jh)).map og=s.map V.R:=by
 rw[dX];rfl
def pt{B x}:eK H B (gU x)↔∃c,H B=Y (.R [.R x.1,.R x.2.1,.K c])/\hl H c x.2.2:=by
 let(g,l,s):=x;constructor
 .rintro⟨vs,e,r⟩
  cases r with
  |cons f r=>
   cases r with
   |cons h r=>
    cases r with
    |cons i r=>
     cases r;let(c,rfl,b):=i;rw[Ft]at b;cases(f);cases(h);show(c,e,b)
 .rintro⟨c,e,b⟩;show(_,e,eS aa<|eS aa<|eS (c,aa,?_) ed);rwa [Ft]
def Qg{B x}:eK H B (yB x)↔∃c,H B=Y (.R [.R x.1,.K c])/\hl H c x.2:=by
 let(l,s):=x;constructor
 .rintro⟨vs,e,r⟩
  cases r with
  |cons f r=>
   cases r with
   |cons g r=>
    cases r;let(c,rfl,b):=g;rw[Ft]at b;cases(f);show(c,e,b)
 .rintro⟨c,e,b⟩;show(_,e,eS aa<|eS (c,aa,?_) ed);rwa [Ft]
theorem hl.K{B s}(x:hl H B s)(d:fF H af):hl af B s:=d _ _ x
def fb{a}(d:H a=Y (.R xs)):lT aAv H a xs:=aQ<|aQ d
def bZ{a}(d:H a=Y (.K xs)):fa aAv H a xs:=aQ<|aQ d
inductive ZA(vs:#[V])(H:ap)(Q:ca):Prop|mk(i:N)(B:L)(n:O)(s:#[N]):(vs=[.R i,.K B,.R n])->(hl H B s)->(↑s<100)->(∀af p,bA H af->hl af p ((i::s).take n)->Q (.K p) af)->ZA vs H Q
def Qh:cq:=λvs H Q _=>ZA vs H Q
def ZB[ci]:cX bH 1 "string_within" ["site","string","most"] Qh:=by
 show aCV.K ["site","string","most"] λz H vs Q au o d aD=>?_
 .let(i,B,n,st,rfl,j,v,k):=d;show(_,a_<|cy<|uH AS (Am ajx (es<|ak (aK 0) aF)<|aK 1) yl<|sd<|aK 2,(_,aa,(show 1<=ch by decide),λp l=>(_,aa,p,B,[.R i],st.map V.R,aa,aa,fb bG,?_,(λz=>(by cases z)),?_,?_)));all_goals let fv:bA H<|a' H p<|.R [.R i]:=cf l
  .show fb<|fv _ _ j
  .rw[aV];change 1+↑st<=ch;have:101<=ch:=⋯
   lia
  .let f:∀al q,bA H al->al q=Y (.R<|(i::st).map V.R)->AR (.K q) M (Y (n:N)) al Q:=λal q g e=>by
    show(q,_,aa,fb e,λh=>?_,λh r b=>?_);.let m:=h.2;rw[sc,aV]at m;show k al q g ?_;rwa [xA<|by lia]
    .show k _ r (g.K<|cf b) ?_;delta hl;rw[bG];delta rh;rw[KW,sc,ayb,ul,<- tb,aV];congr 3;rw[List.take_eq_take_iff];lia
   show(λz=>(_,aa,_,aa,f _ p fv ?_),λz r b=>(_,aa,_,aa,f _ r (fv.K<|cf b) bG));rw[ayc.1 z];show bG
def ZC[ci]:cX bH 1 "sort_order" ["sort"] yv:=by
 show aCW.K ["sort"] λz H vs Q au i d aD=>?_;.let(B,b,l,st,rfl,g,k):=d;let(c,e,h):=pt.1 (show eK H B (gU (b,l,st))from g);show(_,a_<|cy<|es<|ak (Kt<|UC (fW kR (aK 0) cm<|λ_ _=>rfl)<|cH HI)<|ak (fW kR (aK 0) cm<|λ_ _=>rfl)<|ak (fW kR (aK 0) cm<|λ_ _=>rfl) aF,(_,aa,B,_,0,.R b,aa,aa,fb e,aa,b,0,aa,aa,_,aa,B,_,1,.R l,aa,aa,fb e,aa,_,aa,B,_,2,.K c,aa,aa,fb e,aa,(show 3<=ch by decide),λp f=>k _ p c (cf f) ?_<|cf f _ _ h));rw[bG,bne,Bool.beq_eq_decide_eq]
section
variable{κ eg:Type}[i_ κ][i_ eg]{fU:lA κ}{gm:lA eg}{cC:L->O}{n:O}{ae:L}{l:#[κ×eg]}
noncomputable def dG(l:#[κ×eg])(k:κ):#[eg]:=(l.filter λp=>bp<|p.1=k).map (·.2)
theorem iB{l:#[κ×eg]}{k:κ}{x:eg}:x>dG l k↔(k,x)>l:=by
 delta dG;simp_all
def wr(l:#[κ×eg])(k:κ):↑(dG l k)<=↑l:=by
 delta dG;rw[aV];show qe _ _
set_option tactic.hygienic true in
def ws{l:#[κ×eg]}(d:l.Nodup)(k:κ):(dG l k).Nodup:=by
 induction l with
 |nil=>show lP
 |cons p r b=>
  let(ab,ag):=f_.1 d;let e:dG (p::r) k=if p.1=k then p.2::dG r k else dG r k:=by
   delta dG;grind
  rw[e];split;.rename_i q;show f_.2 (λz=>ab<|by have:=iB.1 z;rw[<- q]at this;show this,b ag)
  .show b ag
theorem ko.X{y:V}{k:κ}{p:L}(az:ko fU gm H cC n ae l)(h:fU.R H y k)(a1:H p=M)(a2:gm.K []=.X []):
  ∃o a,iA (a' H p<|.X []) ae y o/\o.getD (.K p)=.K a/\a' H p (.X []) a=Y (gm.K<|(dG l k).map λk=>(k,V.X J)):=by
 let(m,az):=az;let fv:bA H<|a' H p<|.X []:=cf a1;by_cases b:k>m.map (·.1)
 .let(e,f,rfl):=bx.1 b;show(_,e.2.1,fU.S (fv _ _ az.K)<|fU.a1 fv.R h,?_,?_);.rw[Fs az.R.K f];rfl
  rw[fv _ _<|az.S e f];congr 2;rw[az.R.S e f];rfl
 .show(_,p,fU.S (fv _ _ az.K)<|fU.a1 fv.R h,?_,?_);.rw[Qd b];rfl
  rw[bG];have:dG l k=[]:=by
   rw[List.eq_nil_iff_forall_not_mem];intro x g;show b<|az.R.all _<|iB.1 g
  simp_all
end
noncomputable def cn.a4(T:cn)(f:N)(s:#[N]):cn:={T with R:=T.R++[(f,s)]}
inductive ZD(vs:#[V])(H:ap)(Q:ca):Prop|mk(an:ap)(t B:L)(T:cn)(f:N)(s:#[N]):(vs=[.K t,.R f,.K B])->(dR an H t T)->(hl H B s)->(↑T.R<ch)->((∀af,fF H af->(f,s)>T.R->dR an af t T->Q (.X aX) af))->((∀af,fF H af->(f,s)∉T.R->dR an af t (T.a4 f s)->Q (.X J) af))->ZD vs H Q
def ZF:cq:=λvs H Q _=>ZD vs H Q
structure aoa(H:ap)(b:#[b_])(bv:#[b_×L]):Prop where
 R:∀p∈bv,eK H p.2 (gU p.1)
 K:(bv.map ek).Perm b
 S:bv.Pairwise λp q=>(gB q.1).K (gB p.1)=aX
inductive ZG(vs:#[V])(H:ap)(Q:ca):Prop|mk(an:ap)(t b:L)(T:cn)(c:b_):(vs=[.K t,.K b])->(dR an H t T)->(eK H b<|gU c)->(∀af l bv,bA H af->H l=M->af l=Y (.K<|bv.map λp=>V.K p.2)->aoa af (dG T.K c) bv->Q (.K l) af)->ZG vs H Q
def aob:cq:=λvs H Q _=>ZG vs H Q
def aoc[ci]:eD bH 1 aAA "mark_come_to" ["self","fun","string"] ZF:=by
 show aBS.K aAS.K ["self","fun","string","strings"] λz H vs Q au T d aD=>?_
 .let(an,t,B,f,j,st,rfl,x,U,v,V,a0):=d;let l:=lw T;show(_,ba (ji (i:=3) aD aa (aQ aa)<|DW l (f' aAS.K aAS.a2<|aK 0) (aK 1) pl (aa,aa,aa,aa))
  <|ba (dF (lS<|akt l (aK 2)<|aK 3) (a_<|cy td) d_)<|ba (sh l (aK 3) (aK 2) td aa)<|ba (XW aAS.K aAS.a1 (aK 0) cm)<|a_<|cy td,?_);exists a1;let(cC,cb,cl,cS,de,w,dg,x):=x;let(a3,m):=id x.S;show a1 (_,aa,t,_,_,aa,x.K.K,aa,cl,aa,hX.X m.K,_,aa,λp a2=>x.S.S aa a2 aa v λal o a ct b=>?_);let A:Zs.R al (.K B) st:=(B,aa,anZ.2<|U.K b.K);show(_,aa,_,aa,a,_,aa,ct.R A,_,aa,?_);by_cases g:(aZ j st)>f.R;.rw[bK g];show lx<|V _ b.K g (o,cb,cl,cS,de,w,dg,x.K.a3 b ⋯,x.R.K b,ct.S g,x.X.K b,x.a0.K b)
  .rw[be g];show rk ?_;let(aH,eG,m,h):=ct.X A g v;let y:ny an aH t (f.a4 j st) ↑f.K ↑f.R o cb cl cS de w dg:=by
    let z:=(x.K.a3 b ⋯).a3 h ⋯;show((z.a2,z.K,z.R,z.a0,z.S,z.X,z.a1),(x.R.K b).K h,m,(x.X.K b).K h,(x.a0.K b).K h)
   let(aG,q):=y.K.K;show(_,aa,_,aa,a,aH,aa,eG,_,aa,t,_,_,aa,y.K.K,aa,_,aG,_,aa,q,Zt,a0 _ ((b.K.K h.K).K<|wp q λ_=>bF.noConfusion) g (o,cb,cl,cS,de,w,dg,?_));let e:((↑(f.a4 j st).R:O):N)=(↑f.R:N)+1:=by
    change((↑(f.R++[(aZ j st)]):O):N)=_;rw[cW];rfl
   rw[e];show(y.a2 q)
def Qi[ci]:eD bH 4 aAA "sorts_at" ["self","cell"] aob:=by
 let(_,b,i):=ZC.R;show aBT.K aAS.K ["self","cell"] λz H vs Q au g d aD=>?_
 .let(an,t,j,m,c,rfl,x,q,k):=d;let((dv,aC,v),a4):=i;show(_,a_<|cy<|Xt aa aC g v aa aBa (ak (DS (lw g) (f' aAS.K aAS.X<|aK 0) (aK 1) pl (aa,aa,aa,aa)) aF)<|Vt (tv b) Vs,?_);exists A;let(cC,cb,cl,cS,de,w,dg,x):=x;let(a5,T):=id x.R;show A (_,aa,t,_,_,aa,x.K.K,aa,cb,aa,ha.X T.K,_,aa,λp f=>?_);let(o,a,U,e,aB):=x.R.X (j,aa,q) f aa;show(o,U,?_);rw[e];show(a,_,dG m.K c,aa,aa,aQ aB,?_,λl bv af st=>?_);.rw[dX,dX];rfl
  .let(h,V,a0,a1,a2,a3):=st;let b:bA H<|a' H p<|.X []:=cf f;show k af l bv (b.K h) (b.S V) a0 (λp f=>(a1 p f).K h.R,a2,a3)
section
variable{t:L}{T bd:cn}
theorem dR.a3{B o}(x:dR an H t T)(s:bA H af)(h:H B=M)(e:af B=Y o):dR (a' an B o) af t T:=by
 let(cC,cb,cl,cS,de,w,dg,x):=x;let y:=x.a1 s;let(aG,i):=x.K.K;let eb:∀c u,H c=Y u->(if c=B then 0 else cC c)=cC c:=λc u e=>be<|fj e h;let b:∀{κ eg:Type}[i_ κ][i_ eg]{fU:lA κ}{gm:lA eg}{n:O}{ae:L}{l:#[κ×eg]},ko fU gm H cC n ae l->ko fU gm af (λc=>if c=B then 0 else cC c) n ae l:=λaz=>by
  let(m,az):=az;show(m,s _ _ az.K,λe f=>s _ _<|az.S e f,az.R,(eb _ _ az.K).trans az.X,λe f=>(eb _ _<|az.S e f).trans<|az.a0 e f,az.a1,az.a2)
 show(λc=>if c=B then 0 else cC c,cb,cl,cS,de,w,dg,(λc u g=>?_,y.K.K,y.K.R,y.K.a0,(eb _ _ i).trans x.K.S,(eb _ _ x.K.R).trans x.K.X,λc d=>?_),b x.R,b x.S,b x.X,b x.a0)
 .by_cases q:c=B;.subst q;rw[bG]at g;rw[e,g]
  .rw[bS q]at g;show y.K.a2 _ _ g
 .by_cases q:c=B;.simp_all
  .rw[be q]at d;rw[bS q];show x.K.a1 c d
theorem dR.a4{B o}(x:dR (a' an B o) H t T)(d:an B=M):dR an H t T:=x.a5<|cf d
theorem dR.a1{B o}(x:dR (a' an B o) H t T):H B=Y o:=x.S _ _ bG
inductive ZH(H:ap)(t:L)(T:cn):Prop|mk(cb cl cS de w):lX aAA H t (uV (.K T.a1) (.R T.a2) (.K cb) (.K cl) (.K cS) (.K de) (.K w) (.R ↑T.K)<|.R ↑T.R)->ZH H t T
theorem dR.X(x:dR an H t T):ZH H t T:=by
 let(cC,cb,cl,cS,de,w,dg,x):=x;show(cb,cl,cS,de,w,x.K.K)
end
inductive ZK(vs:#[V])(H:ap)(Q:ca):Prop|mk(an:ap)(t b:L)(T:cn)(c:b_):(vs=[.K t,.K b])->(dR an H t T)->(eK H b<|gU c)->(↑T.X+↑T.K<ch)->(∀af(W:#[b_]),W.Perm (dG T.K c)->fF H af->dR an af t {T with X:=T.X++W.map λs=>(c,s)}->Q .a0 af)->ZK vs H Q
def aod:cq:=λvs H Q _=>ZK vs H Q
def aoe(an:ap)(t h:L)(b:cn)(c:b_)(al:ap)(l:L)(bv:#[b_×L])(i:O)(D:ck)(af:ap):Prop:=(∃v,D=[Y<|.K t,Y<|.K h,v])/\fF al af/\dR (a' an l<|.K<|bv.map λp=>V.K p.2) af t {b with X:=b.X++((bv.take i).map ek).map λs=>(c,s)}
def ZP[ci]:eD bH 5 aAA "wait_again" ["self","cell"] aod:=by
 let(_,a0,a1):=Qi.K.K;show aBU.K aAS.K ["self","cell","sort"] λz H vs Q au a2 d aD=>?_
 .let(an,t,m,b,c,rfl,x,o,z,k):=d;show(_,a_<|jA jg aa (jz<|Fk (aK 0) aAS.K a0 a1 a2 bm<|ak (aK 1) aF) (fB (i:=2) aD aa<|aQ aa)
  <|a_<|cw<|tk pf v' zX Ax (f' aAS.K aAS.S<|aK 0)<|ak (es<|ak (aK 1)<|ak (aK 2) aF) aF,?_);let(cb,cl,cS,de,w,a3):=x.X;show(_,aa,t,_,aa,a3,aa,_,aa,an,t,m,b,c,aa,x,o,λal l bv h A T j=>(l,aa,(_,bZ T),?_));let a9:↑bv<=↑b.K:=by
   have:=j.K.length_eq;rw[aV]at this;rw[this];show wr _ _
  show nv (aoe an t m b c al l bv)
   ((M,aa),fF.R _,?_) (λi D af _ d=>bZ d.2.2.a1) (λi v D af U d=>?_)<|λD af d=>?_;.rw[zW];change dR _ al t {b with X:=b.X++[]};rw[e'];show(x.a3 h A T)
  .exists a4;let((b0,rfl),f,g):=d;rw[cV]at U;let(p,V,rfl):=e_.1 U;let(cC,cb,cl,cS,de,w,dg,y):=g;show a4 (_,aa,t,_,_,aa,y.K.K,aa,ps y.K.R,_,aa,_,aa,mX,λq a5=>?_);let(a6,a7,a8,b1):=y.a4 a5 (o.K<|h.R.K f) ((j.R p<|gs V).K f) (by
    rw[cW,aV,aV,iQ];lia)
   .show(w,_,.K q,aa,aa,a6,a7,(_,aa),f.K a8,cC,cb,cl,cS,de,w,dg++[q],?_);let e:(bv.take<|i+1).map ek=(bv.take i).map ek++[p.1]:=by
     rw[hF,V];simp
    rwa [e,cs,<- fi]
  .let(_,f,g):=d;show k af (bv.map ek) j.K (h.R.K f) ?_;rw[aV,jQ]at g;show g.a4<|x.a2 A
inductive cA where|R(c s:b_)|K(a B:b_)|X(a:b_)(l:N)(s:#[N])
inductive cA.S:cA->cn->cn->Prop|R(T:cn)(c s:b_):cA.S (.R c s) T<|T.a3 c s|S(T:cn)(a B:b_):(a,B)>T.a0->cA.S (.K a B) T T|X(T:cn)(a B:b_)(W:#[b_]):(a,B)∉T.a0->W.Perm (dG T.K a)->cA.S (.K a B) T {T with a0:=T.a0++[(a,B)],X:=T.X++W.map λs=>(a,s)}|a0(T:cn)(a:b_)(l:N)(s:#[N]):(a,l,s)>T.S->cA.S (.X a l s) T T|a1(T:cn)(a:b_)(l:N)(s:#[N])(W:#[b_]):(a,l,s)∉T.S->W.Perm (dG T.K a)->cA.S (.X a l s) T {T with S:=T.S++[(a,l,s)],X:=T.X++W.map λs=>(a,s)}
def gC:#[cA]->cn->cn->Prop|[],T,bd=>bd=T|o::r,T,bd=>∃b,o.S T b/\gC r b bd
theorem gC.K{l T}(ab:gC l T b)(ag:gC m b h):gC (l++m) T h:=by
 induction l generalizing T with
 |nil=>cases ab;show ag
 |cons o r e=>
  let(bd,a,B):=ab;show(bd,a,e B)
theorem cA.S.K{o T}(d:o.S T bd):gC [o] T bd:=(bd,d,aa)
structure em(aC n:O)(T:cn):Prop where
 a3:↑T.K+n<=aC
 a0:↑T.a0+n<=ch
 a1:↑T.S+n<=ch
 a2:↑T.R+n<=ch
 a4:↑T.X+n*aC<=ch
theorem em.K{aC n T}(d:em aC n T)(b:m<=n):em aC m T:=
 (by have:=d.a3;lia,by have:=d.a0;lia,by have:=d.a1;lia,by have:=d.a2;lia,db (zR (ayd aC b) _) d.a4)
theorem em.X{aC n:O}{o:cA}{T bd:cn}(d:em aC (n+1) T)(ae:o.S T bd):em aC n bd:=by
 let f:=d.a4;rw[xB]at f;let b:=d.a3;let e:∀(W:#[b_])(a:b_),W.Perm (dG T.K a)->↑W<=↑T.K:=λW a p=>by
  rw[p.length_eq];show wr _ _
 cases ae with
 |R _ c s=>
  delta cn.a3;split;.show d.K<|ll _
  .show(?_,?_,?_,?_,?_);.rw[cW];change ↑T.K+1+n<=aC;lia
   .have:=d.a0;change ↑T.a0+n<=_;show lm this
   .have:=d.a1;change ↑T.S+n<=_;show lm this
   .have:=d.a2;change ↑T.R+n<=_;show lm this
   .rw[cW];change ↑T.X+1+n*aC<=_;lia
 |S=>show d.K<|ll _
 |a0=>show d.K<|ll _
 |X _ a B W _ p=>
  have:=e W a p;show(?_,?_,?_,?_,?_);.change ↑T.K+n<=aC;show lm b
  .have:=d.a0;rw[cW];change ↑T.a0+1+n<=_;lia
  .have:=d.a1;change ↑T.S+n<=_;show lm this
  .have:=d.a2;change ↑T.R+n<=_;show lm this
  .rw[cW,aV];lia
 |a1 _ a l s W _ p=>
  have:=e W a p;show(?_,?_,?_,?_,?_);.change ↑T.K+n<=aC;show lm b
  .have:=d.a0;change ↑T.a0+n<=_;show lm this
  .have:=d.a1;rw[cW];change ↑T.S+1+n<=_;lia
  .have:=d.a2;change ↑T.R+n<=_;show lm this
  .rw[cW,aV];lia
theorem em.R{aC n l T}(d:em aC (n+↑l) T)(ae:gC l T bd):em aC n bd:=by
 induction l generalizing T with
 |nil=>cases ae;show d
 |cons o r b=>
  let(e,a,B):=ae;show b (em.X (by assumption) a) B
theorem em.S{aC n T}(d:em aC (n+1) T):↑T.K<ch/\↑T.X<ch/\↑T.X+↑T.K<ch/\↑T.a0<ch/\↑T.S<ch/\↑T.R<ch:=by
 let b:=d.a4;rw[xB]at b;let ab:=d.a3;let ag:=d.a0;let e:=d.a1;let f:=d.a2;show(?_,?_,?_,?_,?_,?_)<;>omega
theorem em.a5{aC n T f s}(d:em aC (n+1) T):em aC n<|T.a4 f s:=by
 let b:=d.K<|ll n;show(b.a3,b.a0,b.a1,?_,b.a4);have:=d.a2;change↑(T.R++_)+n<=_;rw[cW];change ↑T.R+1+n<=_;lia
inductive ZQ(vs:#[V])(H:ap)(Q:ca):Prop|mk(an:ap)(t b h:L)(T:cn)(a B:b_)(aC n:O):(vs=[.K t,.K b,.K h])->(dR an H t T)->(eK H b<|gU a)->(eK H h<|gU B)->(em aC (n+1) T)->(∀af bd,fF H af->(cA.K a B).S T bd->dR an af t bd->Q .a0 af)->ZQ vs H Q
def Fu:cq:=λvs H Q _=>ZQ vs H Q
inductive ZR(vs:#[V])(H:ap)(Q:ca):Prop|mk(an:ap)(t b h:L)(T:cn)(a:b_)(l:N)(s:#[N])(aC n:O):(vs=[.K t,.K b,.R l,.K h])->(dR an H t T)->(eK H b<|gU a)->(hl H h s)->(em aC (n+1) T)->(∀af bd,fF H af->(cA.X a l s).S T bd->dR an af t bd->Q .a0 af)->ZR vs H Q
def ZS:cq:=λvs H Q _=>ZR vs H Q
def aof[ci]:eD bH 6 aAA "link" ["self","source","target"] Fu:=by
 let(_,U,V):=ZP.K.K;show aBV.K aAS.K ["self","source","target","targets"] λz H vs Q au j d aD=>?_
 .exists a0;let(an,t,l,a1,g,a,B,aC,n,rfl,x,m,a2,a3,k):=d;let h:=lw j;let(b4,b5,a4,o,b6,b7):=a3.S;show a0 (_,ba (ji (i:=3) aD aa (aQ aa)<|DW h (f' aAS.K aAS.a3<|aK 0) (aK 1) pl (aa,aa,aa,aa))
  <|a_<|dF (lS<|AA h (aK 2)<|aK 3) (ba (sh h (aK 3) (aK 2) td aa)<|a_<|cw<|Fk (aK 0) aAS.K U V j bm<|ak (aK 1) aF) d_,?_);exists a5;let(cC,cb,cl,cS,de,w,dg,x):=x;let(b8,a6):=id x.X;show a5 (_,aa,t,_,_,aa,x.K.K,aa,cS,aa,ha.X a6.K,_,aa,λp a7=>x.X.S (l,aa,m) a7 aa o λal v q ct b=>?_);let A:=ha.a1 b.K (a1,aa,a2);show(_,aa,_,aa,q,_,aa,ct.R A,_,aa,?_);by_cases e:(a,B)>g.a0;.rw[bK e];show rk<|k _ _ b.K (.S _ _ _ e) (v,cb,cl,cS,de,w,dg,x.K.a3 b ⋯,x.R.K b,x.S.K b,ct.S e,x.a0.K b)
  .rw[be e];show lx ?_;exists a8;let(aH,eG,a9,f):=ct.X A e o;let y:dR an aH t {g with a0:=g.a0++[(a,B)]}:=by
    let z:=(x.K.a3 b ⋯).a3 f ⋯;show(v,cb,cl,cS,de,w,dg,(z.a2,z.K,z.R,z.a0,z.S,z.X,z.a1),(x.R.K b).K f,(x.S.K b).K f,a9,(x.a0.K b).K f)
   let T:=b.K.K f.K;let(aB,b9,c0,c1,c2,b0):=y.X;show a8 (_,aa,_,aa,q,aH,aa,eG,_,aa,t,_,aa,b0,aa,_,aa,an,t,l,_,a,aa,y,m.K T,a4,λc3 W b1 b2 b3=>k _ _ (T.K b2) (.X _ _ _ W e b1) b3)
def aog[ci]:eD bH 6 aAA "watch" ["self","source","label","string"] ZS:=by
 let(_,b0,b1):=ZP.K.K;show aBW.K aAS.K ["self","source","label","string","watchers"] λz H vs Q au a4 d aD=>?_
 .exists b2;let(an,t,a5,b,T,a,l,st,aC,n,rfl,x,a6,aw,b3,k):=d;let a1:=lw a4;let(c8,c9,b4,d0,a7,d1):=b3.S;show b2 (_,ba (ji (i:=4) aD aa (aQ aa)<|DW a1 (f' aAS.K aAS.a4<|aK 0) (aK 1) pl (aa,aa,aa,aa))
  <|a_<|dF (lS<|AA a1 (es<|ak (aK 2)<|ak (aK 3) aF)<|aK 4) (ba (sh a1 (aK 4) (es<|ak (aK 2)<|ak (aK 3) aF) td aa)<|a_<|cw<|Fk (aK 0) aAS.K b0 b1 a4 bm<|ak (aK 1) aF) d_,?_);exists b5;let(cC,cb,cl,cS,de,w,dg,x):=x;let(d2,b6):=id x.a0;show b5 (_,aa,t,_,_,aa,x.K.K,aa,de,aa,ha.X b6.K,_,aa,λp b7=>x.a0.S (a5,aa,a6) b7 aa a7 λal g q ct f=>(_,aa,_,aa,mX,λr b8=>?_));let fv:bA al<|a' al r<|.R [.R l,.K b]:=cf b8;let h:sk al g (a' al r<|.R [.R l,.K b]) g 9:=(λB o e _ _=>fv _ _ e,λ_ _ _=>rfl,λ_ z=>bB aa z,fv.R);let a2:ty ha Fq (a' al r<|.R [.R l,.K b]) g 9 de T.S a q:=by
   let(m,a3,az,j):=ct.K;show(m,a3,(fv _ _ az.K,λe j=>fv _ _<|az.S e j,az.R,az.X,az.a0,az.a1,az.a2),j)
  let b9:Fq.R (a' al r<|.R [.R l,.K b]) (.K r) (l,st):=(r,aa,Qg.2 (b,bG,(aw.K f.K).K fv.R));show(_,aa,q,_,aa,a2.R b9,_,aa,?_);let a8:=(x.K.a3 f ⋯).a3 h ⋯;let ef:=f.K.K fv.R;by_cases v:(a,l,st)>T.S;.rw[bK v];show rk<|k _ _ ef (.a0 _ _ _ _ v) (g,cb,cl,cS,de,w,dg,a8,(x.R.K f).K h,(x.S.K f).K h,(x.X.K f).K h,a2.S v)
  .rw[be v];show lx (_,aa,_,aa,_,aa,mX,λV c0=>?_);exists c1;let A:bA (a' al r<|.R [.R l,.K b])<|a' (a' al r<|.R [.R l,.K b]) V<|.R [.R l,.K b]:=cf c0;let a0:sk _ g (a' (a' al r<|.R [.R l,.K b]) V<|.R [.R l,.K b]) g 9:=(λB o e _ _=>A _ _ e,λ_ _ _=>rfl,λ_ z=>bB aa z,A.R);let c2:ty ha Fq (a' (a' al r<|.R [.R l,.K b]) V<|.R [.R l,.K b]) g 9 de T.S a q:=by
    let(m,a3,az,j):=a2.K;show(m,a3,(A _ _ az.K,λe j=>A _ _<|az.S e j,az.R,az.X,az.a0,az.a1,az.a2),j)
   let(aH,eG,c3,U):=c2.X ((V,aa,Qg.2 (b,bG,(aw.K ef).K A.R))) v a7;let y:dR an aH t {T with S:=T.S++[(a,l,st)]}:=by
    let z:=(a8.a3 a0 ⋯).a3 U ⋯;show(g,cb,cl,cS,de,w,dg,(z.a2,z.K,z.R,z.a0,z.S,z.X,z.a1),(((x.R.K f).K h).K a0).K U,(((x.S.K f).K h).K a0).K U,(((x.X.K f).K h).K a0).K U,c3)
   let a9:=(ef.K A.R).K U.K;let(aB,d3,d4,d5,d6,c4):=y.X;show c1 (q,aH,aa,eG,_,aa,t,_,aa,c4,aa,_,aa,an,t,a5,_,a,aa,y,a6.K a9,b4,λd7 W c5 c6 c7=>k _ _ (a9.K c6) (.a1 _ _ _ _ W v c5) c7)
structure sl(an H:ap)(x aG:L)(ah:#[E×V])(bb:#[L×bF]):Prop where
 K:H x=Y (.S aAA aG ah)
 a0:bA an H
 X:∀ae∈bb,H ae.1=Y ae.2
 a2:an x=M
 a1:∀ae∈bb,an ae.1=M/\ae.1≠x
 a3:(bb.map (·.1)).Nodup
section
variable{x aG:L}{ah:#[E×V]}{bb:#[L×bF]}
theorem sl.a4(b:an x=M)(aD:an aG=M)(h:aG≠x):sl an (a' (a' an aG<|.a2 x) x<|.S aAA aG []) x aG [] []:=
 (bG,(cf aD).K<|cf<|(bS<|λz=>h z.symm)▸b,(λ_ d=>nomatch d),b,(λ_ d=>nomatch d),lP)
theorem sl.R(dt:sl an H x aG ah bb)(f:E)(v:V):sl an (a' H x<|.S aAA aG<|kH f v ah) x aG (kH f v ah) bb:=
 (bG,λB o e=>by rw[bS<|fj e dt.a2];show dt.a0 B o e,λae b=>by rw[bS (dt.a1 ae b).2];show dt.X ae b,dt.a2,dt.a1,dt.a3)
theorem sl.S(dt:sl an H x aG ah bb){p:L}{o:bF}(h:H p=M):sl an (a' H p o) x aG ah<|bb++[(p,o)]:=by
 let s:bA H<|a' H p o:=cf h;show(s _ _ dt.K,dt.a0.K s,λae b=>?_,dt.a2,λae b=>?_,?_)
 .let z||z:=du.1 b;.show s _ _<|dt.X ae z
  .have:=‹z›
   subst this;show bG
 .let z||z:=du.1 b;.show dt.a1 ae z
  .have:=‹z›
   subst this;show(dt.a0.S h,λq=>by have:=dt.K;rw[<- q,h]at this;cases this)
 .rw[cs];show pm dt.a3 λz=>?_;let(ae,b,q):=bx.1 z;have:=dt.X ae b;rw[q,h]at this;cases this
end
def ZT{eB b:Type}{ax:eB->b->Prop}{ai:α->b->Prop}{f:α->eB}:∀{l:#[α]}{m:#[b]},eq ax (l.map f) m->(∀a c,ax (f a) c->ai a c)->eq ai l m:=by
 intro l
 induction l with|nil=>intro _ d _;cases d;show ed|cons a l e=>intro _ d f;cases d with|cons r t=>show eS (f _ _ r)<|e t f
inductive ZU(vs:#[V])(H:ap)(Q:ca):Prop|mk(an:ap)(x aG p:L)(m:N):(vs=[.K x,.K p,.R m])->(H=a' (a' an aG<|.a2 x) x (.S aAA aG []))->(an x=M)->(an aG=M)->(aG≠x)->(∀af,dR an af x (p,m,[],[],[],[],[])->Q .a0 af)->ZU vs H Q
def aoh:cq:=λvs H Q _=>ZU vs H Q
def aoi:fu ["self","program","most"] ["self","program","most"]<|dh Ze:=∅
inductive ZV(vs:#[V])(H:ap)(Q:ca):Prop|mk(an:ap)(t b:L)(T:cn)(c:b_):(vs=[.K t,.K b])->(dR an H t T)->(eK H b<|gU c)->(∀(af:ap)(l:L)(h:#[L]),bA H af->H l=M->af l=Y (.K<|h.map V.K)->eq (λx B=>eK af B<|gU x) (dG T.a0 c) h->Q (.K l) af)->ZV vs H Q
def ZW:cq:=λvs H Q _=>ZV vs H Q
inductive ZX(vs:#[V])(H:ap)(Q:ca):Prop|mk(an:ap)(t b:L)(T:cn)(c:b_):(vs=[.K t,.K b])->(dR an H t T)->(eK H b<|gU c)->(∀(af:ap)(l:L)(h:#[L]),bA H af->H l=M->af l=Y (.K<|h.map V.K)->eq (λx B=>eK af B<|yB x) (dG T.S c) h->Q (.K l) af)->ZX vs H Q
def ZZ:cq:=λvs H Q _=>ZX vs H Q
inductive Z_(vs:#[V])(H:ap)(Q:ca):Prop|mk(an:ap)(t:L)(T:cn)(f:N):(vs=[.K t,.R f])->(dR an H t T)->((↑(dG T.R f)<2∨∀u∈dG T.R f,u≠[]))->(∀(af:ap)(l:L)(bv:#[#[N]×L]),bA H af->H l=M->af l=Y (.K<|bv.map λp=>V.K p.2)->(∀p∈bv,hl af p.2 p.1)->(bv.map ek).Perm (dG T.R f)->bv.Pairwise (λp q=>hH q.1 p.1=aX)->Q (.K l) af)->Z_ vs H Q
def aoj:cq:=λvs H Q _=>Z_ vs H Q
inductive Z'(vs:#[V])(H:ap)(Q:ca):Prop|mk(an:ap)(t:L)(T:cn):(vs=[.K t])->(dR an H t T)->(Q (.R ((↑T.K+↑T.R:O):N)) H)->Z' vs H Q
def aaa:cq:=λvs H Q _=>Z' vs H Q
inductive aab(vs:#[V])(H:ap)(Q:ca):Prop|mk(an:ap)(t:L)(T:cn):(vs=[.K t])->(dR an H t T)->(Q (.X<|bp<|400<↑T.K+↑T.R) H)->aab vs H Q
def Qj:cq:=λvs H Q _=>aab vs H Q
def aac[ci]:eD bH 1 aAA "count_facts" ["self"] aaa:=by
 show aBX.K aAS.K ["self"] λz H vs Q au e d aD=>?_;.let(an,t,f,rfl,x,k):=d;show(_,a_<|cy<|aif (f' aAS.K aAS.a5<|aK 0)<|f' aAS.K aAS.a1<|aK 0,?_);let(cb,cl,cS,de,w,b):=x.X;show(_,aa,t,_,_,aa,b,aa,_,aa,t,_,_,aa,b,aa,_,_,aa,aa,k)
def aad[ci]:eD bH 2 aAA "too_large" ["self"] Qj:=by
 let(_,f,g):=aac.K.K;show aBZ.K aAS.K ["self"] λz H vs Q au h d aD=>?_
 .let(an,t,b,rfl,x,k):=d;show(_,a_<|cy<|Kt<|((λi j=>Kr i j λ_ _ _ _ _ _ d=>gt_int d) (X' (aK 0) aAS.K f g h bm)<|cH aBr),?_);let(cb,cl,cS,de,w,l):=x.X;show(_,aa,t,_,aa,l,aa,an,t,b,aa,x,_,_,aa,aa,?_);let e:bp ((400:N)<((↑b.K+↑b.R:O):N))=bp (400<↑b.K+↑b.R):=by
   rw[nr];omega
  simp_all
def aok[ci]:eD bH 1 aAA "targets_of" ["self","cell"] ZW:=by
 show aCa.K aAS.K ["self","cell"] λz H vs Q au m d aD=>?_;.let(an,t,q,a0,c,rfl,x,v,k):=d;show(_,a_<|cy<|Ar (Xi aa) aa O8 aa<|ak (DS (lw m) (f' aAS.K aAS.a3<|aK 0) (aK 1) pl (aa,aa,aa,aa)) aF,?_);exists A;let(cC,cb,cl,cS,de,w,dg,x):=x;let(a1,T):=id x.X;show A (_,aa,t,_,_,aa,x.K.K,aa,cS,aa,ha.X T.K,_,aa,λp b=>?_);let(o,a,U,e,aB):=x.X.X (q,aa,v) b aa;show(o,U,?_);rw[e];show(a,_,aa,aQ aB,λf g l h=>?_);let i:bA H<|a' H p<|.X []:=cf b;let j:bA (a' H p<|.X [])<|a' (a' H p<|.X []) l<|.K<|f.map V.K:=cf h;show k _ l f (i.K j) (i.S h) bG ?_;rw[dX,dX]at g;show ZT g λ_ _ z=>z.K j.R
def aol[ci]:eD bH 1 aAA "watchers_of" ["self","cell"] ZZ:=by
 show aCb.K aAS.K ["self","cell"] λz H vs Q au m d aD=>?_;.let(an,t,q,a0,c,rfl,x,v,k):=d;show(_,a_<|cy<|Ar (Xi aa) aa O8 aa<|ak (DS (lw m) (f' aAS.K aAS.a4<|aK 0) (aK 1) pl (aa,aa,aa,aa)) aF,?_);exists A;let(cC,cb,cl,cS,de,w,dg,x):=x;let(a1,T):=id x.a0;show A (_,aa,t,_,_,aa,x.K.K,aa,de,aa,ha.X T.K,_,aa,λp b=>?_);let(o,a,U,e,aB):=x.a0.X (q,aa,v) b aa;show(o,U,?_);rw[e];show(a,_,aa,aQ aB,λf g l h=>?_);let i:bA H<|a' H p<|.X []:=cf b;let j:bA (a' H p<|.X [])<|a' (a' H p<|.X []) l<|.K<|f.map V.K:=cf h;show k _ l f (i.K j) (i.S h) bG ?_;rw[dX,dX]at g;show ZT g λ_ _ z=>z.K j.R
def Qk[ci]:eD bH 1 aAA "strings_of_body" ["self","fun"] aoj:=by
 show aCc.K aAS.K ["self","fun"] λz H vs Q au h d aD=>?_
 .let(an,t,i,j,rfl,x,m,k):=d;show(_,a_<|cy<|mW (amm aa) aa aBa aa<|ak (DS (lw h) (f' aAS.K aAS.a2<|aK 0) (aK 1) pl (aa,aa,aa,aa)) aF,?_);exists q;let(cC,cb,cl,cS,de,w,dg,x):=x;let(a2,v):=id x.S;show q (_,aa,t,_,_,aa,x.K.K,aa,cl,aa,hX.X v.K,_,aa,λp b=>?_);let(o,a,A,e,aB):=x.S.X aa b aa;show(o,A,?_);rw[e];show(a,_,dG i.R j,aa,aQ aB,?_,m,λl bv af st=>?_);.rw[dX,dX];rfl
  .let(f,T,U,V,a0,a1):=st;let g:bA H<|a' H p<|.X []:=cf b;show k af l bv (g.K f) (g.S T) U (λp b=>f _ _<|V p b) a0 a1
def aae[ci]:qt bH 1 aAA "Table" ["self","program","most"] aoh:=by
 show aCK.K _ (ai:=aoi) λz H vs Q au d4 d _=>?_
 .let(an,x,aG,p,m,rfl,rfl,v,aD,c2,k):=d;show(_,ba (tw aAS.K aAS.R (aK 0)<|aK 1)<|ba (tw aAS.K aAS.a0 (aK 0)<|aK 2)<|ba (tw aAS.K aAS.X (aK 0) pl)<|ba (tw aAS.K aAS.a2 (aK 0) yr)<|ba (tw aAS.K aAS.a3 (aK 0) pl)<|ba (tw aAS.K aAS.a4 (aK 0) pl)
  <|ba (tw aAS.K aAS.S (aK 0)<|eP aF)<|ba (tw aAS.K aAS.a5 (aK 0) cm)<|a_<|tw aAS.K aAS.a1 (aK 0) cm,?_);let q:sl an _ x aG [] []:=sl.a4 v aD c2;let w:=(q.R "program"<|.K p).R "most"<|.R m;show(_,aa,_,aa,x,aG,_,aa,q.K,⋯,_,aa,_,aa,x,aG,_,aa,(q.R "program"<|.K p).K,(show(1:O)<1000 by decide),λb ab=>(_,aa,x,aG,_,aa,(w.S ab).K,(show(2:O)<1000 by decide),?_));let A:=(w.S ab (o:=.X [])).R "held"<|.K b;show λe ag=>(_,aa,x,aG,_,aa,(A.S ag).K,(show(3:O)<1000 by decide),?_);let T:=(A.S ag (o:=.a1 [])).R "come_to"<|.K e;show λf U=>(_,aa,x,aG,_,aa,(T.S U).K,(show(4:O)<1000 by decide),?_);let V:=(T.S U (o:=.X [])).R "links"<|.K f;show λg a0=>(_,aa,x,aG,_,aa,(V.S a0).K,(show(5:O)<1000 by decide),?_);let a1:=(V.S a0 (o:=.X [])).R "watchers"<|.K g;show(⋯,λh a2=>(_,aa,x,aG,_,aa,(a1.S a2).K,(show(6:O)<1000 by decide),?_));let a3:=(a1.S a2 (o:=.K [])).R "waiting"<|.K h;show(_,aa,x,aG,_,aa,a3.K,(show(7:O)<1000 by decide),?_);let a4:=a3.R "sort_facts"<|.R 0;show(_,aa,x,aG,_,aa,a4.K,(show(8:O)<1000 by decide),k _ ?_);exists c3;let i:=a4.R "body_facts"<|.R 0;let a5:=i.a3;let l:=i.a1;let a6:(aZ b<|bF.X [])>[(aZ b<|bF.X []),(aZ e<|bF.a1 []),(aZ f<|bF.X []),(aZ g<|bF.X []),(aZ h<|bF.K [])]:=by show ig
  let a7:(aZ e<|bF.a1 [])>[(aZ b<|bF.X []),(aZ e<|bF.a1 []),(aZ f<|bF.X []),(aZ g<|bF.X []),(aZ h<|bF.K [])]:=by simp
  let a8:(aZ f<|bF.X [])>[(aZ b<|bF.X []),(aZ e<|bF.a1 []),(aZ f<|bF.X []),(aZ g<|bF.X []),(aZ h<|bF.K [])]:=by simp
  let a9:(aZ g<|bF.X [])>[(aZ b<|bF.X []),(aZ e<|bF.a1 []),(aZ f<|bF.X []),(aZ g<|bF.X []),(aZ h<|bF.K [])]:=by simp
  let b0:(aZ h<|bF.K [])>[(aZ b<|bF.X []),(aZ e<|bF.a1 []),(aZ f<|bF.X []),(aZ g<|bF.X []),(aZ h<|bF.K [])]:=by show CG aa
  let b1:=l _ a6;let b2:=l _ a7;let b3:=l _ a8;let b4:=l _ a9;let b5:=l _ b0;simp only[mj,mK,fg,sX,f_,cc,hD,or_false,not_or]at a5;let((c4,c5,c6,c7),(c8,c9,d0),(d1,d2),d3,_):=a5;show c3 (λB=>if B=x then 1 else if B=h then 2 else if B=b then 3 else if B=e then 5 else if B=f then 7 else if B=g then 9 else 0,b,e,f,g,h,[],(i.a0,(aG,i.K),i.X _ b0,ed,bK aa,?_,λB j=>?_),([],i.X _ a6,(λ_ d=>nomatch d),lz.X,?_,(λ_ d=>nomatch d),lP,(λ_ d=>nomatch d)),([],i.X _ a7,(λ_ d=>nomatch d),lz.X,?_,(λ_ d=>nomatch d),lP,(λ_ d=>nomatch d)),
   ([],i.X _ a8,(λ_ d=>nomatch d),lz.X,?_,(λ_ d=>nomatch d),lP,(λ_ d=>nomatch d)),([],i.X _ a9,(λ_ d=>nomatch d),lz.X,?_,(λ_ d=>nomatch d),lP,(λ_ d=>nomatch d)));.rw[be b5.2,bK aa]
  .by_cases b6:B=x;.rw[b6];show v
   .rw[be b6]at j;by_cases b7:B=h;.rw[b7];show b5.1
    .rw[be b7]at j;by_cases b8:B=b;.rw[b8];show b1.1
     .rw[be b8]at j;by_cases b9:B=e;.rw[b9];show b2.1
      .rw[be b9]at j;by_cases c0:B=f;.rw[c0];show b3.1
       .rw[be c0]at j;by_cases c1:B=g;.rw[c1];show b4.1
        .rw[be c1]at j;show bB aa j
  .rw[be b1.2,be c7,bK aa]
  .rw[be b2.2,be d0,be<|λz=>c4 z.symm,bK aa]
  .rw[be b3.2,be d2,be<|λz=>c5 z.symm,be<|λz=>c8 z.symm,bK aa]
  .rw[be b4.2,be d3,be<|λz=>c6 z.symm,be<|λz=>c9 z.symm,be<|λz=>d1 z.symm,bK aa]
def hb(H:ap)(l:L)(ay:#[N×N]):Prop:=∃b:#[L],H l=Y (.K<|b.map V.K)/\eq (λ(p:N×N) B=>H B=Y (.R [.R p.1,.R p.2])) ay b
structure rm(b:#[b_×b_])(g l:N)(ay:#[N×N]):Prop where
 K:∀p:N×N,p>ay↔∃s aT,((g,l,s),(p.1,p.2,aT))>b
 R:ay.Nodup
 S:ay.Pairwise λp q=>(gB (q.1,q.2,[])).K (gB (p.1,p.2,[]))=aX
inductive aaf(vs:#[V])(H:ap)(Q:ca):Prop|mk(an:ap)(t:L)(T:cn)(g l:N):(vs=[.K t,.R g,.R l])->(dR an H t T)->(↑T.K<ch)->(∀af r ay,bA H af->H r=M->hb af r ay->rm T.K g l ay->Q (.K r) af)->aaf vs H Q
def aom:cq:=λvs H Q _=>aaf vs H Q
noncomputable def tz(co:#[E×xc]):mQ:={kind:=rB,names:=co,isGenerator:=aX,isCoroutine:=aX}
def aon:pk ["self","group","label","found","cell","sort"] (dh Zf) (tz [(".0",gp),("sort",gp)]) [("sort",5)]:=(aa,by rfl',by rfl',by rfl',by rfl')
def Ql{o aP g aj}(Pv:O->ck->ap->Prop)(h:Pv 0 D H)(a1:∀i D H,Pv i D H->H ae=Y (.a0 o<|.X aP))
 (aw:∀i k v q D H,aP[i]? =Y (k,v)->eK H q k->Pv i D H->g (.K q) D H (cd<|aj.X<|Pv<|i+1))(a2:∀D H,Pv ↑aP D H->aj.K D H):
  yb (Py ae o aP) g cd aj D H:=by
 show(λi m D H=>m=↑aP - i/\i<=↑aP/\Pv i D H,(↑aP,eW<|ul ↑aP,ex _,h),?_);rintro i m D H ⟨rfl,aR,p⟩;let q:=a1 i D H p;by_cases b:i<↑aP;.show bl ((q,b),Pv<|i+1,λaU af f=>(↑aP -(i+1),um ↑aP i b,aa,b,f),λx af y=>?_);let(e,k,v,c,j,l,w):=y;subst e l;show aw i k v c D _ j w p
 .obtain rfl:i=↑aP:=by lia
  show aQ ((q,dw),a2 D H p)
def aoo{eB:Type}{f:α->eB}{l:#[α]}(d:∀x∈l,∀y∈l,f x=f y->x=y)(n:l.Nodup):(l.map f).Nodup:=by
 induction l with
 |nil=>show lP
 |cons a r g=>
  let(ab,ag):=f_.1 n;rw[fg];show f_.2 (λz=>?_,g (λx h y i=>d x (eo _ h) y<|eo _ i) ag);let(B,b,e):=bx.1 z;rw[d B (eo _ b) a (cp _) e]at b;show ab b
def dH{c:dq}{A dt:Prop}(ab:c=J->A)(ag:c=aX->dt):if c=J then A else dt:=by
 show split_bool ab ag
noncomputable def pu{α:Type}[i_ α](l:#[α])(x:α):#[α]:=if x>l then l else l++[x]
theorem aag[i_ κ](bu:#[κ])(x:κ):gS (bu.map λk=>(k,V.X J)) x (.X J)=(pu bu x).map λk=>(k,V.X J):=by
 delta pu;by_cases d:x>bu;.rw[bK d];delta gS;simp_all
 simp_all [be,Qf,Qe,cs]
theorem aah[i_ α]{l:#[α]}{x y:α}:y>pu l x↔y>l∨y=x:=by
 delta pu;split;.simp_all
 simp_all
def aop(bv:#[(N×N×#[N])×L])(aH:ap)(aj:L)(i:O)(b:ap):Prop:=bA aH b/\∃e:#[L],b aj=Y (.K<|e.map V.K)/\eq (λ(p:N×N) B=>b B=Y (.R [.R p.1,.R p.2])) ((bv.take i).map λp=>(p.1.1,p.1.2.1)) e
set_option tactic.hygienic true in
def AT[ci]:eD bH 4 aAA "sorts_in_any_string" ["self","group","label"] aom:=by
 let(_,c3,a5):=ZC.R;show aCd.K aAS.K ["self","group","label","found","cell","sort"] λz H vs Q au f4 d aD=>?_
 .let(an,t,d5,a6,a7,rfl,x,g5,k):=d;let f5:=lw f4;let((dv,aC,g6),j6):=a5;show(_,ba (ji (i:=3) aD aa (aQ aa) pl)
  <|ba (Ps<|jA jg aa (Pz<|f' aAS.K aAS.X<|aK 0) (fB (i:=4) aD aa<|aQ aa)
   <|a_<|dF (lr.K<|xZ (lS<|wd (fW kR (aK 4) cm<|λ_ _=>rfl)<|aK 1)<|xX<|lS<|wd (fW kR (aK 4) cm<|λ_ _=>rfl)<|aK 2)
     (a_<|Ps<|jA jg aa (Pz<|yq f5 (f' aAS.K aAS.X<|aK 0) (aK 4)<|λ_ _=>rfl) (fB (i:=5) aD aa<|aQ aa)
     <|a_<|sh f5 (aK 3) (es<|ak (fW kR (aK 5) cm<|λ_ _=>rfl)<|ak (fW kR (aK 5) cm<|λ_ _=>rfl)<|ak (es aF) aF) td aa) d_)
  <|a_<|cy<|tl aa aD (jz<|Xt aa aC f4 g6 aa aBa (ak (aK 3) aF)<|Vt (tv c3) Vs) (mf:=[(aZ "sort" 5)]) aon (λs H f6 bw f7=>fB (i:=5) aD aa<|aQ aa) (λs H f6 bw f7=>sf)
   <|λs H f6 bw f7=>uH (r:=AR) AS (aK 5) yl<|sd cm,?_);let(cC,cb,cl,cS,de,w,dg,y):=x;let(m,az):=id y.R;intro T c4;let fv:bA H<|a' H T<|.X []:=cf c4;show(cb,ha.K<|m.map λe=>(aZ (e.1)<|V.K e.2.1),fv _ _ az.K,ahd,λei=>?_);let(aG,f8):=y.K.K;let fK:t≠cb:=λz=>by have:=az.X;rw[<- z,y.K.S]at this;cases this
  let d6:=(fj az.K c4).symm;let' b0:O->b_->Prop:=λi x=>∃e∈m.take i,e.1.1=a6/\e.1.2.1=a7/\∃s∈e.2.2,x=(aZ (s.1)<|aZ (s.2.1) []);let sub:∀i x,b0 i x->x>d5.K.map λf=>(aZ (f.2.1)<|aZ (f.2.2.1) []):=λi x h=>by
   let(e,b,_,_,s,aw,rfl):=h;show bx.2 ((aZ (e.1) s),(az.R.R<|zZ b).mp aw,aa)
  let j':∀ah:#[b_],ah.Nodup->(∀x∈ah,x>d5.K.map λf=>((aZ (f.2.1)<|aZ (f.2.2.1) []):b_))->↑ah<ch:=λah ab ag=>by
   have:=Kd ab ag;rw[aV]at this;show kF this g5
  let' Pv:O->ck->ap->Prop:=λi D af=>(∃b1 b2,D=[Y<|.K t,Y<|.R a6,Y<|.R a7,Y<|.K T,b1,b2])/\(∀B o,H B=Y o->B≠cb->af B=Y o)/\af cb=Y (.a0 ei<|ha.K<|m.map λe=>(aZ (e.1)<|V.K e.2.1))/\
   ∃ah:#[b_],af T=Y (ha.K<|ah.map λk=>(aZ k<|V.X J))/\ah.Nodup/\∀x,x>ah↔b0 i x;let g7:lX aAA (a' (a' H T<|.X []) cb<|.a0 ei<|ha.K<|m.map λe=>(aZ (e.1)<|V.K e.2.1)) t _:=(aG,by
   rw[bS fK];show fv _ _ f8);show(_,aa,t,_,_,aa,g7,aa,cb,ei,aa,bl (_,bG,?_))
  .show Ql Pv ((M,M,aa),λB o e d=>?_,bG,[],?_,lP,λx=>((λd=>nomatch d),λd=>?_)) (λi D af d=>d.2.2.1) (λi j7 v q D af c5 c6 d=>?_)<|λD af d=>?_;.rw[bS d];show fv _ _ e
   .rw[bS d6,bG];rfl
   .let(e,b,_):=d;cases b
   .exists g8;let((b1,b2,rfl),a0,b3,ah,b4,a8,a1):=d;rw[cV,cV]at c5;let(j8,g9,c5):=e_.1 c5;let(e,b,rfl):=e_.1 g9;cases c5;let a2:=gs b;let(c,c7,h0):=pt.1 c6
    let step:∀x,b0 (i+1) x↔b0 i x∨(e.1.1=a6/\e.1.2.1=a7/\∃s∈e.2.2,x=(aZ (s.1)<|aZ (s.2.1) [])):=λx=>by
     change(∃e∈m.take (i+1),_)↔_;rw[hF,b];constructor
     .rintro⟨d7,ab,ag⟩;let z||z:=du.1 ab;.show aQ (d7,z,ag)
      .have:=‹z›
       subst this;show bl ag
     .rintro(⟨d7,ab,ag⟩|ag);.show(d7,dQ _ ab,ag)
      .show(e,cG _<|CU.2 aa,ag)
    show g8 (_,aa,q,_,0,.R e.1.1,aa,aa,fb c7,aa,_,aa,e.1.1,a6,aa,aa,_,aa,dH (λab=>?_) λab=>?_)
    .let ab:=eH ab;show(_,aa,q,_,1,.R e.1.2.1,aa,aa,fb c7,aa,_,aa,e.1.2.1,a7,aa,aa,_,aa,dH (λag=>?_) λag=>?_)
     .let ag:=eH ag;let d8:e.2.1≠cb:=λz=>by have:=az.a0 e a2;rw[z,az.X]at this;cases this
      let ea:=a0 _ _ (az.S e a2) d8;let d9:=(fj (az.S e a2) c4).symm;show(e.2.1,_,ea,ahd,λa9=>?_);let' Pi:O->ck->ap->Prop:=λj D af=>(∃b1 b2,D=[Y<|.K t,Y<|.R a6,Y<|.R a7,Y<|.K T,b1,b2])/\(∀B o,H B=Y o->B≠cb->B≠e.2.1->af B=Y o)/\af cb=Y (.a0 ei<|ha.K<|m.map λe=>(aZ (e.1)<|V.K e.2.1))/\
       af e.2.1=Y (.a0 a9<|ha.K<|e.2.2.map λk=>(aZ k<|V.X J))/\∃ah:#[b_],af T=Y (ha.K<|ah.map λk=>(aZ k<|V.X J))/\ah.Nodup/\∀x,x>ah↔b0 i x∨∃s∈e.2.2.take j,x=(aZ (s.1)<|aZ (s.2.1) []);let h1:lX aAA (a' af e.2.1<|.a0 a9<|ha.K<|e.2.2.map λk=>(aZ k<|V.X J)) t _:=(aG,by
       rw[bS λz=>by have:=az.a0 e a2;rw[<- z,y.K.S]at this;cases this];show a0 _ _ f8 fK);let h2:∀c8,fq (Tx (λp=>(aZ (gU p.1)<|p.2))<|m.map λe=>(aZ (e.1)<|V.K e.2.1)) (gU c8)=fq (m.map λe=>(aZ (e.1)<|V.K e.2.1)) c8:=λc8=>Fp (λ_ _=>Zn) c8 _;let f9:(a' af e.2.1<|.a0 a9<|ha.K<|e.2.2.map λk=>(aZ k<|V.X J)) cb=Y (.a0 ei<|ha.K<|m.map λe=>(aZ (e.1)<|V.K e.2.1)):=by
       rw[bS<|mT d8];show b3
      let h3:fF af<|a' af e.2.1<|.a0 a9<|ha.K<|e.2.2.map λk=>(aZ k<|V.X J):=wp ea<|ha.a2 _;let h4:iA (a' af e.2.1<|.a0 a9<|ha.K<|e.2.2.map λk=>(aZ k<|V.X J)) cb (.K q)<|Y<|.K e.2.1:=bl (_,gU e.1,q,bl (ei,f9),aa,c6.K h3,(by rw[h2,Fs az.R.K a2]));show(_,aa,t,_,_,aa,h1,aa,_,aa,cb,.K e.2.1,aa,h4,e.2.1,a9,aa,bl (_,bG,Ql Pi ((_,_,aa),λB o d b5 a3=>?_,f9,bG,ah,?_,a8,λx=>?_) (λj D aH d=>d.2.2.2.1) (λj j9 k0 e0 D aH c9 h5 d=>?_)<|λD aH d=>?_));.rw[bS a3];show a0 B o d b5
      .rw[bS d9];show b4
      .rw[a1 x];show(aQ,λd=>d.elim id λ(s,aw,_)=>nomatch aw)
      .exists h6;let((h7,h8,rfl),e1,e2,e3,b6,e4,b7,b8):=d;rw[cV,cV]at c9;let(U,e5,c9):=e_.1 c9;let(g,g0,rfl):=e_.1 e5;cases c9;let k1:=gs g0;let(k2,g1,k3):=pt.1 h5;show h6 (_,aa,_,aa,e0,_,0,.R g.1,aa,aa,fb g1,aa,_,aa,e0,_,1,.R g.2.1,aa,aa,fb g1,aa,⋯,λU e5=>((show 3<=ch by decide),λeG h9=>?_));let c3:bA aH<|a' aH U<|.R []:=cf e5;let a5:bA (a' aH U<|.R [])<|a' (a' aH U<|.R []) eG<|.R [.R g.1,.R g.2.1,.K U]:=cf h9;let d0:=c3.K a5;let i0:ha.R (a' (a' aH U<|.R []) eG<|.R [.R g.1,.R g.2.1,.K U]) (.K eG)<|aZ (g.1)<|aZ (g.2.1) []:=(eG,aa,pt.2 (U,bG,a5 _ _ bG));let i1:∀x∈b6,x>d5.K.map λf=>((aZ (f.2.1)<|aZ (f.2.2.1) []):b_):=λx h=>by
        let z||(aT,a4,rfl):=(b8 x).mp h;.show sub i x z
        .show bx.2 ((aZ (e.1) aT),(az.R.R a2).mp<|zZ a4,aa)
       show(T,_,aa,ha.a0 (d0 _ _ e4) i0<|by rw[aV];show j' b6 b7 i1,(_,_,aa),λB o d b5 a3=>?_,?_,?_,pu b6<|aZ (g.1)<|aZ (g.2.1) [],?_,(by
         delta pu;split;.show b7
         .rename_i q;show pm b7 q),λx=>?_);.rw[bS λz=>by rw[z,c4]at d;cases d];show d0 _ _<|e1 B o d b5 a3
       .rw[bS<|mT d6];show d0 _ _ e2
       .rw[bS<|mT d9];show d0 _ _ e3
       .rw[bG,aag]
       .rw[aah,b8 x,hF,g0];constructor
        .rintro((z|⟨aT,a4,rfl⟩)|rfl);.show aQ z
         .show bl (aT,dQ _ a4,aa)
         .show bl (g,cG _<|CU.2 aa,aa)
        .rintro(z|⟨aT,a4,rfl⟩);.show aQ<|aQ z
         .let z||z:=du.1 a4;.show aQ<|bl (aT,z,aa)
          .have:=‹z›
           subst this;show bl aa
      .exists i2;let((h7,h8,rfl),e1,e2,e3,b6,e4,b7,b8):=d;rw[aV,aV,jQ]at b8;show i2 (e3,(_,_,aa),λB o d b5=>?_,?_,b6,?_,b7,λx=>?_)
       .by_cases a3:B=e.2.1;.subst a3;rw[bG,<- az.S e a2];show d
        .rw[bS a3];show e1 B o d b5 a3
       .rw[bS<|mT d8];show e2
       .rw[bS d9];show e4
       .rw[b8 x,step x];show(λd=>d.imp id λz=>(ab,ag,z),λd=>d.imp id λz=>z.2.2)
     .let ag:=hj ag;show((_,_,aa),a0,b3,ah,b4,a8,λx=>?_);rw[a1 x,step x];show(aQ,λd=>d.elim id λz=>bB z.2.1 ag)
    .let ab:=hj ab;show rk ((_,_,aa),a0,b3,ah,b4,a8,λx=>?_);rw[a1 x,step x];show(aQ,λd=>d.elim id λz=>bB z.1 ab)
   .exists i3;let((b1,b2,rfl),a0,b3,ah,b4,a8,a1):=d;rw[aV,aV]at a1;let e6:∀x,x>ah↔∃e∈m,e.1.1=a6/\e.1.2.1=a7/\∃s∈e.2.2,x=(aZ (s.1)<|aZ (s.2.1) []):=λx=>by
     rw[a1 x];change(∃e∈m.take ↑m,_)↔_;rw[jQ]
    let g2:bA H<|a' af cb<|ha.K<|m.map λe=>(aZ (e.1)<|V.K e.2.1):=λB o e=>by
     by_cases e7:B=cb;.subst e7;rw[bG,<- az.K];show e
     .rw[bS e7];show a0 B o e e7
    let i4:(a' af cb<|ha.K<|m.map λe=>(aZ (e.1)<|V.K e.2.1)) T=Y (ha.K<|ah.map λk=>(aZ k<|V.X J)):=by
     rw[bS d6];show b4
    show i3 (b3,_,aa,T,_,ah,aa,aa,aQ i4,?_,λl bv aH st=>?_);.rw[dX,dX];rfl
    .let(e8,e0,g3,i5,b9,i6):=st;show(l,aa,(_,bZ g3),λaj e9=>?_);let i7:bA aH<|a' aH aj<|.K []:=cf e9;show wj (xs:=bv.map λp=>V.K p.2) (aop bv aH aj)
      (i7,[],bG,ed) (λi d1 _ d=>bZ<|d.1 _ _ g3) (λi x d1 h d=>?_)<|λd1 d=>?_
     .let(d2,d3,c0,c1):=d;rw[cV]at h;let(p,A,rfl):=e_.1 h;let(c,c7,h0):=pt.1 ((i5 p<|gs A).K<|e8.R.K d2.R);show(aa,?_);delta qn;show lx<|(_,aa,2,aa,p.2,_,aa,fb c7,λi8=>bB (show(2:O)=3 from i8.2) ⋯,λ_ r c2=>(d3.map V.K,?_,?_,λB o e=>?_,d3++[r],?_,?_));.show cf c2 _ _ c0
      .rw[aV,<- c1.length,aV,iQ];let ab:=b9.length_eq;rw[aV]at ab;let ag:=j' ah a8 λx h=>sub ↑m x<|(a1 x).mp h;omega
      .have:B≠aj:=fj e e9;rw[bS this];show cf c2 _ _<|d2 _ _ e
      .rw[bG,cs];rfl
      .rw[hF,A,cs];let i9:r≠aj:=λz=>by rw[z,c0]at c2;cases c2
       show ux (lp c1 λp B e=>?_) ?_;.have:B≠aj:=qi e c0 λz=>nomatch z;rw[bS this];show cf c2 _ _ e
       .change(a' (a' d1 r _) aj _) r=_;rw[bS i9,bG];rfl
     .let(d2,d3,c0,c1):=d;rw[aV,jQ]at c1;let d4:∀p∈bv,p.1.2.2=[]:=λp A=>by
       have:=b9.mem_iff.1<|bx.2 (p,A,aa);let(_,_,_,_,_,_,e):=(e6 _).mp this;rw[e]
      show k d1 aj _ ((g2.K e8).K d2) (g2.S<|e8.S e9) (d3,c0,c1) (λp=>?_,?_,?_)
      .constructor;.intro A;let(o,f0,rfl):=bx.1 A;let(e,b,ab,ag,aT,a4,j0):=(e6 _).mp (b9.mem_iff.1<|bx.2 (o,f0,aa));show(e.1.2.2,aT.2.2,?_);have:=(az.R.R b).mp a4;rw[j0,<- ab,<- ag];show this
       .rintro⟨c3,a5,g4⟩;let(e,b,aB):=bx.1 (az.R.all _ g4);let j1:(aZ (p.1)<|aZ (p.2) [])>ah:=(e6 _).mpr (e,b,by rw[aB],by rw[aB],(aZ (p.1)<|aZ (p.2) a5),(az.R.R b).mpr<|by rw[aB];show g4,aa);let(o,f0,f1):=bx.1 (b9.mem_iff.2 j1);show bx.2 (o,f0,by rw[f1])
      .let j2:(bv.map ek).Nodup:=b9.nodup_iff.2 a8;let e:bv.map (λp=>(aZ (p.1.1)<|p.1.2.1))=(bv.map ek).map λx:b_=>(aZ (x.1)<|x.2.1):=by rw[dX];rfl
       rw[e];show aoo (λx h y j3 d=>?_) j2;let(p,A,rfl):=bx.1 h;let(j4,j5,rfl):=bx.1 j3;let f2:=d4 p A;let f3:=d4 j4 j5;show pc (dP (·.1) d) (pc (dP (·.2) d) ?_);rw[f2,f3]
      .rw[rU];show i6.imp_of_mem λ{p q} A c6 d=>?_;let f2:=d4 p A;let f3:=d4 q c6;let aB:gB (aZ (p.1.1)<|aZ (p.1.2.1) [])=gB p.1:=by rw[<- f2]
       let f1:gB (aZ (q.1.1)<|aZ (q.1.2.1) [])=gB q.1:=by rw[<- f3]
       rw[aB,f1];show d
structure dV where
 R:#[E]
 X:#[#[N]]
 a5:#[bs N]
 a4:#[bs N]
 K:#[bs N]
 a1:#[N×#[N]]
noncomputable def mx:bs N->V|M=>.a0|Y i=>.R i
noncomputable def Fv(k p n B d o:V):#[E×V]:=[("kinds",k),("parts",p),("numbers",n),("binders",B),("homes",d),("outer",o)]
structure aoq where
 K:L
 R:L
 a0:L
 S:L
 h:L
 X:L
 a1:#[L]
 os:#[L]
structure AU(H:ap)(a:L)(av:dV)(ax:aoq):Prop where
 R:lX aAC H a<|Fv (.K ax.K) (.K ax.R) (.K ax.a0) (.K ax.S) (.K ax.h)<|.K ax.X
 S:H ax.K=Y (.K<|av.R.map V.S)
 X:H ax.R=Y (.K<|ax.a1.map V.K)
 a0:eq (λ(l:#[N]) a=>H a=Y (.K<|l.map V.R)) av.X ax.a1
 a3:H ax.a0=Y (.K<|av.a5.map mx)
 a2:H ax.S=Y (.K<|av.a4.map mx)
 a1:H ax.h=Y (.K<|av.K.map mx)
 a4:H ax.X=Y (.a1 ((av.a1.map (·.1)).zip ax.os|>.map λe=>(eZ e.1,V.K e.2)))
 a5:eq (λ(l:N×#[N]) a=>H a=Y (.K<|l.2.map V.R)) av.a1 ax.os
def lZ(H:ap)(a:L)(av:dV):Prop:=∃ax,AU H a av ax
theorem AU.K{a av ax}(x:AU H a av ax)(s:bA H af):AU af a av ax:=
 (let(aG,e):=x.R;(aG,s _ _ e),s _ _ x.S,s _ _ x.X,lp x.a0 λ_ _ e=>s _ _ e,s _ _ x.a3,s _ _ x.a2,s _ _ x.a1,s _ _ x.a4,lp x.a5 λ_ _ e=>s _ _ e)
theorem lZ.K{H af:ap}{a av}(x:lZ H a av)(s:bA H af):lZ af a av:=by
 let(ax,x):=x;show(ax,x.K s)
def aor{a av ax}(x:AU H a av ax)(aD:(av.a1.map (·.1)).Nodup){f l}(d:(f,l)>av.a1):∃B,iA H ax.X (.R f) (Y<|.K B)/\H B=Y (.K<|l.map V.R):=by
 let g:∀os b,eq (λ(l:N×#[N]) a=>H a=Y (.K<|l.2.map V.R)) os b->(os.map (·.1)).Nodup->(f,l)>os->∃B,fq (((os.map (·.1)).zip b).map λe=>((eZ e.1:jh),V.K e.2)) (eZ f)=Y (.K B)/\H B=Y (.K<|l.map V.R):=by
  intro os b h
  induction h with
  |nil=>grind
  |@cons e B os b j _ m=>
   grind [List.map_cons,List.zip_cons_cons,ms,mu,Sum.inl.inj]
 let(B,aB,i):=g av.a1 ax.os x.a5 aD d;show(B,aB▸iA.K (k:=eZ f) x.a4,i)
def wt(H:ap)(r:L)(bo:#[b_]):Prop:=∃b:#[L],H r=Y (.K<|b.map V.K)/\eq (λ(x:b_) B=>eK H B<|gU x) bo b
structure l_(an H:ap)(t:L)(T:cn)(av:dV):Prop where
 K:dR an H t T
 R:lZ an T.a1 av
inductive aai(vs:#[V])(H:ap)(Q:ca):Prop|mk(an:ap)(t b:L)(T:cn)(av:dV)(l:O)(s ay:#[N]):(vs=[.K t,.R l,.K b])->(l_ an H t T av)->(hl H b s)->(av.X[l]? =Y ay)->(↑ay<=3)->(∀af r,bA H af->H r=M->wt af r (ay.map λp=>(0,p,s))->Q (.K r) af)->aai vs H Q
def aaj:cq:=λvs H Q _=>aai vs H Q
def aos:pk ["table","label","string","part"] (dh Zg) (tz [(".0",gp),("part",gp),("NODE",Hh),("string",gX)]) [("part",3)]:=(aa,by rfl',by rfl',by rfl',by rfl')
def aot[ci]:cX bH 1 "part_cells" ["table","label","string"] aaj:=by
 show aCX.K ["table","label","string","part"] λz H vs Q au b1 d aD=>?_
 .let(an,t,j,a4,av,l,st,ay,rfl,x,aw,a5,b2,k):=d;show(_,a_<|cy<|tl aa aD (jz<|fW kQ (f' aAR.K aAR.S<|f' aAS.K aAS.R<|aK 0) (aK 1)<|λ_ _=>rfl) aos (λs H m bw A=>fB (i:=3) aD aa<|aQ aa) (λs H m bw A=>sf)
  <|λs H m bw A=>es<|ak (cH aAZ)<|ak (aK 3)<|ak (aK 2) aF,?_);exists a6;let(cb,cl,cS,de,w,a7):=x.K.X;let(ax,a8):=x.R;let p:=a8.K x.K.S;let(B,a9,T):=qo p.a0 a5;show a6 (_,aa,t,_,_,aa,a7,aa,a4.a1,_,_,aa,p.R,aa,_,aa,ax.R,_,_,.K B,aa,aa,bZ p.X,lU<|by rw[cV,a9];rfl,B,aa,(_,bZ T),λaj U=>?_);show wj (λi b=>bA H b/\wt b aj ((ay.take i).map λp=>(0,p,st))) ((cf U),[],bG,ed) (λi b _ d=>bZ<|d.1 _ _ T) (λi v b a0 d=>?_)<|λb d=>?_
  .let(a1,g,h,a2):=d;rw[cV]at a0;let(q,b0,rfl):=e_.1 a0;show(aa,?_);delta qn;show lx (_,aa,_,aa,(show 3<=ch by decide),λr f=>(g.map V.K,cf f _ _ h,?_,λB o e=>?_,g++[r],?_,?_))
   .rw[aV,<- a2.length,aV,iQ];have:3<ch:=⋯
    lia
   .rw[bS<|fj e U];show cf f _ _<|a1 _ _ e
   .rw[bG,cs];rfl
   .rw[hF,b0,cs];let a3:fF b<|a' (a' b r<|.R [.R 0,.R q,.K j]) aj<|.K<|g.map V.K++[.K r]:=(cf f).R.K<|wp (cf f _ _ h) λ_=>bF.noConfusion;show ux (lp a2 λp B e=>e.K a3)<|pt.2 (j,?_,(aw.K a1.R).K a3);rw[bS (λz=>by rw[z,h]at f;cases f),bG]
  simp_all
section
variable{C:bW}{da:jj}{k j:O}{ar:L}{ay:#[E]}{bX:cq}{au:fQ}{x m:E}{p fm:iK}{e o:dD}{bf:#[dD]}{bt:bT}{t:gP}
def gu{h}(a1:bn C o bt)(c:kK aAv ar)(g:si da k ar m ay bX)(a2:fz j C.R)(a3:kP da C au)(a4:jU C (e::bf) t)(a5:autoParam (k<=j) r_1)
 (a6:autoParam (er (e::bf) C.K=(aX,dx e C.K)::er bf C.K) r_5)(a7:autoParam ((h' bj<|er bf C.K).any (·.1)=aX) r_5)
 (a8:autoParam (dx (gw (hU o m fm) (e::bf) [] bj) C.K=(do
   let b<- dx o C.K
   ub fm.atName
   let(f,a9)<- rC [b] (xa b m h)
   Cn bj f a9 (h' bj<|er (e::bf) C.K) (sF bj<|sG [] C.K))) r_5):bn C (gw (hU o m fm) (e::bf) [] bj)<|Fj ar m bX au bt t:=by
 let(f,i,aC):=g;show Fk a1 c i aC (a2.K a5) a3 a4 a6 a7 a8
def aou{h}(a1:bn C o bt)(c:kK aAv ar)(g:si da k ar m ay bX)(a2:fz j C.R)(a3:kP da C au)(a4:autoParam (k<=j) r_1)
 (a5:autoParam (dx (gw (hU o m fm) [] [] bj) C.K=(do
   let b<- dx o C.K
   ub fm.atName
   let(f,a6)<- rC [b] (xa b m h)
   Cn bj f a6 (h' bj<|er [] C.K) (sF bj<|sG [] C.K))) r_5):bn C (gw (hU o m fm) [] [] bj)<|X_ ar m bX au bt:=by
 let(f,e,aC):=g;show X' a1 c e aC (a2.K a4) a3 a5
def dT(g:cX da k x ay bX)(b:fz j C.R)(h:kP da C au)(a1:jU C (e::bf) t)(a2:autoParam (k<=j) r_1)(a3:autoParam (jV C x) r_5)
 (a4:autoParam ((x==("__debug__":E))=aX) r_1)(a5:autoParam (er (e::bf) C.K=(aX,dx e C.K)::er bf C.K) r_5)(a6:autoParam ((h' bj<|er bf C.K).any (·.1)=aX) r_5):
  bn C (gw (ge x p) (e::bf) [] bj)<|PW bX au t:=by
 let(f,i,aC):=g;show amH aC i (b.K a2) h a1 a3 a4 a5 a6
end
def hZ{a:V}:↑[a]<=ch:=by
 change 1<=ch;decide
def kT:↑([]:#[V])<=ch:=ex _
def hc{a B c:V}:↑[a,B,c]<=ch:=by
 change 3<=ch;decide
def iS{b p s g l}(h:H p=M)(aw:hl H b s):eK (a' H p<|.R [.R g,.R l,.K b]) p<|gU (g,l,s):=
 pt.2 (b,bG,aw.K (cf h).R)
theorem l_.S{an H af:ap}{t T av}(x:l_ an H t T av)(s:bA H af):l_ an af t T av:=(x.K.R s,x.R)
theorem cA.S.a2{o:cA}{T bd:cn}(d:o.S T bd):bd.a1=T.a1/\bd.a2=T.a2:=by
 cases d with|R _ c s=>delta cn.a3;split<;>show(aa,aa)|S=>show(aa,aa)|X=>show(aa,aa)|a0=>show(aa,aa)|a1=>show(aa,aa)
theorem gC.R{l T bd}(d:gC l T bd):bd.a1=T.a1/\bd.a2=T.a2:=by
 induction l generalizing T with
 |nil=>cases d;show(aa,aa)
 |cons o r b=>
  let(e,a,B):=d;let ab:=b B;let ag:=a.a2;show(ab.1.trans ag.1,ab.2.trans ag.2)
theorem l_.X{t T av l}(x:l_ an H t T av)(d:gC l T bd)(y:dR an af t bd):l_ an af t bd av:=(y,d.R.1▸x.R)
inductive aak(ax:dV->O->#[N]->#[cA]->Prop)(vs:#[V])(H:ap)(Q:ca):Prop|mk(an:ap)(t h:L)(T:cn)(av:dV)(l:O)(s:#[N])(b:#[cA])(aC n:O):(vs=[.K t,.R l,.K h])->(l_ an H t T av)->(hl H h s)->(ax av l s b)->(em aC (n+↑b) T)->(∀af bd,fF H af->gC b T bd->dR an af t bd->Q .a0 af)->aak ax vs H Q
def qu(ax:dV->O->#[N]->#[cA]->Prop):cq:=λvs H Q _=>aak ax vs H Q
def wu(av:dV)(l:O)(s:#[N])(b:#[cA]):Prop:=b=[.R (0,l,s) (0,0,[])]
def Qm(av:dV)(l:O)(s:#[N])(b:#[cA]):Prop:=∃B,av.a4[l]? =Y (Y B)/\b=[.K (1,B,s) (0,l,s)]
def Qn(av:dV)(l:O)(s:#[N])(b:#[cA]):Prop:=b=[.R (0,l,s) (1,l,s)]
def tA(av:dV)(l:O)(s:#[N])(b:#[cA]):Prop:=∃p r,av.X[l]? =Y (p::r)/\↑r<=2/\b=[.X (0,p,s) l s]
def Qo(av:dV)(l:O)(s:#[N])(b:#[cA]):Prop:=∃p q,av.X[l]? =Y [p,q]/\b=[.K (0,p,s) (1,l,s),.K (0,q,s) (0,l,s)]
def Qp(av:dV)(l:O)(s:#[N])(b:#[cA]):Prop:=∃p q r,av.X[l]? =Y [p,q,r]/\b=[.K (0,q,s) (0,l,s),.K (0,r,s) (0,l,s)]
def Qq(av:dV)(l:O)(s:#[N])(b:#[cA]):Prop:=∃p q,av.X[l]? =Y [p,q]/\b=[.R (0,l,s) (2,l,s),.K (0,p,s) (2,l,s),.K (0,q,s) (3,l,s)]
def Qr(av:dV)(l:O)(s:#[N])(b:#[cA]):Prop:=∃p,av.X[l]? =Y [p]/\b=[.R (0,l,s) (3,l,s),.K (0,p,s) (4,l,s)]
def Qs(av:dV)(l:O)(s:#[N])(b:#[cA]):Prop:=∃p q,av.X[l]? =Y [p,q]/\b=[.X (0,p,s) l s,.K (0,q,s) (0,l,s)]
structure aov:Prop where
 K:PX aAA
 R:PZ aAC
 S:fA aAy "NODE" 0
 a1:fA aAy "BINDER" 1
 a4:fA aAy "FIRST" 2
 a5:fA aAy "SECOND" 3
 a3:fA aAy "CONTENTS" 4
 b0:fA aAy "NUMBER" 0
 a6:fA aAy "FUNCTION" 1
 a7:fA aAy "PAIR" 2
 a8:fA aAy "REFERENCE" 3
 a2:si bH 1 aAA "put" ["self","cell","sort"] Zw
 X:si bH 6 aAA "link" ["self","source","target"] Fu
 b1:si bH 6 aAA "watch" ["self","source","label","string"] ZS
 b2:si bH 1 aAA "mark_come_to" ["self","fun","string"] ZF
 b3:si bH 1 aAA "targets_of" ["self","cell"] ZW
 b4:si bH 1 aAA "watchers_of" ["self","cell"] ZZ
 a0:cX bH 1 "part_cells" ["table","label","string"] aaj
 a9:cX bH 1 "string_within" ["site","string","most"] Qh
inductive aal(H:ap)(t:L)(T:cn):Prop|mk(ah:_):lX aAA H t ah->ah.lookup ("put":E)=M->ah.lookup ("link":E)=M->ah.lookup ("watch":E)=M->ah.lookup ("mark_come_to":E)=M->ah.lookup ("program":E)=Y (.K T.a1)->ah.lookup ("most":E)=Y (.R T.a2)->aal H t T
theorem dR.K{t T}(x:dR an H t T):aal H t T:=by
 let(cb,cl,cS,de,w,b):=x.X;show(_,b,aa,aa,aa,aa,aa,aa)
def bD[ci]:aov:=(aAS,aAR,aAZ,aBe,aBo,aBp,aBq,HI,aBf,aBg,aBh,anV.K,aof.K,aog.K,aoc.K,aok.K,aol.K,aot,ZB)
def Qt[ci]:cX bH 7 "settle_number" ["table","label","string"]<|qu wu:=by
 show aCZ.K ["table","label","string"] λz H vs Q aW i d aD=>?_;.let(an,t,j,m,av,l,st,a0,aC,n,rfl,x,aw,rfl,v,k):=d;show(_,a_<|cw<|gu (aK 0) bD.K.K bD.a2 i bm<|ak (es<|ak (cH bD.S)<|ak (aK 1)<|ak (aK 2) aF)<|ak (es<|ak (cH bD.b0)<|ak cm<|ak (es aF) aF) aF,?_);let(ah,w,A,a1,a2,a3,a4,a5):=x.K.K;show(_,aa,t,ah,aa,w,A,_,aa,_,aa,hc,λp f=>(kT,λq T=>(hc,λr g=>?_)));let h:bA H<|a' H p<|.R [.R 0,.R l,.K j]:=cf f;let b:=cf (o:=.R []) T;let e:=cf (o:=.R [.R 0,.R 0,.K q]) g;let(U,V,_):=v.S;show(an,t,p,r,m,_,_,aa,x.K.R<|(h.K b).K e,((iS f aw).K (b.K e).R),(iS (s:=[]) g bG),U,V,λaf cZ y=>k af _ (((h.K b).K e).R.K cZ) (cA.S.K<|.R _ _ _) y)
def aow[ci]:cX bH 7 "settle_fun" ["table","label","string"]<|qu Qn:=by
 show aDb.K ["table","label","string"] λz H vs Q aW i d aD=>?_;.let(an,t,f,j,av,l,st,T,aC,n,rfl,x,aw,rfl,m,k):=d;show(_,a_<|cw<|gu (aK 0) bD.K.K bD.a2 i bm<|ak (es<|ak (cH bD.S)<|ak (aK 1)<|ak (aK 2) aF)<|ak (es<|ak (cH bD.a6)<|ak (aK 1)<|ak (aK 2) aF) aF,?_);let(ah,q,v,U,V,a0,a1,a2):=x.K.K;show(_,aa,t,ah,aa,q,v,_,aa,_,aa,hc,λp g=>(_,aa,_,aa,hc,λr h=>?_));let b:bA H<|a' H p<|.R [.R 0,.R l,.K f]:=cf g;let e:=cf (o:=.R [.R 1,.R l,.K f]) h;let(w,A,_):=m.S;show(an,t,p,r,j,_,_,aa,x.K.R<|b.K e,((iS g aw).K e.R),(iS h<|aw.K b.R),w,A,λaf cZ y=>k af _ ((b.K e).R.K cZ) (cA.S.K<|.R _ _ _) y)
def aox[ci]:cX bH 7 "settle_name" ["table","label","string"]<|qu Qm:=by
 show aDa.K ["table","label","string"] λz H vs Q aW q d aD=>?_;.let(an,t,f,g,av,l,st,a0,aC,n,rfl,x,aw,(B,v,rfl),w,k):=d;show(_,a_<|cw<|gu (aK 0) bD.K.K bD.X q bm<|ak (es<|ak (cH bD.a1)<|ak (fW kQ (f' bD.R.K bD.R.X<|f' bD.K.K bD.K.R<|aK 0) (aK 1)<|λ_ _=>rfl)<|ak (aK 2) aF)<|ak (es<|ak (cH bD.S)<|ak (aK 1)<|ak (aK 2) aF) aF,?_);exists A;let(ah,h,a1,T,a2,a3,U,a4):=x.K.K;let(ax,V):=x.R;let i:=V.K x.K.S;show A (_,aa,t,ah,aa,h,T,_,aa,t,ah,_,aa,h,U,g.a1,_,_,aa,i.R,aa,_,aa,ax.S,_,_,.R B,aa,aa,bZ i.a2,lU<|by rw[cV,v];rfl,_,aa,hc,λp j=>(_,aa,_,aa,hc,λr m=>?_));let b:bA H<|a' H p<|.R [.R 1,.R B,.K f]:=cf j;let e:=cf (o:=.R [.R 0,.R l,.K f]) m;show(an,t,p,r,g,_,_,aC,n,aa,x.K.R<|b.K e,((iS j aw).K e.R),(iS m<|aw.K b.R),w,λaf bd cZ ae y=>k af _ ((b.K e).R.K cZ) ae.K y)
theorem wt.K{r:L}{bo:#[b_]}(x:wt H r bo){i:O}{c:b_}(d:bo[i]? =Y c):∃xs B,fa aAv H r xs/\oj xs (i:N)=Y (.K B)/\eK H B (gU c):=by
 let(f,e,b):=x;let(B,g,t):=qo b d;show(_,B,bZ e,lU<|by simp_all,t)
def AV[ci]:cX bH 7 "settle_watcher" ["table","label","string"]<|qu tA:=by
 show aDc.K ["table","label","string"] λz H vs Q aW e d aD=>?_;.let(an,t,f,g,av,l,st,A,aC,n,rfl,x,aw,(p,r,h,ag,rfl),j,k):=d;show(_,a_<|cw<|gu (aK 0) bD.K.K bD.b1 e bm<|ak (fW kQ (dT bD.a0 e bm<|ak (aK 0)<|ak (aK 1)<|ak (aK 2) aF) cm<|λ_ _=>rfl)<|ak (aK 1)<|ak (aK 2) aF,?_);let(ah,m,T,U,o,V,a0,a1):=x.K.K;show(_,aa,t,ah,aa,m,o,_,aa,_,aa,_,aa,an,t,f,g,av,l,st,_,aa,x,aw,h,ut ag,λal q b _ v=>?_);let(xs,B,aB,w,cd):=v.K (i:=0) aa;show(q,xs,0,_,aa,aa,aB,w,_,aa,_,aa,an,t,B,f,g,_,_,st,aC,n,aa,x.K.R b,cd,aw.K b.R,j,λaf bd cZ ae y=>k af _ (b.R.K cZ) ae.K y)
def aoy[ci]:cX bH 7 "settle_let" ["table","label","string"]<|qu Qo:=by
 show aDd.K ["table","label","string","cells"] λz H vs Q aW b d aD=>?_
 .let(an,t,e,T,av,l,st,c8,aC,n,rfl,x,aw,(p,q,a6,rfl),U,k):=d;show(_,ba (ji (i:=3) aD aa (aQ aa)<|dT bD.a0 b bm<|ak (aK 0)<|ak (aK 1)<|ak (aK 2) aF)
  <|ba (cw<|gu (aK 0) bD.K.K bD.X b bm<|ak (fW kQ (aK 3) cm<|λ_ _=>rfl)<|ak (es<|ak (cH bD.a1)<|ak (aK 1)<|ak (aK 2) aF) aF)
  <|a_<|cw<|gu (aK 0) bD.K.K bD.X b bm<|ak (fW kQ (aK 3) cm<|λ_ _=>rfl)<|ak (es<|ak (cH bD.S)<|ak (aK 1)<|ak (aK 2) aF) aF,(_,aa,_,aa,_,aa,an,t,e,T,av,l,st,_,aa,x,aw,a6,(oe aa),λal r f V a0=>?_));exists a7;let(a8,a9,b0):=id a0;let a1:=x.K.a3 f V a9;let b1:=x.K.a2 V;let(ah,g,b2,h,b3,b4,b5,b6):=a1.K;let(xs,B,aB,j,cd):=a0.K (i:=0) aa;let a2:=aw.K f.R;show a7 (_,aa,t,ah,aa,g,h,_,aa,r,xs,0,_,aa,aa,aB,j,_,aa,_,aa,hc,λeG a3=>?_);let m:=cf (o:=.R [.R 1,.R l,.K e]) a3;show(_,t,B,eG,T,_,_,aC,n+1,aa,a1.R m,cd.K m.R,iS a3 a2,U,λb7 a4 b8 cS v=>?_);exists b9;let w:=m.R.K b8;let(ah,g,b2,h,b3,b4,b5,b6):=v.K;let c0:wt b7 r [(0,p,st),(0,q,st)]:=(a8,v.a1,lp b0 λ_ _ z=>z.K w);let(xs,B,aB,j,cd):=c0.K (i:=1) aa;show b9 (_,aa,t,ah,aa,g,h,_,aa,r,xs,1,_,aa,aa,aB,j,_,aa,_,aa,hc,λc1 a5=>?_);let A:=cf (o:=.R [.R 0,.R l,.K e]) a5;let c2:=em.X U cS;show(_,t,B,c1,a4,_,_,aC,n,aa,v.R A,cd.K A.R,iS a5<|a2.K w,c2,λc3 c4 c5 c6 c7=>k c3 c4 (((f.R.K w).K A.R).K c5) (a4,cS,c6.K)<|c7.a4 b1)
def aoz[ci]:cX bH 7 "settle_pair" ["table","label","string"]<|qu Qq:=by
 show aDf.K ["table","label","string","cells"] λz H vs Q aW f d aD=>?_
 .let(an,t,b,j,av,l,st,e1,aC,n,rfl,x,aw,(p,q,b9,rfl),a4,k):=d;show(_,ba (ji (i:=3) aD aa (aQ aa)<|dT bD.a0 f bm<|ak (aK 0)<|ak (aK 1)<|ak (aK 2) aF)
  <|ba (cw<|gu (aK 0) bD.K.K bD.a2 f bm<|ak (es<|ak (cH bD.S)<|ak (aK 1)<|ak (aK 2) aF)<|ak (es<|ak (cH bD.a7)<|ak (aK 1)<|ak (aK 2) aF) aF)
  <|ba (cw<|gu (aK 0) bD.K.K bD.X f bm<|ak (fW kQ (aK 3) cm<|λ_ _=>rfl)<|ak (es<|ak (cH bD.a4)<|ak (aK 1)<|ak (aK 2) aF) aF)
  <|a_<|cw<|gu (aK 0) bD.K.K bD.X f bm<|ak (fW kQ (aK 3) cm<|λ_ _=>rfl)<|ak (es<|ak (cH bD.a5)<|ak (aK 1)<|ak (aK 2) aF) aF,(_,aa,_,aa,_,aa,an,t,b,j,av,l,st,_,aa,x,aw,b9,(oe aa),λal r m a5 c0=>?_));exists c1;let(a6,c2,a7):=id c0;let a8:=x.K.a3 m a5 c2;let v:=aw.K m.R;let(ah,e,w,g,a9,b0,b1,b2):=a8.K;show c1 (_,aa,t,ah,aa,e,w,_,aa,_,aa,hc,λa b3=>(_,aa,_,aa,hc,λc3 b4=>?_));exists c4;let A:=cf (o:=.R [.R 0,.R l,.K b]) b3;let T:=cf (o:=.R [.R 2,.R l,.K b]) b4;let(c5,c6,_):=em.S (n:=n+2) a4;show c4 (_,t,a,c3,j,_,_,aa,a8.R<|A.K T,(iS b3 v).K T.R,iS b4<|v.K A.R,c5,c6,λaH c7 U=>?_);exists c8;let cl:=cA.S.R j (0,(l:N),st) (2,(l:N),st);let qv:=em.X (n:=n+2) a4 cl;let h:=(A.K T).R.K c7;let b5:=v.K h;let(ah,e,w,g,a9,b0,b1,b2):=U.K;let c9:wt aH r [(0,p,st),(0,q,st)]:=(a6,U.a1,lp a7 λ_ _ z=>z.K h);let(xs,B,aB,V,cd):=c9.K (i:=0) aa;show c8 (_,aa,t,ah,aa,e,g,_,aa,r,xs,0,_,aa,aa,aB,V,_,aa,_,aa,hc,λeG b6=>?_);let a0:=cf (o:=.R [.R 2,.R l,.K b]) b6;show(_,t,B,eG,_,_,_,aC,n+1,aa,U.R a0,cd.K a0.R,iS b6 b5,qv,λd0 b7 d1 cS a1=>?_);exists d2;let a2:=a0.R.K d1;let(ah,e,w,g,a9,b0,b1,b2):=a1.K;let d3:wt d0 r [(0,p,st),(0,q,st)]:=(a6,a1.a1,lp a7 λ_ _ z=>z.K<|h.K a2);let(xs,B,aB,V,cd):=d3.K (i:=1) aa;show d2 (_,aa,t,ah,aa,e,g,_,aa,r,xs,1,_,aa,aa,aB,V,_,aa,_,aa,hc,λd4 b8=>?_);let a3:=cf (o:=.R [.R 3,.R l,.K b]) b8;let d5:=em.X qv cS;show(_,t,B,d4,b7,_,_,aC,n,aa,a1.R a3,cd.K a3.R,iS b8<|b5.K a2,d5,λd6 d7 d8 d9 e0=>k d6 d7 (((m.R.K<|h.K a2).K a3.R).K d8) (_,cl,b7,cS,d9.K)<|e0.a4<|x.K.a2 a5)
def aoA[ci]:cX bH 7 "settle_new" ["table","label","string"]<|qu Qr:=by
 show aDg.K ["table","label","string"] λz H vs Q aW e d aD=>?_
 .let(an,t,b,w,av,l,st,c2,aC,n,rfl,x,aw,(p,a4,rfl),A,k):=d;show(_,ba (cw<|gu (aK 0) bD.K.K bD.a2 e bm<|ak (es<|ak (cH bD.S)<|ak (aK 1)<|ak (aK 2) aF)<|ak (es<|ak (cH bD.a8)<|ak (aK 1)<|ak (aK 2) aF) aF)
  <|a_<|cw<|gu (aK 0) bD.K.K bD.X e bm<|ak (fW kQ (dT bD.a0 e bm<|ak (aK 0)<|ak (aK 1)<|ak (aK 2) aF) cm<|λ_ _=>rfl)<|ak (es<|ak (cH bD.a3)<|ak (aK 1)<|ak (aK 2) aF) aF,?_);exists f;let(ah,g,T,U,a5,a6,a7,a8):=x.K.K;show f (_,aa,t,ah,aa,g,T,_,aa,_,aa,hc,λa V=>(_,aa,_,aa,hc,λa9 a0=>?_));let h:=cf (o:=.R [.R 0,.R l,.K b]) V;let j:=cf (o:=.R [.R 3,.R l,.K b]) a0;let(b0,b1,_):=em.S A;show(an,t,a,a9,w,_,_,aa,x.K.R<|h.K j,(iS V aw).K j.R,iS a0<|aw.K h.R,b0,b1,λaH b2 m=>?_);let cl:=cA.S.R w (0,(l:N),st) (3,(l:N),st);let a1:=(h.K j).R.K b2;exists f;let a2:=aw.K a1;let b3:=x.X cl.K m;let(ah,g,T,U,a5,a6,a7,a8):=m.K;show f (_,aa,t,ah,aa,g,U,_,aa,_,aa,_,aa,an,t,b,_,av,l,st,_,aa,b3,a2,a4,(oe aa),λc3 r q _ b4=>?_);let(xs,B,aB,b5,cd):=b4.K (i:=0) aa;show(r,xs,0,_,aa,aa,aB,b5,_,aa,_,aa,hc,λb6 a3=>?_);let v:=cf (o:=.R [.R 4,.R l,.K b]) a3;show(an,t,B,b6,_,_,_,aC,n,aa,m.R<|q.K v,cd.K v.R,iS a3<|a2.K q.R,(em.X A cl),λb7 b8 b9 c0 c1=>k b7 b8 ((a1.K (q.K v).R).K b9) (_,cl,c0.K) c1)
def aoB[ci]:cX bH 8 "settle_set" ["table","label","string"]<|qu Qs:=by
 show aDh.K ["table","label","string"] λz H vs Q aW b d aD=>?_
 .let(an,t,e,T,av,l,st,a9,aC,n,rfl,x,aw,(p,q,j,rfl),m,k):=d;show(_,ba (cw<|dT AV b bm<|ak (aK 0)<|ak (aK 1)<|ak (aK 2) aF)
  <|a_<|cw<|gu (aK 0) bD.K.K bD.X b bm<|ak (fW kQ (dT bD.a0 b bm<|ak (aK 0)<|ak (aK 1)<|ak (aK 2) aF) cm<|λ_ _=>rfl)<|ak (es<|ak (cH bD.S)<|ak (aK 1)<|ak (aK 2) aF) aF,(_,aa,_,aa,_,aa,an,t,e,T,av,l,st,_,aC,n+1,aa,x,aw,(p,[q],j,(oe aa),aa),m,λaH b0 v cl f=>?_));let w:=aw.K v;let U:=x.X cl f;let(ah,V,b1,a0,b2,b3,b4,b5):=f.K;show(_,aa,t,ah,aa,V,a0,_,aa,_,aa,_,aa,an,t,e,_,av,l,st,_,aa,U,w,j,(oe aa),λb6 r g _ a1=>?_);let(xs,B,aB,a2,cd):=a1.K (i:=1) aa;show(r,xs,1,_,aa,aa,aB,a2,_,aa,_,aa,hc,λa3 A=>?_);let h:=cf (o:=.R [.R 0,.R l,.K e]) A;show(an,t,B,a3,_,_,_,aC,n,aa,f.R<|g.K h,cd.K h.R,iS A<|w.K g.R,(em.R (l:=[_]) m cl),λa4 a5 a6 a7 a8=>k a4 a5 ((v.K (g.K h).R).K a6) (gC.K cl a7.K) a8)
def aoC(an:ap)(t a1:L)(a2:cn)(l:O)(st:#[N])(q r:N)(al:ap)(b h c:L)(i:O)(D:ck)(af:ap):Prop:=(∃v,D=[Y<|.K t,Y<|.R l,Y<|.K a1,v])/\fF (a' al c<|.K [.K b,.K h]) af/\∃bd,gC (Co i [.K (0,q,st) (0,l,st),.K (0,r,st) (0,l,st)]) a2 bd/\dR (a' an c<|.K [.K b,.K h]) af t bd
def aoD[ci]:cX bH 7 "settle_if" ["table","label","string"]<|qu Qp:=by
 show aDe.K ["table","label","string","branch"] λz H vs Q aW a2 d aD=>?_
 .let(an,t,g,h,av,l,st,c2,aC,n,rfl,x,aw,(p,q,r,a6,rfl),a3,k):=d;show(_,a_<|jA jg aa (jz<|uH VV (dT bD.a0 a2 bm<|ak (aK 0)<|ak (aK 1)<|ak (aK 2) aF) (sd cm) yl) (fB (i:=3) aD aa<|aQ aa)
  <|a_<|cw<|gu (aK 0) bD.K.K bD.X a2 bm<|ak (aK 3)<|ak (es<|ak (cH bD.S)<|ak (aK 1)<|ak (aK 2) aF) aF,(_,aa,_,aa,_,aa,an,t,g,h,av,l,st,_,aa,x,aw,a6,(oe aa),λal a m kf a7=>?_));let(c3,a8,b):=id a7
  cases b with
  |cons kZ b=>
  cases b with
  |@cons _ e _ _ ef b=>
  cases b with
  |@cons _ f _ _ a9 b=>
  cases b;show(1,aa,a,_,aa,bZ a8,λc V=>(c,aa,(_,bZ bG),?_));let cB:bA al<|a' al c<|.K [.K e,.K f]:=cf V;let b0:=ef.K cB.R;let b1:=a9.K cB.R;show nv (aoC an t g h l st q r al e f c)
   ((M,aa),fF.R _,h,aa,(x.K.a3 (m.K cB) (m.S V) bG)) (λi D af _ d=>by let(_,_,_,_,y):=d;show bZ y.a1) (λi v D af a0 d=>?_)<|λD af d=>?_
  .let((c4,rfl),w,A,cl,T):=d;let step:∀B z j,eK (a' al c<|.K [.K e,.K f]) B (gU (0,z,st))->em aC (j+1) A->v=.K B->(∀U,(cA.K (0,z,st) (0,(l:N),st)).S A U->gC (Co (i+1) [.K (0,q,st) (0,l,st),.K (0,r,st) (0,l,st)]) h U)->
     rZ (Fj aAA "link" Fu qp (pg 0)<|ii (pg 3)<|ii (Ap<|ii (gA<|.R 0)<|ii (pg 1)<|ii (pg 2) kl) kl) {K:=λD af=>(∃v,D=[Y<|.K t,Y<|.R l,Y<|.K g,v])/\fF (a' al c<|.K [.K e,.K f]) af/\∃bd,gC (Co (i+1) [.K (0,q,st) (0,l,st),.K (0,r,st) (0,l,st)]) h bd/\dR (a' an c<|.K [.K e,.K f]) af t bd,R:=Q} [Y<|.K t,Y<|.R l,Y<|.K g,Y v] af:=by
    intro B z j cd b2 b3 b4;exists b5;subst b3;let(ah,b6,c5,b7,c6,c7,c8,c9):=T.K;show b5 (_,aa,t,ah,aa,b6,b7,_,aa,_,aa,_,aa,hc,λb8 a4=>?_);let a1:=cf (o:=.R [.R 0,.R l,.K g]) a4;show(_,t,B,b8,_,_,_,aC,j,aa,T.R a1,(cd.K w).K a1.R,iS a4<|(aw.K (m.K cB).R).K w,b2,λd0 a5 b9 c0 c1=>((_,aa),(w.K a1.R).K b9,a5,b4 a5 c0,c1))
   let _||_||i:=i;.cases cl;show step e q (n+1) b0 a3 (hq a0).symm λU cS=>cS.K
   .show step f r n b1 (em.R (l:=[_]) a3 cl) (hq a0).symm λU cS=>gC.K cl cS.K
   .cases a0
  .let(_,w,A,cl,T):=d;show k af A ((m.K cB).R.K w) cl<|T.a4<|x.K.a2<|m.S V
def aam{a xs g aj}(Pv:O->ck->ap->Prop)(h:Pv 0 D H)(a1:∀i D H,i<=↑xs->Pv i D H->fa aAv H a xs)
 (aw:∀i x D H T,xs[i]? =Y x->Pv i D H->H T=M->g (.K T) D (a' H T<|.R [.R (i:O),x]) (cd<|aj.X<|Pv<|i+1))(a2:∀D H,Pv ↑xs D H->aj.K D H):
  yb (DU aAv a) g cd aj D H:=by
 show(λi m D H=>m=↑xs - i/\i<=↑xs/\Pv i D H,(↑xs,eW<|ul ↑xs,ex _,h),?_);rintro i m D H ⟨rfl,aR,p⟩;let q:=a1 i D H aR p;by_cases b:i<↑xs;.show bl ((xs,xs[i],q,by simp[b]),Pv<|i+1,λaU af e=>(↑xs -(i+1),um ↑xs i b,aa,b,e),λx af y=>?_);let(T,v,rfl,f,rfl,y):=y;show aw i v D H T (y xs q) p f
 .obtain rfl:i=↑xs:=by lia
  show aQ ((xs,q,dw),a2 D H p)
inductive dd where|K(o:cA)|R(f:N)(s:#[N])(b:#[cA])
noncomputable def dd.X:dd->O|.K _=>1|.R _ _ b=>1+↑b
inductive dd.S:dd->cn->cn->Prop|K{a3 b a1}:a3.S b a1->dd.S (.K a3) b a1|R{f:N}{h a2 b}:(f,h)>b.R->dd.S (.R f h a2) b b|S{f:N}{h a2 b a1}:(f,h)∉b.R->gC a2 (b.a4 f h) a1->dd.S (.R f h a2) b a1
def hd:#[dd]->cn->cn->Prop|[],T,bd=>bd=T|o::r,T,bd=>∃b,o.S T b/\hd r b bd
noncomputable def gf(l:#[dd]):O:=(l.map dd.X).sum
theorem hd.K{l T}(ab:hd l T b)(ag:hd m b h):hd (l++m) T h:=by
 induction l generalizing T with
 |nil=>cases ab;show ag
 |cons o r e=>
  let(bd,a,B):=ab;show(bd,a,e B)
theorem dd.S.X{o T}(d:o.S T bd):hd [o] T bd:=(bd,d,aa)
theorem cA.S.a3{o T}(d:o.S T bd):hd [.K o] T bd:=(bd,.K d,aa)
def em.a6{aC n:O}{o:dd}{T bd:cn}(d:em aC (n+o.X) T)(ae:o.S T bd):em aC n bd:=by
 cases ae with
 |K ae=>show em.X d ae
 |R=>show d.K<|nq _ _
 |@S f s b _ _ _ ae=>
  show em.R (em.a5 ?_) ae;let e:n+dd.X (.R f s b)=n+↑b+1:=by
   change n+(1+↑b)=_;lia
  simp_all
theorem AW(o:dd)(r:#[dd]):gf (o::r)=o.X+gf r:=rfl
theorem u_(l m:#[dd]):gf (l++m)=gf l+gf m:=by
 delta gf;grind
theorem em.a7{aC n l T bd}(d:em aC (n+gf l) T)(ae:hd l T bd):em aC n bd:=by
 induction l generalizing T with
 |nil=>cases ae;show d
 |cons o r b=>
  let(e,a,B):=ae;show b (em.a6 (by rw[AW]at d;grind) a) B
theorem dd.S.a0{o:dd}{T bd:cn}(d:o.S T bd):bd.a1=T.a1/\bd.a2=T.a2:=by
 cases d with|K ae=>show ae.a2|R=>show(aa,aa)|S _ ae=>show ae.R
theorem hd.R{l T bd}(d:hd l T bd):bd.a1=T.a1/\bd.a2=T.a2:=by
 induction l generalizing T with
 |nil=>cases d;show(aa,aa)
 |cons o r b=>
  let(e,a,B):=d;let ab:=b B;let ag:=a.a0;show(ab.1.trans ag.1,ab.2.trans ag.2)
theorem l_.a0{t T av l}(x:l_ an H t T av)(d:hd l T bd)(y:dR an af t bd):l_ an af t bd av:=(y,d.R.1▸x.R)
abbrev Fw:=dV->O->#[N]->#[cA]->Prop
noncomputable def AX:#[E×Fw]:=[("number",wu),("in",wu),("add",wu),("name",Qm),("fun",Qn),("call",tA),("let",Qo),("if",Qp),("pair",Qq),("fst",tA),("snd",tA),("new",Qr),("get",tA),("set",Qs)]
def Qu(kd:E):Fw:=λav l s b=>∃ax,AX.lookup kd=Y ax/\ax av l s b
structure tB(av:dV)(h:bs N)(s:#[N])(b:O->#[cA]):Prop where
 K:b 0=[]
 step:∀i,i<↑av.K->∃o,b (i+1)=b i++o/\((av.K[i]? =Y h/\∃kd,av.R[i]? =Y kd/\Qu kd av i s o)∨(av.K[i]? ≠Y h/\o=[]))
theorem tB.R{av h s b}(d:tB av h s b):∀i j,i<=j->j<=↑av.K->↑(b i)<=↑(b j):=λi j l=>by
 induction j with
 |zero=>
  simp_all
 |succ j g=>
  intro f;by_cases e:i=j+1;.show o'<|dP mR<|dP b e
  .let(o,m,_):=d.step j f;have:=g (by lia)<|lm f;grind
inductive aan(vs:#[V])(H:ap)(Q:ca):Prop|mk(an:ap)(t h:L)(T:cn)(av:dV)(a1:bs N)(s:#[N])(b:O->#[cA])(aC n:O):(vs=[.K t,mx a1,.K h])->(l_ an H t T av)->(hl H h s)->(tB av a1 s b)->(em aC (n+↑(b ↑av.K)) T)->(∀af bd,fF H af->gC (b ↑av.K) T bd->dR an af t bd->Q .a0 af)->aan vs H Q
def aoF:cq:=λvs H Q _=>aan vs H Q
structure Fx:Prop where
 K:∃a aj,aAy "SETTLERS"=Y (I a)/\mv aAv a aj/\∀kd ax,AX.lookup kd=Y ax->∃f,jv kd aj=Y (.K f)/\ly aAw aAx aAv aAy aAB bH 8 f ["table","label","string"] (qu ax)
theorem aao{a B}:bp (mx a=mx B)=bp (a=B):=by
 rw[nr];cases a<;>cases B<;>simp[mx]
def aoG{a B}:An (mx a) (mx B)=J:=by
 cases a<;>cases B<;>rfl
variable{l:#[E×E]} in
theorem Fx.R(av:tx "SETTLERS" l)(d:∀kd ax,AX.lookup kd=Y ax->∃ga,(kd,ga)>l/\cX bH 8 ga ["table","label","string"] (qu ax)):Fx:=by
 let(a,aj,ab,ag,b):=av.K;show(a,aj,ab,ag,λkd ax q=>?_);let(ga,e,f):=d kd ax q;show b kd ga e f
def aoH{p:E->Fw->Prop}(ab:p "number" wu)(ag:p "in" wu)(h:p "add" wu)(a1:p "name" Qm)(a2:p "fun" Qn)(a3:p "call" tA)(a4:p "let" Qo)(a5:p "if" Qp)(a6:p "pair" Qq)(a7:p "fst" tA)(a8:p "snd" tA)(a9:p "new" Qr)(b0:p "get" tA)(b1:p "set" Qs){kd:E}{ax:Fw}(d:AX.lookup kd=Y ax):p kd ax:=
 Qa (λq b=>by
  unfold AX at b;simp only[cc,hD,or_false]at b;let rfl||rfl||rfl||rfl||rfl||rfl||rfl||rfl||rfl||rfl||rfl||rfl||rfl||rfl:=b<;>assumption) d
def aoK[ci]:Fx:=Fx.R aBH λkd ax d=>by
 show aoH (p:=λkd ax=>∃ga,(kd,ga)>Zc/\cX bH 8 ga ["table","label","string"] (qu ax)) ?_ ?_ ?_ ?_ ?_ ?_ ?_ ?_ ?_ ?_ ?_ ?_ ?_ ?_ d;.show("settle_number",⋯,Qt.K ⋯)
 .show("settle_number",⋯,Qt.K ⋯)
 .show("settle_number",⋯,Qt.K ⋯)
 .show("settle_name",⋯,aox.K ⋯)
 .show("settle_fun",⋯,aow.K ⋯)
 .show("settle_watcher",⋯,AV.K ⋯)
 .show("settle_let",⋯,aoy.K ⋯)
 .show("settle_if",⋯,aoD.K ⋯)
 .show("settle_pair",⋯,aoz.K ⋯)
 .show("settle_watcher",⋯,AV.K ⋯)
 .show("settle_watcher",⋯,AV.K ⋯)
 .show("settle_new",⋯,aoA.K ⋯)
 .show("settle_watcher",⋯,AV.K ⋯)
 .show("settle_set",⋯,aoB.K ⋯)
def aoP(H an:ap)(t h:L)(b:cn)(a1:bs N)(a2:O->#[cA])(i:O)(D:ck)(af:ap):Prop:=(∃e f g,D=[Y<|.K t,Y<|mx a1,Y<|.K h,Y<|.K b.a1,e,f,g])/\fF H af/\∃bd,gC (a2 i) b bd/\dR an af t bd
def Qv[ci]:cX bH 9 "settle_home" ["table","home","string"] aoF:=by
 show aDi.K ["table","home","string","program","label","its_home","settle"] λz H vs Q aW a4 d aD=>?_
 .let(an,t,U,j,av,a5,st,q,aC,n,rfl,x,aw,w,a6,k):=d;let(a7,a8,a9,b0,b1):=aoK.K;show(_,ba (ji (i:=3) aD aa (aQ aa)<|f' bD.K.K bD.K.R<|aK 0)
  <|a_<|jA jg aa (PA aa aBb<|ak (f' bD.R.K bD.R.a1<|aK 3) aF) (tg aa<|kk (fB (i:=4) aD aa<|aQ aa)<|kk (fB (i:=5) aD aa<|aQ aa) tf)
   <|a_<|dF (nw ql (aK 5) (aK 1) aa)
     (ba (ji (i:=6) aD aa (aQ aa)<|AD (tv a9) (fW kQ (f' bD.R.K bD.R.R<|aK 3) (aK 4)<|λ_ _=>rfl)<|λ_ _=>rfl)
     <|a_<|cw<|PK (i:=6) aa (aQ aa) bm<|ak (aK 0)<|ak (aK 4)<|ak (aK 2) aF) d_,?_);exists b2;let(ah,b3,d1,d2,d3,d4,b4,d5):=x.K.K;let(ax,A):=x.R;let V:=A.K x.K.S;show b2 (_,aa,t,ah,_,aa,b3,b4,_,aa,j.a1,_,_,aa,V.R,aa,ax.h,_,aa,bZ V.a1,aam (xs:=av.K.map mx) (aoP H an t U j a5 q)
   ((_,_,_,aa),fF.R _,j,?_,x.K) (λi D af _ d=>?_) (λi v D af a a0 d b5=>?_)<|λD af d=>?_);.rw[w.K];rfl
  .let(_,_,_,_,y):=d;show bZ (A.K y.S).a1
  .exists b6;let((d6,d7,d8,rfl),e,l,cl,m):=d;rw[cV]at a0;let(b7,T,rfl):=e_.1 a0;let aR:=(ff.1 T).1;let f:=cf (o:=.R [.R (i:O),mx b7]) b5;let(o,p,a1):=w.step i aR;show b6 (a,_,aa,fb bG,aa,_,_,aa,_,_,aa,aa,_,aa,_,aa,aoG,_,aa,dH (λb=>?_) λb=>?_)
   .rw[aao]at b;let b:=eH b;subst b;let (_,kd,b8,b9,c0,c1)||(z,_):=a1
    .exists c2;let(g,c3,((dv,c4,c5),c6)):=b1 kd b9 c0;let a2:=m.R f;let a3:=A.K a2.S;let c7:=by
      let ab:=a6.K<|zR (w.R (i+1) _ aR dw) _;rw[p,cW]at ab;show em.R ((show n+↑o+↑(q i)=n+(↑(q i)+↑o) by lia)▸ab) cl
     show c2 (_,aa,j.a1,_,_,aa,a3.R,aa,_,aa,ax.K,_,_,.S kd,aa,aa,bZ a3.S,lU<|by rw[cV,b8];rfl,a7,a8,kd,.K g,aa,aa,b0,c3,g,_,aa,((8,dv,_,c4,a4,c5),c6),_,aa,_,aa,_,aa,?_);show(an,t,U,l,av,i,st,o,aC,n,aa,(a2,cl.R.1▸x.R),(aw.K e).K f.R,c1,c7,λd9 c8 c9 de d0=>((_,_,_,aa),(e.K f.R).K c9,c8,?_,d0));rw[p];show gC.K cl de
    .show bB T z
   .rw[aao]at b;let b:=hj b;let (z,_)||(_,z):=a1;.rw[T]at z;show bB (hq z) b
    .subst z;rw[e']at p;show((_,_,_,aa),e.K f.R,l,?_,m.R f);rwa [p]
  .let(_,e,l,cl,m):=d;rw[aV]at cl;show k af l e cl m
inductive aap(vs:#[V])(H:ap)(Q:ca):Prop|mk(an:ap)(t h:L)(T:cn)(av:dV)(f:N)(s:#[N])(b:O->#[cA])(aC n:O):(vs=[.K t,.R f,.K h])->(l_ an H t T av)->(hl H h s)->(tB av (Y f) s b)->(em aC (n+dd.X (.R f s<|b ↑av.K)) T)->(∀af bd,fF H af->dd.S (.R f s<|b ↑av.K) T bd->dR an af t bd->Q .a0 af)->aap vs H Q
def aoQ:cq:=λvs H Q _=>aap vs H Q
def aaq[ci]:cX bH 10 "come_to_body" ["table","fun","string"] aoQ:=by
 show aDj.K ["table","fun","string"] λz H vs Q aW j d aD=>?_
 .let(an,t,l,m,av,f,st,b,aC,n,rfl,x,aw,o,g,k):=d;show(_,a_<|dF (UG<|gu (aK 0) bD.K.K bD.b2 j bm<|ak (aK 1)<|ak (aK 2) aF) (a_<|cw<|dT Qv j bm<|ak (aK 0)<|ak (aK 1)<|ak (aK 2) aF) d_,?_);exists p;let(ah,q,U,V,a0,v,a1,a2):=x.K.K;let e:n+dd.X (.R f st<|b ↑av.K)=n+↑(b ↑av.K)+1:=by
   change n+(1+↑(b ↑av.K))=_;lia
  rw[e]at g;show p (_,aa,t,ah,aa,q,v,_,aa,_,aa,an,t,l,m,f,st,aa,x.K,aw,g.S.2.2.2.2.2,λal ef h i=>(_,aa,rk<|k al m ef (.R h) i),λal ef h i=>(_,aa,lx (_,aa,_,aa,_,aa,an,t,l,_,av,Y f,st,b,aC,n,aa,(i,x.R),aw.K ef,o,em.a5 g,λaH w A cl T=>k aH w (ef.K A) (.S h cl) T)))
abbrev tC:=dV->O->O->#[N]->b_->#[dd]->Prop
def sm(w g:N):tC:=λav k l s x b=>(x.1=w/\b=[.K<|.K (g,x.2.1,x.2.2) (0,l,s)])∨(x.1≠w/\b=[])
def Qw:tC:=λav k l s x b=>(x.1=3/\∃p q,av.X[l]? =Y [p,q]/\b=[.K<|.K (0,q,s) (4,x.2.1,x.2.2)])∨(x.1≠3/\b=[])
noncomputable def tD(l:O)(s:#[N])(q:N)(b:N)(ae c:#[N])(h:#[N])(B:N):#[cA]:=.K (0,q,s) (1,b,c)::(h.map (λy=>cA.K (1,y,ae) (1,y,c))++[.K (0,B,c) (0,l,s)])
def Qx:tC:=λav k l s x e=>(x.1=1/\∃(p q:N)(b:O)(B:N)(f:#[N])(g:O->#[cA]),av.X[l]? =Y [p,q]/\x.2.1=b/\av.X[b]? =Y [B]/\((b:N),f)>av.a1/\(av.a1.map (·.1)).Nodup/\↑s<100/\
  tB av (Y (b:N)) (((l:N)::s).take k) g/\e=.R b (((l:N)::s).take k) (g ↑av.K)::(tD l s q b x.2.2 (((l:N)::s).take k) f B).map dd.K)∨(x.1≠1/\e=[])
inductive aar(ax:tC)(vs:#[V])(H:ap)(Q:ca):Prop|mk(an:ap)(t h a1:L)(T:cn)(av:dV)(k l:O)(s:#[N])(x:b_)(b:#[dd])(aC n:O):(vs=[.K t,.R l,.K h,.K a1])->(l_ an H t T av)->(T.a2=k)->(hl H h s)->(eK H a1<|gU x)->(ax av k l s x b)->(em aC (n+gf b) T)->(∀af bd,fF H af->hd b T bd->dR an af t bd->Q .a0 af)->aar ax vs H Q
def u'(ax:tC):cq:=λvs H Q _=>aar ax vs H Q
inductive aas(vs:#[V])(H:ap)(Q:ca):Prop|mk(g:N)(b:L)(x:b_):(vs=[.R g,.K b])->(eK H b<|gU x)->(∀af p,bA H af->eK af p (gU (g,x.2.1,x.2.2))->Q (.K p) af)->aas vs H Q
def aat:cq:=λvs H Q _=>aas vs H Q
def Fy[ci]:cX bH 1 "inside" ["group","sort"] aat:=by
 show aDk.K ["group","sort"] λz H vs Q au j d aD=>?_;.let(g,b,x,rfl,h,k):=d;show(_,a_<|cy<|es<|ak (aK 0)<|ak (fW kR (aK 1) cm<|λ_ _=>rfl)<|ak (fW kR (aK 1) cm<|λ_ _=>rfl) aF,?_);let(c,e,i):=pt.1 h;show(_,aa,_,aa,b,_,1,.R x.2.1,aa,aa,fb e,aa,_,aa,b,_,2,.K c,aa,aa,fb e,aa,hc,λp f=>k _ p (cf f)<|iS f i)
def Qy{A:bW}{Q:ca}{t a1 h:L}{b:cn}{av:dV}{k l aC n:O}{st:#[N]}{x:b_}{a2:#[dd]}{a3 g:N}(y:l_ an H t b av)(aw:hl H a1 st)(a4:eK H h<|gU x)(a5:sm a3 g av k l st x a2)(a7:em aC (n+gf a2) b)
 (a6:∀af bd,fF H af->hd a2 b bd->dR an af t bd->Q .a0 af):
  nu (Ks<|UB (uF (VS aAv) (pg 3)<|gA<|.R 0)<|gA<|.R a3) (rZ<|Fj aAA "link" Fu qp (pg 0)<|ii (PW aat qp<|ii (gA<|.R g)<|ii (pg 3) kl)<|ii (Ap<|ii (gA<|.R 0)<|ii (pg 1)<|ii (pg 2) kl) kl) ph (Ae Q) [Y<|.K t,Y<|.R l,Y<|.K a1,Y<|.K h] H:=by
 let(c,e,a9):=pt.1 a4;show(_,aa,h,_,0,.R x.1,aa,aa,fb e,aa,x.1,a3,aa,aa,_,aa,dH (λm=>?_) λm=>?_)
 .let (_,rfl)||(ab,_):=a5;.let(ah,v,b0,w,b1,b2,b3,b4):=y.K.K;show(_,aa,t,ah,aa,v,w,_,aa,g,h,x,aa,a4,λal p f T=>(_,aa,_,aa,hc,λq j=>?_));let i:=cf (o:=.R [.R 0,.R l,.K a1]) j;show(an,t,p,q,b,_,_,aC,n,aa,y.K.R<|f.K i,T.K i.R,iS j<|aw.K f.R,a7,λU V a0 cS a8=>a6 U V ((f.K i).R.K a0) cS.a3 a8)
  simp_all
 .let (ab,_)||(_,rfl):=a5;.simp_all
  .show a6 H b (fF.R _) aa y.K
def aoR[ci]:cX bH 7 "react_fst" ["table","label","string","sort"]<|u'<|sm 2 2:=by
 show aDm.K ["table","label","string","sort"] λz H vs Q aW b d aD=>?_;.let(an,t,i,j,m,av,k,l,st,x,o,aC,n,rfl,y,p,aw,e,f,g,h):=d;show(_,a_<|dF (lS<|wd (fW kR (aK 3) cm<|λ_ _=>rfl)<|cH bD.a7) (a_<|cw<|gu (aK 0) bD.K.K bD.X b bm<|ak (dT Fy b bm<|ak (cH bD.a4)<|ak (aK 3) aF)<|ak (es<|ak (cH bD.S)<|ak (aK 1)<|ak (aK 2) aF) aF) d_,Qy (A:=iy bH [] "" (dh Fm) z H aW) y aw e f g h)
def aoS[ci]:cX bH 7 "react_snd" ["table","label","string","sort"]<|u'<|sm 2 3:=by
 show aDn.K ["table","label","string","sort"] λz H vs Q aW b d aD=>?_;.let(an,t,i,j,m,av,k,l,st,x,o,aC,n,rfl,y,p,aw,e,f,g,h):=d;show(_,a_<|dF (lS<|wd (fW kR (aK 3) cm<|λ_ _=>rfl)<|cH bD.a7) (a_<|cw<|gu (aK 0) bD.K.K bD.X b bm<|ak (dT Fy b bm<|ak (cH bD.a5)<|ak (aK 3) aF)<|ak (es<|ak (cH bD.S)<|ak (aK 1)<|ak (aK 2) aF) aF) d_,Qy (A:=iy bH [] "" (dh Fm) z H aW) y aw e f g h)
def aoT[ci]:cX bH 7 "react_get" ["table","label","string","sort"]<|u'<|sm 3 4:=by
 show aDo.K ["table","label","string","sort"] λz H vs Q aW b d aD=>?_;.let(an,t,i,j,m,av,k,l,st,x,o,aC,n,rfl,y,p,aw,e,f,g,h):=d;show(_,a_<|dF (lS<|wd (fW kR (aK 3) cm<|λ_ _=>rfl)<|cH bD.a8) (a_<|cw<|gu (aK 0) bD.K.K bD.X b bm<|ak (dT Fy b bm<|ak (cH bD.a3)<|ak (aK 3) aF)<|ak (es<|ak (cH bD.S)<|ak (aK 1)<|ak (aK 2) aF) aF) d_,Qy (A:=iy bH [] "" (dh Fm) z H aW) y aw e f g h)
def aoU[ci]:cX bH 7 "react_set" ["table","label","string","sort"]<|u' Qw:=by
 show aDp.K ["table","label","string","sort"] λz H vs Q aW b d aD=>?_
 .let(an,t,A,m,f,av,k,l,st,x,b0,aC,n,rfl,y,b1,aw,o,v,T,w):=d;show(_,a_<|dF (lS<|wd (fW kR (aK 3) cm<|λ_ _=>rfl)<|cH bD.a8) (a_<|cw<|gu (aK 0) bD.K.K bD.X b bm<|ak (fW kQ (dT bD.a0 b bm<|ak (aK 0)<|ak (aK 1)<|ak (aK 2) aF) cm<|λ_ _=>rfl)<|ak (dT Fy b bm<|ak (cH bD.a3)<|ak (aK 3) aF) aF) d_,?_);let(c,e,b2):=pt.1 o;show(_,aa,m,_,0,.R x.1,aa,aa,fb e,aa,x.1,3,aa,aa,_,aa,dH (λg=>?_) λg=>?_)
  .let (_,p,q,U,rfl)||(ab,_):=v;.let(ah,V,b3,a0,b4,b5,b6,b7):=y.K.K;show(_,aa,t,ah,aa,V,a0,_,aa,_,aa,_,aa,an,t,A,f,av,l,st,_,aa,y,aw,U,(oe aa),λb8 r h _ a1=>?_);let(xs,B,aB,a2,cd):=a1.K (i:=1) aa;show(r,xs,1,_,aa,aa,aB,a2,_,aa,4,m,x,aa,o.K h.R,λb9 a3 j a4=>(an,t,B,a3,f,_,_,aC,n,aa,y.K.R<|h.K j,cd.K j.R,a4,T,λa5 a6 a7 a8 a9=>w a5 a6 ((h.K j).R.K a7) a8.a3 a9))
   .show bB (eH g) ab
  .let (ab,_)||(_,rfl):=v;.show bB ab<|hj g
   .show w H f (fF.R _) aa y.K
def Qz{l T}(d:gC l T bd):hd (l.map dd.K) T bd:=by
 induction l generalizing T with
 |nil=>show d
 |cons o r b=>
  let(e,a,B):=d;show(e,.K a,b B)
theorem yD(l:#[cA]):gf (l.map dd.K)=↑l:=by
 induction l with
 |nil=>rfl
 |cons o r b=>
  rw[fg,AW,b,hs];change 1+↑r=_;show Tz 1 ↑r
theorem lq.R{u:bF}{a}(r:lq H a u)(s:bA H af):lq af a u:=r.imp (s _ _)<|by rintro⟨o,e⟩;show(o,s _ _ e)
theorem iA.S{H af:ap}{y:V}{a r}(g:iA H a y r)(s:bA H af):iA af a y r:=by
 let (aP,k,e,d)||(aP,k,B,e,ab,ag,b):=g;.show aQ (aP,k,e.R s,d)
 .show bl (aP,k,B,e.R s,ab,ag.K s.R,b)
def aoV(an:ap)(t b h:L)(l:O)(x:b_)(a1:L)(a2:#[N])(a3:L)(a4:#[N])(a5:ap)(a6:cn)(i:O)(D:ck)(af:ap):Prop:=(∃v,D=[Y<|.K t,Y<|.R l,Y<|.K b,Y<|.K h,Y<|.R x.2.1,Y<|.K a1,Y<|.K a3,v])/\fF a5 af/\∃bd,gC ((a2.take i).map λy=>cA.K (1,y,x.2.2) (1,y,a4)) a6 bd/\dR an af t bd
def aoW[ci]:cX bH 11 "react_call" ["table","label","string","sort"]<|u' Qx:=by
 show aDl.K ["table","label","string","sort","fun","made","inner","binder"] λz H vs Q aW m d aD=>?_
 .let(an,t,a8,a9,d2,av,k,l,st,x,j6,aC,n,rfl,y,f3,aw,f4,d3,b0,b8):=d;let f5:=lw m;show(_,ba (dF (lS<|UC (fW kR (aK 3) cm<|λ_ _=>rfl)<|cH bD.a6) (a_ UQ) d_)
  <|ba (ji (i:=4) aD aa (aQ aa)<|fW kR (aK 3) cm<|λ_ _=>rfl)
  <|ba (ji (i:=5) aD aa (aQ aa)<|fW kR (aK 3) cm<|λ_ _=>rfl)
  <|ba (ji (i:=6) aD aa (aQ aa)<|dT bD.a9 m bm<|ak (aK 1)<|ak (aK 2)<|ak (f' bD.K.K bD.K.a0<|aK 0) aF)
  <|ba (cw<|dT aaq m bm<|ak (aK 0)<|ak (aK 4)<|ak (aK 6) aF)
  <|ba (cw<|gu (aK 0) bD.K.K bD.X m bm<|ak (fW kQ (dT bD.a0 m bm<|ak (aK 0)<|ak (aK 1)<|ak (aK 2) aF) cm<|λ_ _=>rfl)<|ak (es<|ak (cH bD.a1)<|ak (aK 4)<|ak (aK 6) aF) aF)
  <|ba (jA jg aa (jz<|yq f5 (f' bD.R.K bD.R.a2<|f' bD.K.K bD.K.R<|aK 0) (aK 4)<|λ_ _=>rfl) (fB (i:=7) aD aa<|aQ aa)
   <|a_<|cw<|gu (aK 0) bD.K.K bD.X m bm<|ak (es<|ak (cH bD.a1)<|ak (aK 7)<|ak (aK 5) aF)<|ak (es<|ak (cH bD.a1)<|ak (aK 7)<|ak (aK 6) aF) aF)
  <|a_<|cw<|gu (aK 0) bD.K.K bD.X m bm<|ak (fW kQ (dT bD.a0 m bm<|ak (aK 0)<|ak (aK 4)<|ak (aK 6) aF) cm<|λ_ _=>rfl)<|ak (es<|ak (cH bD.S)<|ak (aK 1)<|ak (aK 2) aF) aF,?_);let(b9,e,d4):=pt.1 f4;show(_,aa,a9,_,0,.R x.1,aa,aa,fb e,aa,x.1,1,aa,aa,_,aa,dH (λh=>?_) λh=>?_)
  .let h:(!bp (x.1=1))=J:=h;let (ab,_)||(_,rfl):=d3;.rw[hp ab]at h;cases h
   .show b8 H d2 (fF.R _) aa y.K
  .let h:(!bp (x.1=1))=aX:=h;let (_,p,q,g,B,b,a4,f6,f7,f8,f9,g0,g1,d5,rfl)||(ab,_):=d3
   .exists g2;let(ah,j,b1,A,b2,b3,a5,a2):=y.K.K;rw[f3]at a2;show g2 (_,aa,a9,_,1,.R x.2.1,aa,aa,fb e,aa,_,aa,a9,_,2,.K b9,aa,aa,fb e,aa,_,aa,_,aa,_,aa,t,ah,_,aa,j,a2,l,a8,k,st,aa,aw,g1,λal a6 d6 aR=>?_);let d7:=y.S d6;let b4:=f7;generalize j7:((l:N)::st).take k=f at d5 b0 b8 aR;rw[AW,yD]at b0;show(_,aa,_,aa,_,aa,an,t,a6,d2,av,g,f,a4,aC,n+↑(tD l st q g x.2.2 f b B),by rw[b4],d7,aR,d5,by rw[show n+↑(tD l st q g x.2.2 f b B)+dd.X (.R g f<|a4 ↑av.K)=n+(dd.X (.R g f<|a4 ↑av.K)+↑(tD l st q g x.2.2 f b B)) by omega];show b0,λaH c0 d8 cl c1=>?_);exists g3;let qv:=em.a6 (by rw[show n+↑(tD l st q g x.2.2 f b B)+dd.X (.R g f<|a4 ↑av.K)=n+(dd.X (.R g f<|a4 ↑av.K)+↑(tD l st q g x.2.2 f b B)) by omega];show b0) cl;let d9:=d7.a0 cl.X c1;let c2:=d6.R.K d8;let g4:=aw.K c2;let j8:=d4.K c2;let e0:=aR.K d8;let g5:↑(tD l st q g x.2.2 f b B)=↑b+2:=by
     delta tD;rw[hs,cW,aV];rfl
    rw[g5]at qv;let(ah,j,b1,A,b2,b3,a5,a2):=c1.K;show g3 (_,aa,t,ah,aa,j,A,_,aa,_,aa,_,aa,an,t,a8,c0,av,l,st,_,aa,d9,g4,f6,(oe aa),λj9 g6 c3 _ g7=>?_);let(g8,g9,h0,h1,h2):=g7.K (i:=1) aa;show(g6,g8,1,_,aa,aa,h0,h1,_,aa,_,aa,hc,λh3 e1=>?_);let c4:=cf (o:=.R [.R 1,.R x.2.1,.K a6]) e1;show(an,t,g9,h3,c0,_,(1,(g:N),f),aC,n+↑b+1,aa,c1.R<|c3.K c4,h2.K c4.R,by rw[<- b4];show iS e1<|e0.K c3.R,by rw[show n+↑b+1+1=n+(↑b+2) by show mq (n+↑b) 1 1];show qv,λh4 b5 h5 b6 a3=>?_);exists h6;let e2:=em.X (by rw[show n+↑b+1+1=n+(↑b+2) by show mq (n+↑b) 1 1];show qv) b6;let e3:=(c3.K c4).R.K h5;let c5:=c2.K e3;let h7:=aw.K c5;let h8:=d4.K c5;let e4:=e0.K e3;let e5:=d9.X b6.K a3;let(ax,e6):=e5.R;let h9:=e6.K a3.S;let(e7,i0,e8):=aor e6 g0 f9;let i1:=i0.S a3.S;let i2:=a3.S _ _ e8;let(ah,j,b1,A,b2,b3,a5,a2):=a3.K;let k0:=cl.a0;let eG:=b6.a2;show h6 (_,aa,t,ah,_,aa,j,a5,b5.a1,_,_,aa,h9.R,aa,_,aa,ax.X,.K e7,aa,by rw[b4];show i1,e7,aa,(_,bZ i2),nv (xs:=b.map V.R) (aoV an t a8 a9 l x b9 b a6 f h4 b5)
     ((_,aa),fF.R _,b5,aa,a3) (λi D af _ d=>?_) (λi v D af e9 d=>?_)<|λD af d=>?_);.let(_,_,_,_,w):=d;show bZ<|w.S _ _ e8
    .exists i3;let((i4,rfl),T,b7,U,w):=d;exists i5;rw[cV]at e9;let(z,hz,rfl):=e_.1 e9;let f0:=(ff.1 hz).1;let(ah,j,b1,A,b2,b3,a5,a2):=w.K;show i5<|i3 (_,aa,t,ah,aa,j,A,_,aa,_,aa,hc,λi6 f1=>(_,aa,_,aa,hc,λc6 a7=>?_));let a0:=cf (o:=.R [.R 1,.R z,.K b9]) f1;let a1:=cf (o:=.R [.R 1,.R z,.K a6]) a7;let c7:=em.R (l:=(b.take i).map λy=>cA.K (1,y,x.2.2) (1,y,f)) (by
      rw[aV,iQ,show n+1+(↑b - i)+pS i ↑b=n+↑b+1 by omega];show e2) U;show(an,t,i6,c6,b7,_,_,aC,n,aa,w.R<|a0.K a1,(iS f1<|h8.K T).K a1.R,iS a7<|(e4.K T).K a0.R,c7.K<|by omega,λf2 c8 c9 d0 d1=>((_,aa),(T.K (a0.K a1).R).K c9,c8,?_,d1));rw[hF,hz,cs];show gC.K U d0.K
    .exists i7;let((i4,rfl),T,b7,U,w):=d;rw[aV,jQ]at U;let c7:=em.R (l:=b.map λy=>cA.K (1,y,x.2.2) (1,y,f)) (by
      rw[aV,show n+1+↑b=n+↑b+1 by omega];show e2) U;let i8:=e5.X U w;let f0:=e4.K T;let(ah,j,b1,A,b2,b3,a5,a2):=w.K;show i7 (_,aa,t,ah,aa,j,A,_,aa,_,aa,_,aa,an,t,a6,b7,av,g,f,_,by rw[b4],i8,f0,f8,(oe aa),λk1 i9 a0 _ j0=>?_);let(j1,j2,j3,j4,j5):=j0.K (i:=0) (c:=(0,B,f)) aa;show(i9,j1,0,_,aa,aa,j3,j4,_,aa,_,aa,hc,λc6 a7=>?_);let a1:=cf (o:=.R [.R 0,.R l,.K a8]) a7;show(an,t,j2,c6,b7,_,_,aC,n,aa,w.R<|a0.K a1,j5.K a1.R,iS a7<|(h7.K T).K a0.R,c7,λf2 c8 c9 d0 d1=>b8 f2 c8 (c5.K<|T.K<|(a0.K a1).R.K c9) (c0,cl,Qz (b5,b6,gC.K U d0.K)) d1)
   .rw[iv ab]at h;cases h
noncomputable def AZ:#[E×tC]:=[("call",Qx),("fst",sm 2 2),("snd",sm 2 3),("get",sm 3 4),("set",Qw)]
def QA(av:dV)(k:O)(x:b_)(w:N×#[N])(a:#[dd]):Prop:=∃(l:O)(kd:E)(ax:tC),w.1=l/\av.R[l]? =Y kd/\AZ.lookup kd=Y ax/\ax av k l w.2 x a
structure Fz(av:dV)(T:cn)(k:O)(c x:b_)(as:#[#[dd]]):Prop where
 K:eq (QA av k x) (dG T.S c) as
noncomputable def my(T:cn)(c x:b_)(as:#[#[dd]]):#[dd]:=(dG T.a0 c).map (λB=>dd.K<|.R B x)++as.flatten
inductive aau(vs:#[V])(H:ap)(Q:ca):Prop|mk(an:ap)(t b h:L)(T:cn)(av:dV)(k:O)(c x:b_)(as:#[#[dd]])(aC n:O):(vs=[.K t,.K b,.K h])->(l_ an H t T av)->(T.a2=k)->(eK H b<|gU c)->(eK H h<|gU x)->(Fz av T k c x as)->(em aC (n+gf (my T c x as)) T)->(∀af bd,fF H af->hd (my T c x as) T bd->dR an af t bd->Q .a0 af)->aau vs H Q
def aoX:cq:=λvs H Q _=>aau vs H Q
structure FA:Prop where
 K:∃a aj,aAy "REACTIONS"=Y (I a)/\mv aAv a aj/\∀kd ax,AZ.lookup kd=Y ax->∃f,jv kd aj=Y (.K f)/\ly aAw aAx aAv aAy aAB bH 11 f ["table","label","string","sort"] (u' ax)
theorem gC.S{l:#[b_]}{x:b_}{T bd:cn}(d:gC (l.map λB=>.R B x) T bd):bd.S=T.S:=by
 induction l generalizing T with
 |nil=>cases d;rfl
 |cons o r b=>
  let(e,a,B):=d;rw[b B]
  cases a with|R=>delta cn.a3;split<;>rfl
inductive aav(H:ap)(t:L)(T:cn):Prop|mk(ah:_):lX aAA H t ah->ah.lookup ("targets_of":E)=M->ah.lookup ("watchers_of":E)=M->ah.lookup ("too_large":E)=M->ah.lookup ("count_facts":E)=M->ah.lookup ("sorts_at":E)=M->ah.lookup ("sorts_in_any_string":E)=M->ah.lookup ("strings_of_body":E)=M->aav H t T
theorem dR.a0{t T}(x:dR an H t T):aav H t T:=by
 let(cb,cl,cS,de,w,b):=x.X;show(_,b,aa,aa,aa,aa,aa,aa,aa)
variable{l:#[E×E]} in
theorem FA.R(av:tx "REACTIONS" l)(d:∀kd ax,AZ.lookup kd=Y ax->∃ga,(kd,ga)>l/\cX bH 11 ga ["table","label","string","sort"] (u' ax)):FA:=by
 let(a,aj,ab,ag,b):=av.K;show(a,aj,ab,ag,λkd ax q=>?_);let(ga,e,f):=d kd ax q;show b kd ga e f
def aoZ{p:E->tC->Prop}(ab:p "call" Qx)(ag:p "fst"<|sm 2 2)(h:p "snd"<|sm 2 3)(a1:p "get"<|sm 3 4)(a2:p "set" Qw){kd:E}{ax:tC}(d:AZ.lookup kd=Y ax):p kd ax:=
 Qa (λq b=>by
  unfold AZ at b;simp only[cc,hD,or_false]at b;let rfl||rfl||rfl||rfl||rfl:=b<;>assumption) d
def apa[ci]:FA:=FA.R aBK λkd ax d=>by
 show aoZ (p:=λkd ax=>∃ga,(kd,ga)>Zd/\cX bH 11 ga ["table","label","string","sort"] (u' ax)) ?_ ?_ ?_ ?_ ?_ d;.show("react_call",⋯,aoW.K ⋯)
 .show("react_fst",⋯,aoR.K ⋯)
 .show("react_snd",⋯,aoS.K ⋯)
 .show("react_get",⋯,aoT.K ⋯)
 .show("react_set",⋯,aoU.K ⋯)
def apb(an:ap)(t h a1:L)(b:cn)(c x:b_)(al:ap)(a2:L)(a3:#[L])(i:O)(D:ck)(af:ap):Prop:=(∃e f g j,D=[Y<|.K t,Y<|.K h,Y<|.K a1,e,f,g,j])/\fF al af/\∃bd,gC (((dG b.a0 c).take i).map λB=>.R B x) b bd/\dR (a' an a2<|.K<|a3.map V.K) af t bd
def apc[ci]:cX bH 12 "pass_on" ["table","cell","sort"] aoX:=by
 show aDq.K ["table","cell","sort","target","label","string","react"] λz H vs Q aW A d aD=>?_
 .let(an,t,T,U,b,av,k,c,x,as,aC,n,rfl,y,g9,b1,b2,b3,a5,d4):=d;let(d5,d6,d7,d8,d9):=apa.K;show(_,ba (jA jg aa (jz<|gu (aK 0) bD.K.K bD.b3 A bm<|ak (aK 1) aF) (fB (i:=3) aD aa<|aQ aa)<|a_<|cw<|gu (aK 0) bD.K.K bD.a2 A bm<|ak (aK 3)<|ak (aK 2) aF)
  <|a_<|jA jg aa (jz<|gu (aK 0) bD.K.K bD.b4 A bm<|ak (aK 1) aF) (tg aa<|kk (fB (i:=4) aD aa<|aQ aa)<|kk (fB (i:=5) aD aa<|aQ aa) tf)
   <|ba (ji (i:=6) aD aa (aQ aa)<|AD (tv d7) (fW kQ (f' bD.R.K bD.R.R<|f' bD.K.K bD.K.R<|aK 0) (aK 4)<|λ_ _=>rfl)<|λ_ _=>rfl)
    <|a_<|cw<|PK (i:=6) aa (aQ aa) bm<|ak (aK 0)<|ak (aK 4)<|ak (aK 5)<|ak (aK 2) aF,?_);let(ah,f,a0,b4,_):=y.K.a0;show(_,aa,t,ah,aa,f,a0,_,aa,an,t,T,b,c,aa,y.K,b1,λal b5 e0 a6 b6 aB b7=>(b5,aa,(_,bZ aB),?_));let e1:gf (my b c x as)=↑(dG b.a0 c)+gf as.flatten:=by
   delta my;rw[u_,show(dG b.a0 c).map (λB=>dd.K<|.R B x)=((dG b.a0 c).map λB=>cA.R B x).map dd.K by rw[dX];rfl,yD,aV]
  rw[e1]at a5;let b8:=b7.length.symm;show nv (apb an t T U b c x al b5 e0)
   ((_,_,_,_,aa),fF.R _,b,aa,(y.K.a3 a6 b6 aB)) (λi D af _ d=>by let(_,_,_,_,y):=d;show bZ y.a1) (λi v D af l d=>?_)<|λD af d=>?_
  .exists e2;let((a1,a2,a3,a4,rfl),m,h,cl,e):=d;rw[cV]at l;let(B,o,rfl):=e_.1 l;let aR:i<↑(dG b.a0 c):=by
    rw[<- b8];show(ff.1 o).1
   let(e3,p,cd):=qo b7 (gi aR);rw[o]at p;cases p;let(ah,f,a0,_):=e.K;let qv:em aC (n+1+(↑(dG b.a0 c) -(i+1))+gf as.flatten) h:=em.R (by
    rw[aV,iQ];show a5.K<|by lia) cl;let(e4,e5,_):=(qv.K<|show 0+1<=_ by lia).S;show e2 (_,aa,t,ah,aa,f,a0,_,aa,_,aa,_,t,B,U,h,_,x,aa,e,cd.K m,(b2.K a6.R).K m,e4,e5,λb9 e6 a7=>((_,_,_,_,aa),m.K e6,_,?_,a7));rw[hF,gi aR,cs];show gC.K cl<|cA.S.K<|.R _ _ _
  .exists e7;let((a1,a2,a3,a4,rfl),m,h,cl,e):=d;rw[aV,b8,jQ]at cl;let e:=e.a4<|y.K.a2 b6;let qv:em aC (n+gf as.flatten) h:=em.R (by
    rw[aV];show a5.K<|by lia) cl;let c0:=a6.R.K m;let(ah,f,a0,b4,_):=e.a0;show e7 (_,aa,t,ah,aa,f,b4,_,aa,an,t,T,h,c,aa,e,b1.K c0,λb9 a8 c1 c2 c3 c4 a9=>(a8,aa,(_,bZ c4),?_));let a7:=e.a3 c2 c3 c4;let c5:=e.a2 c3;rw[(gC.S cl)]at a9;let c6:=a9.length.symm;let c7:=c0.K c2.R;show nv (λi D af=>(∃a1 a2 a3 a4,D=[Y<|.K t,Y<|.K T,Y<|.K U,a1,a2,a3,a4])/\fF b9 af/\∃bd,hd (as.take i).flatten h bd/\dR (a' an a8<|.K<|c1.map V.K) af t bd)
    ((_,_,_,_,aa),fF.R _,h,aa,a7) (λi D af _ d=>by let(_,_,_,_,y):=d;show bZ y.a1) (λi v D af l d=>?_)<|λD af d=>?_
   .exists e8;let((a1,a2,a3,a4,rfl),q,j,de,w):=d;rw[cV]at l;let(B,o,rfl):=e_.1 l;let aR:i<↑(dG b.S c):=by
     rw[<- c6];show(ff.1 o).1
    let(e3,p,cd):=qo a9 (gi aR);rw[o]at p;cases p;let(b0,e9,f0,kd,f1,c8,f2,f3,f4):=qo b3.K (gi aR);let(f5,f6,f7):=Qg.1 (cd.K q);let(g,f8,((dv,f9,g0),g1)):=d9 kd f1 f3;let c9:=de.R;let d0:=cl.R;let g2:lZ (a' an a8<|.K<|c1.map V.K) j.a1 av:=by
     rw[c9.1,d0.1];show y.R.K<|cf c5
    let(ax,d1):=g2;let d2:=d1.K w.S;let(ah,f,h0,h1,h2,h3,g3,h4):=w.K;let d3:(as.take<|i+1).flatten=(as.take i).flatten++b0:=by
     rw[hF,e9];simp
    let g4:em aC (n+gf b0) j:=em.a7 (qv.K<|by
     let ab:as.flatten=(as.take<|i+1).flatten++(as.drop<|i+1).flatten:=by
      rw[<- List.flatten_append,aye]
     rw[ab,d3,u_,u_];lia) de;show e8 (B,_,aa,(fb f6),aa,_,_,aa,_,_,aa,aa,_,aa,t,ah,_,aa,f,g3,j.a1,_,_,aa,d2.R,aa,_,aa,ax.K,_,_,.S kd,aa,aa,bZ d2.S,?_,d5,d6,kd,.K g,aa,aa,d8,f8,g,_,aa,((11,dv,_,f9,A,g0),g1),_,aa,_,aa,_,aa,_,aa,?_);.rw[c8];show lU<|by rw[cV,f2];rfl
    .show(_,t,f5,U,j,av,k,f0,_,x,b0,aC,n,by rw[c8],(w,(ax,d1)),by rwa [c9.2,d0.2],f7,(b2.K c7).K q,f4,g4,λh5 g5 g6 g7 g8=>((_,_,_,_,aa),q.K g6,g5,?_,g8));rw[d3];show hd.K de g7
   .let(_,q,j,de,w):=d;rw[aV,c6,<- b3.K.length.symm,jQ]at de;show d4 af j (c7.K q) (hd.K ?_ de)<|w.a4 c5;have:=Qz cl;rw[dX]at this;show this
section
variable{C:bW}{da:jj}{k j:O}{ar:L}{ay:#[E]}{bX:cq}{au:fQ}{x:E}{p:iK}{e:dD}{bf:#[dD]}{t:gP}
def yF(g:qt da k ar x ay bX)(b:fz j C.R)(h:kP da C au)(a1:jU C (e::bf) t)(a2:autoParam (k+1<=j) r_1)(a3:autoParam (jV C x) r_5)
 (a4:autoParam ((x==("__debug__":E))=aX) r_1)(a5:autoParam (er (e::bf) C.K=(aX,dx e C.K)::er bf C.K) r_5)(a6:autoParam ((h' bj<|er bf C.K).any (·.1)=aX) r_5):
  bn C (gw (ge x p) (e::bf) [] bj)<|Fl ar bX au t:=by
 let(f,av,i,aC):=g;show amK av aC (b.K a2) i h a1 a3 a4 a5 a6
def aaw(g:qt da k ar x ay bX)(b:fz j C.R)(h:kP da C au)(a1:autoParam (k+1<=j) r_1)(a2:autoParam (jV C x) r_5)
 (a3:autoParam ((x==("__debug__":E))=aX) r_1):bn C (gw (ge x p) [] [] bj)<|Fl ar bX au kl:=by
 let(f,av,e,aC):=g;show amP av aC (b.K a1) e h a2 a3
end
inductive aax(vs:#[V])(H:ap)(Q:ca):Prop|mk(an:ap)(t:L)(T:cn)(av:dV)(k:O)(W:#[b_×b_])(c x:b_)(as:#[#[dd]])(aC n:O):(vs=[.K t])->(l_ an H t T av)->(T.a2=k)->(T.X=W++[(c,x)])->(Fz av T k c x as)->(em aC (n+gf (my T c x as)) {T with X:=W})->(∀af bd,fF H af->hd (my T c x as) {T with X:=W} bd->dR an af t bd->Q .a0 af)->aax vs H Q
def apd:cq:=λvs H Q _=>aax vs H Q
def ape{eB:Type}{ax:α->eB->Prop}:∀{l:#[α]}{a:α}{m:#[eB]},eq ax (l++[a]) m->∃b B,m=b++[B]/\eq ax l b/\ax a B:=by
 intro l
 induction l with
 |nil=>intro _ _ d;cases d with|cons r t=>cases t;show([],_,aa,ed,r)
 |cons a l e=>
  intro _ _ d
  cases d with
  |cons r t=>
   let(b,B,rfl,p,q):=e t;show(_::b,B,aa,eS r p,q)
structure A_(av:dV)(p:L)(k:O)(BQ:dq)(b:cn->Prop)(h:cn->O):Prop where
 K:∀T,b T->T.a1=p/\T.a2=k
 step:∀T W c x,b T->T.X=W++[(c,x)]->(BQ=J->↑T.K+↑T.R<=400)->∃as aC,Fz av T k c x as/\em aC (gf<|my T c x as) {T with X:=W}/\
  ∀bd,hd (my T c x as) {T with X:=W} bd->b bd/\h bd<h T
noncomputable def sn(p:L)(k:O):cn:=(p,k,[],[],[],[],[])
inductive aay(vs:#[V])(H:ap)(Q:ca):Prop|mk(p:L)(k:O)(av:dV)(b:cn->Prop)(a1:cn->O)(h:O->#[cA])(aC:O):(vs=[.K p,.R k])->(lZ H p av)->(A_ av p k J b a1)->(tB av M [] h)->(em aC ↑(h ↑av.K)<|sn p k)->((∀bd,gC (h ↑av.K) (sn p k) bd->b bd))->(∀af t T,H t=M->dR H af t T->b T->(T.X=[]∨400<↑T.K+↑T.R)->Q (.K t) af)->aay vs H Q
def apf:cq:=λvs H Q _=>aay vs H Q
def aaz:fu ["program","most","table"] ["program","most"]<|dh Zh:=∅
def aaA[ci]:cX bH 13 "pass_on_next" ["table"] apd:=by
 show aDr.K ["table","fact"] λz H vs Q aW j d aD=>?_
 .let(an,t,a5,av,k,W,c,x,as,aC,n,rfl,y,l,m,o,p,v):=d;show(_,ba (ji (i:=1) aD aa (aQ aa)<|Pc pf Td ahe Pe<|f' bD.K.K bD.K.S<|aK 0)
  <|a_<|cw<|dT apc j bm<|ak (aK 0)<|ak (fW kR (aK 1) cm<|λ_ _=>rfl)<|ak (fW kR (aK 1) cm<|λ_ _=>rfl) aF,?_);exists w;let(cC,cb,cl,cS,de,qR,dg,z):=id y.K;let e:=z.K.a0;rw[m]at e;let(b,q,rfl,A,f,g,h,T,U):=ape e;let a0:=z.a3 A;let ef:fF H<|a' H qR<|.K<|b.map V.K:=wp z.K.R λ_=>bF.noConfusion;let aB:((b++[q]).map V.K)[↑((b++[q]).map V.K) - 1]? =Y (.K q):=by
   rw[cs,cW];simp
  let a1:((b++[q]).map V.K).dropLast=b.map V.K:=by
   rw[cs];simp
  show w (_,aa,t,_,_,aa,z.K.K,aa,ps z.K.R,qR,_,.K q,aa,aa,z.K.R,aB,?_);rw[a1];show(_,aa,_,aa,q,_,0,.K f,aa,aa,fb<|ef _ _ h,aa,_,aa,q,_,1,.K g,aa,aa,fb<|ef _ _ h,aa,(an,t,f,g,_,av,k,c,x,as,aC,n,aa,((cC,cb,cl,cS,de,qR,b,a0),y.R),l,T.K ef,U.K ef,⟨o.K⟩,p,λaH a2 a3 cl a4=>v aH a2 (ef.K a3) cl a4))
def apg[ci]:cX bH 14 "grow_table" ["program","most"] apf:=by
 show aDs.K _ (ai:=aaz) λz H vs Q aW h d _=>?_
 .let(p,k,av,A,l,a6,aC,rfl,U,V,a7,c3,dA,a0):=d;show(_,ba (ji (i:=2) aaz.K aa (aQ aa)<|yF aae h bm<|ak (aK 0)<|ak (aK 1) aF)
  <|ba (cw<|dT Qv h bm<|ak (aK 2)<|ak uC<|ak (es aF) aF)
  <|ba (x_ jg (lr.K<|xZ (uG (f' bD.K.K bD.K.S<|aK 2)<|λ_=>rfl)<|xX<|nt<|UG<|aou (aK 2) bD.K.K aad.K h bm)<|a_<|cw<|dT aaA h bm<|ak (aK 2) aF)
  <|a_<|cy<|aK 2,(_,aa,_,aa,λt aG gV aD a8=>(H,t,aG,p,k,aa,aa,gV,aD,a8,λal a9=>(aa,(_,aa,kT,λq o=>(H,t,q,sn p k,av,M,[],a6,aC,0,aa,(a9.R<|cf o,U),bG,a7,by rwa [od],λc4 a1 c5 cS b0=>(λm D af=>D=[Y<|.K p,Y<|.R k,Y<|.K t]/\∃T,A T/\dR H af t T/\m=l T,(_,aa,a1,dA a1 cS,b0,aa),?_)))))));rintro m D a2 ⟨rfl,b,j,f,rfl⟩;exists b1;let(cC,cb,cl,cS,de,qR,dg,z):=id f;let(ah,b2,c6,c7,b3,_):=f.a0;show b1 (_,aa,t,_,_,aa,z.K.K,aa,_,aQ (_,bZ z.K.R,aa),dH (λv=>?_) λv=>?_)
  .show(_,aa,t,ah,aa,b2,b3,H,t,b,aa,f,_,aa,dH (λg=>?_) λg=>?_)
   .exists b4;let b5:b.X≠[]:=λb6=>by
     have:=z.K.a0;rw[b6]at this;cases this;cases v
    obtain⟨W,⟨c,x⟩,a3⟩:∃W e,b.X=W++[e]:=(_,_,(ayf b5).symm);let(as,b7,b8,c8,a4):=V.step b W c x j a3 λ_=>by lia
    let(b9,c0):=V.K b j;show b4 (λaU af=>aU=[Y<|.K p,Y<|.R k,Y<|.K t]/\∃T,A T/\dR H af t T/\l T<l b,(by rintro aU af ⟨e,T,a,B,c⟩;show(_,c,e,T,a,B,aa)),(_,aa,H,t,b,av,k,W,c,x,as,b7,0,aa,(f,b9▸U),c0,a3,b8,by rwa [od],λc9 w _ a5 c1=>(aa,w,(a4 w a5).1,c1,(a4 w a5).2)))
   .let g:=eH (by
     cases o:bp<|400<↑b.K+↑b.R;.rw[o]at g;cases g
     .rfl);show(_,aa,a0 a2 t b gV f j<|bl g)
  .let c2:=by
    cases dg with|nil=>show Ke z.K.a0.length|cons a r=>cases v
   show rk (_,aa,a0 a2 t b gV f j<|aQ c2)
noncomputable def dV.a0(av:dV)(i:N):dq:=bp (0<=i)&&bp (i<↑av.R)
noncomputable def dV.a3(av:dV)(i:N)(kd:E):dq:=av.a0 i&&bp (av.R[i.toNat]? =Y kd)
noncomputable def jB(bu:#[E]):O->#[E]->#[N]|_,[]=>[]|n,k::r=>if k>bu then(n:N)::jB bu (n+1) r else jB bu (n+1) r
noncomputable def dV.S(av:dV)(bu:#[E]):#[N]:=jB bu 0 av.R
theorem aaB(bu:#[E])(k:E):∀l n,jB bu n (l++[k])=jB bu n l++if k>bu then[((n+↑l:O):N)]else[]
 |[],n=>by
  rfl
 |a::r,n=>by
  change(if a>bu then(n:N)::jB bu (n+1) (r++[k])else jB bu (n+1) (r++[k]))=(if a>bu then(n:N)::jB bu (n+1) r else jB bu (n+1) r)++_;rw[aaB bu k r<|n+1,hs,show n+1+↑r=n+(↑r+1) by show rX n ↑r];split<;>rfl
theorem FC(bu:#[E]):∀l n,↑(jB bu n l)<=↑l
 |[],_=>kD _
 |a::r,n=>by
  have:=FC bu r<|n+1;change↑(if a>bu then(n:N)::jB bu (n+1) r else jB bu (n+1) r)<=_;split<;>simp<;>lia
def aph{a xs g}(Pv:O->ap->Prop)(h:Pv 0<|a' al aj<|.K [])(a1:∀i H,i<=↑xs->Pv i H->fa aAv H a xs)
 (aw:∀i x H T,xs[i]? =Y x->Pv i H->H T=M->DP g a2 ej vs D aj (Pv<|i+1) (.K T) (a' H T<|.R [.R (i:O),x]))(a3:∀H,Pv ↑xs H->a4 H):
  wi (DU aAv a) g a2 ej vs D al aj a4:=by
 show(λi m H=>m=↑xs - i/\i<=↑xs/\Pv i H,(↑xs,eW<|ul ↑xs,ex _,h),?_);rintro i m H ⟨rfl,aR,p⟩;let q:=a1 i H aR p;by_cases b:i<↑xs;.show bl ((xs,xs[i],q,by simp[b]),Pv<|i+1,λaf e=>(↑xs -(i+1),um ↑xs i b,aa,b,e),λx af y=>?_);let(T,v,rfl,f,rfl,y):=y;show aw i v H T (y xs q) p f
 .obtain rfl:i=↑xs:=by lia
  show aQ ((xs,q,dw),a3 H p)
theorem A'{k}:∀{bu:#[E]},uK (.S k) (bu.map V.S)=bp (k>bu)
 |[]=>rfl
 |a::r=>by
  change(ri (.S a) (.S k)||uK (.S k) (r.map V.S))=_;rw[A'];change((a==k)||bp (k>r))=bp (k>a::r);grind
def aaC(bu:#[E]):(bu.map V.S).all qm=J:=by
 rw[Hs,jS];intro _ _;rfl
inductive aaD(vs:#[V])(H:ap)(Q:ca):Prop|mk(p:L)(av:dV)(i:N):(vs=[.K p,.R i])->(lZ H p av)->(Q (.X<|av.a0 i) H)->aaD vs H Q
def QB:cq:=λvs H Q _=>aaD vs H Q
inductive aaF(vs:#[V])(H:ap)(Q:ca):Prop|mk(p:L)(av:dV)(i:N)(kd:E):(vs=[.K p,.R i,.S kd])->(lZ H p av)->(Q (.X<|av.a3 i kd) H)->aaF vs H Q
def api:cq:=λvs H Q _=>aaF vs H Q
inductive aaG(vs:#[V])(H:ap)(Q:ca):Prop|mk(p b:L)(av:dV)(bu:#[E]):(vs=[.K p,.K b])->(lZ H p av)->(H b=Y (.R<|bu.map V.S))->(↑av.R<=1000)->(∀af r,bA H af->H r=M->af r=Y (.K<|(av.S bu).map V.R)->Q (.K r) af)->aaG vs H Q
def apj:cq:=λvs H Q _=>aaG vs H Q
inductive aaH(vs:#[V])(H:ap)(Q:ca):Prop|mk(p:L)(av:dV)(kd:E):(vs=[.K p,.S kd])->(lZ H p av)->(Q (.R (av.R.countP λk=>k==kd:O)) H)->aaH vs H Q
def apk:cq:=λvs H Q _=>aaH vs H Q
def apl:pk ["self","kinds","label","kind"] (dh Zi) (tz [(".0",gp),("label",gp),("kind",gp),("kinds",gX)]) [("label",2),("kind",3)]:=(aa,by rfl',by rfl',by rfl',by rfl')
def aaK[ci]:eD bH 1 aAC "has_node" ["self","label"] QB:=by
 show aCe.K aAR.K ["self","label"] λz H vs Q aW f d aD=>?_
 .let(p,av,i,rfl,(ax,e),k):=d;show(_,a_<|cy<|aiT ti KH cm (aK 1)<|mW Aw aa aAV aa<|ak (f' aAR.K aAR.R<|aK 0) aF,(_,aa,0,i,aa,aa,_,aa,dH (λb=>?_) λb=>?_));.let b:=eH b;show(_,aa,p,_,_,aa,e.R,aa,ax.K,_,aa,aQ<|bZ e.S,i,_,aa,aa,?_);delta dV.a0 at k;rw[hp b]at k;rwa [aV]
  .let b:=hj b;delta dV.a0 at k;rw[iv b]at k;show k
def aaP[ci]:eD bH 2 aAC "is_kind" ["self","label","kind"] api:=by
 show aCf.K aAR.K ["self","label","kind"] λz H vs Q aW j d aD=>?_
 .let(p,av,i,kd,rfl,g,k):=d;show(_,a_<|cy<|Aj (gu (aK 0) aAR.K aaK.K j bm<|ak (aK 1) aF)<|Di<|tj ql (fW kQ (f' aAR.K aAR.R<|aK 0) (aK 1)<|λ_ _=>rfl) (aK 2) aa,?_);let(ax,f):=id g;delta dV.a3 at k;show(_,aa,p,_,aa,f.R,aa,_,aa,p,av,i,aa,g,_,aa,dH (λb=>?_) λb=>?_)
  .rw[b,rV]at k;delta dV.a0 at b;rw[fV]at b;let ab:=eH b.1;let ag:=eH b.2;let h:i.toNat<↑av.R:=(ayg ab).mpr ag;let l:=Ka ab;let ea:=by
    have:=lU (xs:=av.R.map V.S) (v:=.S av.R[i.toNat]) (by rw[cV,gi h];show agr av.R[i.toNat] V.S);rw[l]at this;show this
   show(_,aa,p,_,_,aa,f.R,aa,_,aa,ax.K,_,i,_,aa,aa,bZ f.S,ea,_,aa,aa,?_);rw[gi h]at k;let e:bp (V.S av.R[i.toNat]=V.S kd)=bp (Y av.R[i.toNat]=Y kd):=by
    rw[nr];simp
   rwa [e]
  .rw[b,xC]at k;show k
def aaQ[ci]:eD bH 1 aAC "count_kind" ["self","kind"] apk:=by
 show aCg.K aAR.K ["self","kind"] λz H vs Q aW e d aD=>?_;.let(p,av,kd,rfl,(ax,b),k):=d;show(_,a_<|cy<|tk pf axW PySem.F.type_list_count amB (f' aAR.K aAR.R<|aK 0)<|ak (aK 1) aF,(_,aa,p,_,_,aa,b.R,aa,ps b.S,_,aa,ax.K,_,_,aa,aa,bZ b.S,aa,aaC _,?_));rwa [ayh]
def Ba[ci]:eD bH 1 aAC "labels_of" ["self","kinds"] apj:=by
 show aCh.K aAR.K ["self","kinds","label","kind"] λz H vs Q aW a2 d aD=>?_
 .let(p,U,av,bu,rfl,(ax,m),a0,a3,k):=d;show(_,a_<|cy<|tl aa aD (PA aa aBb<|ak (f' aAR.K aAR.R<|aK 0) aF) apl
   (λs H w bw x=>tg aa<|kk (fB (i:=2) aD aa (aQ aa)<|bl aa)<|kk (fB (i:=3) aD aa (aQ aa)<|bl aa) tf) (λs H w bw x=>akg<|nw (r:=Pb aAv aX) ajG (aK 3) (aK 1) aa)
  <|λs H w bw x=>aK 2,(_,aa,p,_,_,aa,m.R,aa,ax.K,_,aa,bZ m.S,λaj q=>aph (λi f=>bA H f/\f aj=Y (.K<|(jB bu 0<|av.R.take i).map V.R)) ((cf q),bG) (λi f _ d=>bZ<|d.1 _ _ m.S) (λi v f a A d a1=>?_)<|λf d=>?_))
  .let(g,h):=d;rw[cV]at A;let(kd,T,rfl):=e_.1 A;let aR:=(ff.1 T).1;let j:=cf (o:=.R [.R (i:O),.S kd]) a1;let l:jB bu 0 (av.R.take<|i+1)=jB bu 0 (av.R.take i)++if kd>bu then[((i:O):N)]else[]:=by
    rw[hF,T];change jB bu 0 (av.R.take i++[kd])=_;rw[aaB,iQ,show 0+pS i ↑av.R=i by lia]
   show(a,_,aa,fb bG,aa,_,_,aa,_,_,aa,aa,aa,_,aa,_,aa,U,_,aa,bl<|fb<|j _ _<|g _ _ a0,aa,aaC _,_,aa,dH (λb=>?_) λb=>?_)
   .rw[A']at b;let b:=eH b;rw[bK b]at l;show(_,aa,_,j _ _ h,?_,λB o e=>?_,?_)
    .rw[aV];have:=FC bu (av.R.take i) 0;rw[iQ]at this;have:1000<ch:=⋯
     lia
    .rw[bS<|fj e q];show j _ _<|g _ _ e
    .rw[bG,l,cs];rfl
   .rw[A']at b;let b:=hj b;rw[be b,e']at l;show(g.K j,?_);rw[l];show j _ _ h
  .let(g,h):=d;rw[aV,jQ]at h;show k f aj g q h
noncomputable def tF(av:dV)(b:O->#[cA])(hP:N->O->#[cA]):#[dd]:=(b ↑av.K).map dd.K++(av.S ["fun"]).map λf=>dd.R f []<|hP f ↑av.K
inductive aaR(vs:#[V])(H:ap)(Q:ca):Prop|mk(p:L)(av:dV)(b:cn->Prop)(a1:cn->O)(h:O->#[cA])(hP:N->O->#[cA])(aC:O):(vs=[.K p])->(lZ H p av)->(↑av.R<=1000)->(A_ av p 0 aX b a1)->(tB av M [] h)->((∀f∈av.S ["fun"],tB av (Y f) [] (hP f)))->(em aC (gf<|tF av h hP)<|sn p 0)->((∀bd,hd (tF av h hP) (sn p 0) bd->b bd))->(∀af t T,H t=M->dR H af t T->b T->T.X=[]->Q (.K t) af)->aaR vs H Q
def apm:cq:=λvs H Q _=>aaR vs H Q
def QC:fu ["program","table","fun"] ["program"]<|dh Zj:=∅
def apn(H:ap)(p:L)(av:dV)(hP:N->O->#[cA])(t:L)(b:cn)(r:L)(i:O)(D:ck)(af:ap):Prop:=(∃v,D=[Y<|.K p,Y<|.K t,v])/\∃bd,hd (((av.S ["fun"]).take i).map λf=>dd.R f []<|hP f ↑av.K) b bd/\dR (a' H r<|.K<|(av.S ["fun"]).map V.R) af t bd
def apo[ci]:cX bH 14 "grow_table_without_strings" ["program"] apm:=by
 show aDt.K _ (ai:=QC) λz H vs Q aW j d _=>?_
 .let(p,av,a5,U,V,hP,aC,rfl,A,c1,a6,c2,c3,c4,dA,c5):=d;show(_,ba (ji (i:=1) QC.K aa (aQ aa)<|yF aae j bm<|ak (aK 0)<|ak cm aF)
  <|ba (cw<|dT Qv j bm<|ak (aK 1)<|ak uC<|ak (es aF) aF)
  <|ba (jA jg aa (jz<|gu (aK 0) bD.R.K Ba.K j bm<|ak (es<|ak gR aF) aF) (fB (i:=2) QC.K aa<|aQ aa)<|a_<|cw<|dT aaq j bm<|ak (aK 1)<|ak (aK 2)<|ak (es aF) aF)
  <|ba (x_ jg (uG (f' bD.K.K bD.K.S<|aK 1)<|λ_=>rfl)<|a_<|cw<|dT aaA j bm<|ak (aK 1) aF)
  <|a_<|cy<|aK 1,(_,aa,λt aG gV aD c6=>(H,t,aG,p,0,aa,aa,gV,aD,c6,λal c7=>(aa,(_,aa,kT,λq c8=>?_)))));let c9:gf (tF av V hP)=↑(V ↑av.K)+gf ((av.S ["fun"]).map λf=>dd.R f []<|hP f ↑av.K):=by
   delta tF;rw[u_,yD]
  rw[c9]at c4;show(H,t,q,sn p 0,av,M,[],V,aC,gf<|(av.S ["fun"]).map λf=>dd.R f []<|hP f ↑av.K,aa,(c7.R<|cf (o:=.R []) c8,A),bG,c2,by rwa [Tz],λf4 a7 f5 cS a8=>?_);let(ax,d0):=id A;let a9:=d0.K a8.S;let d1:=cS.R;show(_,aa,p,_,aa,a9.R,aa,hZ,λd2 d3=>?_);let b0:=cf (o:=.R [.S "fun"]) d3;let b1:=a8.R b0;show(p,d2,av,["fun"],aa,(ax,a9.K b0),bG,c1,λd4 r d5 b2 b3=>(r,aa,(_,bZ b3),?_));let a0:=b1.a3 d5 b2 b3;let b4:=b1.a2 b2;show nv (apn H p av hP t a7 r)
   ((_,aa),a7,aa,a0) (λi D af _ d=>by let(_,_,_,y):=d;show bZ y.a1) (λi v D af b5 d=>?_)<|λD af d=>?_
  .let((d6,rfl),l,h,w):=d;rw[cV]at b5;let(b,b6,rfl):=e_.1 b5;show(_,aa,_,aa,kT,λd7 d8=>?_);let d9:=cf (o:=.R []) d8;let b7:((av.S ["fun"]).take<|i+1).map (λf=>dd.R f []<|hP f ↑av.K)=((av.S ["fun"]).take i).map (λf=>dd.R f []<|hP f ↑av.K)++[dd.R b []<|hP b ↑av.K]:=by
    rw[hF,b6,cs];rfl
   let f6:em aC (dd.X<|.R b []<|hP b ↑av.K) l:=em.a7 ((em.R (by rwa [Tz]) cS).K<|by
    let ab:(av.S ["fun"]).map (λf=>dd.R f []<|hP f ↑av.K)=((av.S ["fun"]).take<|i+1).map (λf=>dd.R f []<|hP f ↑av.K)++((av.S ["fun"]).drop<|i+1).map λf=>dd.R f []<|hP f ↑av.K:=by
     rw[<- cs,aye]
    rw[ab,b7,u_,u_,AW];lia) h;let e0:=h.R;show(_,t,d7,l,av,b,[],hP b,aC,0,aa,(w.R d9,by rw[e0.1,d1.1];show A.K<|cf b4),bG,c3 b<|gs b6,by rwa [od],λf7 e1 f8 e2 e3=>((_,aa),e1,?_,e3));rw[b7];show hd.K h e2.X
  .let((d6,rfl),l,h,w):=d;rw[aV,jQ]at h;let w:=w.a4 b4;let e4:=dA l<|hd.K (Qz cS) h;show(λm D af=>(∃v,D=[Y<|.K p,Y<|.K t,v])/\∃T,a5 T/\dR H af t T/\m=U T,(_,(_,aa),l,e4,w,aa),?_);rintro m D e5 ⟨⟨f9,rfl⟩,g,a1,a2,rfl⟩;let(cC,cb,cl,cS,de,qR,dg,z):=id a2;show(_,aa,t,_,_,aa,z.K.K,aa,_,aQ (_,bZ z.K.R,aa),dH (λa3=>?_) λa3=>?_)
   .exists e6;let e7:g.X≠[]:=λe8=>by
     have:=z.K.a0;rw[e8]at this;cases this;cases a3
    obtain⟨W,⟨c,x⟩,b8⟩:∃W e,g.X=W++[e]:=(_,_,(ayf e7).symm);let(as,e9,f0,g0,b9):=a6.step g W c x a1 b8 (λz=>nomatch z);let(f1,f2):=a6.K g a1;show e6 (λaU af=>(∃v,aU=[Y<|.K p,Y<|.K t,v])/\∃T,a5 T/\dR H af t T/\U T<U g,(by rintro aU af ⟨e,T,a,B,c⟩;show(_,c,e,T,a,B,aa)),(_,aa,H,t,g,av,0,W,c,x,as,e9,0,aa,(a2,f1▸A),f2,b8,f0,by rwa [od],λd4 a4 _ c0 a0=>((_,aa),a4,(b9 a4 c0).1,a0,(b9 a4 c0).2)))
   .let f3:=by
     let ab:=z.K.a0.length
     cases dg with|nil=>show Ke ab|cons a r=>cases a3
    show(_,aa,c5 e5 t g gV a2 a1 f3)
structure nz(H:ap)(t:L)(T:cn)(av:dV):Prop where
 R:∃an,l_ an H t T av
theorem nz.K{H af:ap}{t T av}(x:nz H t T av)(s:bA H af):nz af t T av:=by
 let(an,x):=x;show(an,x.S s)
theorem hb.K{l ay}(x:hb H l ay)(s:bA H af):hb af l ay:=by
 let(b,e,f):=x;show(b,s _ _ e,lp f λ_ _ z=>s _ _ z)
set_option tactic.hygienic true in
theorem aaS(bu:#[E])(x:N):∀l n,x>jB bu n l↔∃i k,x=((n+i:O):N)/\l[i]? =Y k/\k>bu
 |[],n=>by
  constructor;.intro d;cases d
  .rintro⟨i,k,_,d,_⟩;cases d
 |a::r,n=>by
  change x>(if a>bu then(n:N)::jB bu (n+1) r else jB bu (n+1) r)↔_
  let e:(∃i k,x=((n+i:O):N)/\(a::r)[i]? =Y k/\k>bu)↔(x=(n:N)/\a>bu)∨x>jB bu (n+1) r:=by
   rw[(aaS bu x r<|n+1)];constructor
   .rintro⟨i,k,ab,ag,b⟩
    cases i with
    |zero=>
     cases ag;show aQ (ab,b)
    |succ i=>show bl (i,k,by rw[ab];congr 1;show eW<|rX n i,ag,b)
   .rintro(⟨ab,ag⟩|⟨i,k,ab,ag,b⟩);.show(0,a,ab,aa,ag)
    .show(i+1,k,by rw[ab];congr 1;show rX n i,ag,b)
  rw[e];split;.rename_i d;rw[cc];show(λq=>q.imp (λz=>(z,d)) id,λq=>q.imp (λz=>z.1) id)
  .rename_i d;show(bl,λq=>q.elim (λz=>bB z.2 d) id)
def apq{av:dV}{bu:#[E]}{x:N}:x>av.S bu↔∃(i:O)(k:E),x=(i:N)/\av.R[i]? =Y k/\k>bu:=by
 delta dV.S;rw[aaS];simp only[od]
theorem rm.X{b g l ay}(d:rm b g l ay):↑ay<=↑b:=by
 have:↑ay<=↑(b.map λf=>((f.2.1,f.2.2.1):N×N)):=Kd d.R λp e=>by
  let(s,aT,h):=(d.K p).mp e;show bx.2 (_,h,aa)
 simp_all
noncomputable def lB(b:N)(h:#[N×N]):#[N×N]:=(h.filter λp=>bp<|p.1=1).map λp=>(b,p.2)
def FD(av:dV)(b:#[b_×b_])(h:N)(a1:#[N×N]):Prop:=∃(i:O)(q:N)(r:#[N]),h=(i:N)/\av.X[i]? =Y (q::r)/\rm b 0 q a1
structure FF(av:dV)(h:#[b_×b_])(ay:#[N×N]):Prop where
 K:∃b,eq (FD av h) (av.S ["call"]) b/\ay=((av.S ["call"]).zip b).flatMap λe=>lB e.1 e.2
inductive aaT(vs:#[V])(H:ap)(Q:ca):Prop|mk(t:L)(T:cn)(av:dV):(vs=[.K t])->(nz H t T av)->(↑av.R<=1000)->(↑T.K<10000)->((∀i:O,av.R[i]? =Y ("call":E)->∃q r,av.X[i]? =Y (q::r)))->(∀af r ay,bA H af->H r=M->hb af r ay->FF av T.K ay->Q (.K r) af)->aaT vs H Q
def apr:cq:=λvs H Q _=>aaT vs H Q
theorem hb.R{l a ay i j}(x:hb H l ay)(h:H a=M):∃b,H l=Y (.K b)/\↑b=↑ay/\hb (a' (a' H a<|.R [.R i,.R j]) l<|.K<|b++[.K a]) l (ay++[(i,j)]):=by
 let(b,e,f):=x;show(_,e,by rw[aV];show f.length.symm,b++[a],by rw[bG,cs];rfl,?_);let g:∀B xs,(a' H a<|.R [.R i,.R j]) B=Y (.R xs)->B≠l:=λB xs d=>qi d (cf h _ _ e) λz=>(by cases z);show ux (lp f λp B d=>?_) ?_;.let bg:=cf (o:=.R [.R i,.R j]) h _ _ d;rwa [bS<|g _ _ bg]
 .rw[bS<|g a _ bG,bG]
def aps(t:L)(b:cn)(av:dV)(dS:L)(h:ap->Prop)(i:O)(D:ck)(af:ap):Prop:=(∃g j l,D=[Y<|.K t,Y<|.K dS,Y<|.K b.a1,g,j,l])/\h af/\∃f ay,eq (FD av b.K) ((av.S ["call"]).take i) f/\ay=(((av.S ["call"]).take i).zip f).flatMap (λe=>lB e.1 e.2)/\↑ay<=i*↑b.K/\hb af dS ay
def apt(t:L)(a1:cn)(dS:L)(b h:bs V)(ay:#[N×N])(n:O)(B:L)(a2:ap)(a3:#[N×N])(j:O)(D:ck)(af:ap):Prop:=(∃b h,D=[Y<|.K t,Y<|.K dS,Y<|.K a1.a1,Y<|.R n,b,h])/\(∀B o,a2 B=Y o->B≠dS->af B=Y o)/\hb af dS (ay++lB n (a3.take j))
def aaU[ci]:cX bH 5 "find_arrows" ["table"] apr:=by
 show aDu.K ["table","arrows","program","site","what","label"] λz H vs Q aW b1 d aD=>?_
 .let(t,f,av,rfl,x,d2,b2,d3,d4):=d;show(_,ba (ji (i:=1) aD aa (aQ aa)<|eP aF)<|ba (ji (i:=2) aD aa (aQ aa)<|f' bD.K.K bD.K.R<|aK 0)
  <|ba (jA jg aa (jz<|gu (aK 2) bD.R.K Ba.K b1 bm<|ak (es<|ak gR aF) aF) (fB (i:=3) aD aa<|aQ aa)
   <|a_<|jA jg aa (jz<|gu (aK 0) bD.K.K AT.K b1 bm<|ak (cH bD.S)<|ak (fW kQ (fW kQ (f' bD.R.K bD.R.S<|aK 2) (aK 3)<|λ_ _=>rfl) cm<|λ_ _=>rfl) aF) (tg aa<|kk (fB (i:=4) aD aa<|aQ aa)<|kk (fB (i:=5) aD aa<|aQ aa) tf)
    <|a_<|dF (lS<|wd (aK 4)<|cH bD.a6) (a_<|cw<|tk pf v' zX Ax (aK 1)<|ak (es<|ak (aK 3)<|ak (aK 5) aF) aF) d_)
  <|a_<|cy<|aK 1,(kT,λdS a2=>?_));exists d5;let b3:bA H<|a' H dS<|.K []:=cf a2;let d6:=x.K b3;let(an,a3):=id d6;let(ah,d7,h9,i0,i1,i2,d8,b4):=a3.K.K;let(ax,d9):=a3.R;let a4:=d9.K a3.K.S;show d5 (_,aa,t,ah,_,aa,d7,d8,(_,aa,f.a1,_,aa,a4.R,aa,hZ,λq e0=>?_));let l:=cf (o:=.R [.S "call"]) e0;show(f.a1,q,av,["call"],aa,(ax,a4.K l),bG,d2,λe1 r a5 e2 b5=>(r,aa,(_,bZ b5),?_));let e3:hb (a' H dS<|.K []) dS []:=([],bG,ed);let i3:=(a4.K l).K a5;let' b6:ap->Prop:=λaf=>∀B o,e1 B=Y o->B≠dS->af B=Y o;let e4:∀{B:L}{o:bF},H B=Y o->B≠dS:=λe=>fj e a2;let b7:∀af,b6 af->bA H af:=λaf d B o e=>d B o (a5 _ _<|l _ _<|b3 _ _ e)<|e4 e;let e5:=(fj (l _ _<|bG) e2).symm;let e6:↑f.K<ch:=s_ b2 ⋯;show nv (aps t f av dS b6)
   ((_,_,_,aa),λB o e _=>e,[],[],ed,aa,CV.1 aa,(e3.K l).K a5) (λi D af _ d=>bZ<|d.2.1 _ _ b5 e5) (λi v D af m d=>?_)<|λD af d=>?_
  .exists a6;let((e7,b8,b9,rfl),A,T,ay,p,U,c0,V):=d;rw[cV]at m;let(i4,a0,rfl):=e_.1 m;let aR:=(ff.1 a0).1;let e8:i<1000:=by
    have:=FC ["call"] av.R 0;unfold dV.S at aR;omega
   let(n,kd,rfl,e9,f0):=apq.1 (gs a0);let f1:av.R[n]? =Y "call":=by
    rw[e9];simpa using f0
   let(a7,f2,c1):=d3 n f1;let f3:=b7 af A;let f4:=x.K f3;let(en,a1):=id f4;let(f5,f6):=a1.R;let a8:=f6.K a1.K.S;let(pK,f7,i5,i6,i7,i8,i9,f8,j0):=a1.K.a0;let(B,f9,g0):=qo a8.a0 c1;show a6 (_,aa,t,pK,aa,f7,f8,_,aa,f.a1,_,_,aa,a8.R,aa,_,aa,f5.R,_,_,.K B,aa,aa,bZ a8.X,lU<|by rw[cV,f9];rfl,B,_,0,.R a7,aa,aa,bZ g0,lU aa,?_);show(en,t,f,0,a7,aa,a1.K,e6,λc2 g1 b c3 g2 g3 c4=>?_);let(j1,c5,a9):=id g3;show(g1,aa,(_,bZ c5),?_);let g4:=c4.X;let c6:=V.K c3;let g5:=(fj V.choose_spec.1 g2).symm;show nv (apt t f dS b8 b9 ay n B c2 b)
    ((_,_,aa),λB o e _=>e,?_) (λj D af _ d=>bZ<|d.2.1 _ _ c5 g5) (λj v D g6 m d=>?_)<|λD g6 d=>?_;.rw[zW];change hb c2 dS<|ay++[];rw[e'];show c6
   .exists g7;let((g8,g9,rfl),w,h):=d;rw[cV]at m;let(h0,c7,rfl):=e_.1 m;let c8:j<↑b:=by
     rw[a9.length];show(ff.1 c7).1
    let(j2,c9,d0):=qo a9 (gi c8);rw[c7]at c9;cases c9;let h1:=w _ _ d0<|qi d0 c6.choose_spec.1 λz=>nomatch z;let d1:b.take (j+1)=b.take j++[b[j]]:=by rw[hF,gi c8];rfl
    let j3:↑(lB n<|b.take j)<=j:=by
     delta lB;rw[aV];show db (qe _ _) ?_;rw[iQ];show Nat.min_le_left j ↑b
    show g7 (h0,_,aa,fb h1,aa,_,_,aa,_,_,aa,aa,_,aa,_,_,aa,aa,_,aa,dH (λg=>?_) λg=>?_)
    .let g:=eH g;let(j4,h2,_):=id h;show(_,aa,ps h2,_,aa,_,aa,mX,λh3 b0=>?_);exists a6;let(h4,h5,b4,h6):=h.R b0;show a6 (dS,h4,.K h3,aa,aa,cf b0 _ _ h5,?_,(_,_,aa),λB o e d=>?_,?_)
     .rw[b4,cW];let ag:i*↑f.K<=1000*10000:=ahf (lm e8)<|lm b2;have:10010001<ch:=⋯
      omega
     .rw[bS d];show cf b0 _ _<|w _ _ e d
     .rw[d1];have:lB n (b.take j++[b[j]])=lB n (b.take j)++[((n:N),b[j].2)]:=by
       delta lB;rw[ta,cs,pe,bK<|hp g];rfl
      rw[this,<- fi];show h6
    .let g:=hj g;show((_,_,aa),w,?_);rw[d1];have:lB n (b.take j++[b[j]])=lB n (b.take j):=by
      delta lB;rw[ta,cs,pe,be<|by rw[rR];show g];show List.append_right_eq_self.2 aa
     rw[this];show h
   .let((g8,g9,rfl),w,h):=d;rw[aV,<- a9.length,jQ]at h;show((_,_,_,aa),λB o e d=>w _ _ (c3 _ _<|A _ _ e d) d,T++[b],ay++lB n b,?_,?_,?_,h);.rw[hF,a0];show ux p (n,a7,f2,aa,c1,c4)
    .rw[hF,a0];let h7:=p.length;change _=List.flatMap _ ((Co i (av.S ["call"])++[(n:N)]).zip<|T++[b]);rw[TA h7,vS,<- U];simp
    .rw[cW,xB];have:↑(lB n b)<=↑f.K:=by
      delta lB;rw[aV];show db (qe _ _) g4
     show z_ c0 this
  .exists h8;let((e7,b8,b9,rfl),A,T,ay,p,U,c0,V):=d;rw[aV,jQ]at p U;show h8 (_,aa,d4 af dS ay (b7 af A) a2 V (T,p,U))
noncomputable def kU{α:Type}(p:α->dq):O->#[α]->#[N]|_,[]=>[]|n,a::r=>if p a=J then(n:N)::kU p (n+1) r else kU p (n+1) r
theorem aaV{α:Type}(p:α->dq)(k:α):∀l n,kU p n (l++[k])=kU p n l++if p k=J then[((n+↑l:O):N)]else[]
 |[],n=>by
  rfl
 |a::r,n=>by
  change(if p a=J then(n:N)::kU p (n+1) (r++[k])else kU p (n+1) (r++[k]))=(if p a=J then(n:N)::kU p (n+1) r else kU p (n+1) r)++_;rw[aaV p k r<|n+1,hs,show n+1+↑r=n+(↑r+1) by show rX n ↑r];split<;>rfl
theorem aaW{α:Type}(p:α->dq):∀l n,↑(kU p n l)<=↑l
 |[],_=>kD _
 |a::r,n=>by
  have:=aaW p r<|n+1;change↑(if p a=J then(n:N)::kU p (n+1) r else kU p (n+1) r)<=_;split<;>simp<;>lia
noncomputable def so(b:#[N×#[N]]):bs N->dq|M=>aX|Y d=>(dG b d).isEmpty
inductive aaX(vs:#[V])(H:ap)(Q:ca):Prop|mk(t:L)(T:cn)(av:dV):(vs=[.K t])->(nz H t T av)->(↑av.K<=1000)->((∀d,↑(dG T.R d)<2∨∀u∈dG T.R d,u≠[]))->(∀af r,bA H af->H r=M->af r=Y (.K<|(kU (so T.R) 0 av.K).map V.R)->Q (.K r) af)->aaX vs H Q
def apu:cq:=λvs H Q _=>aaX vs H Q
noncomputable def dV.a2(av:dV):#[N×N]:=(oS ↑av.R).map (λl:O=>((0:N),(l:N)))++(av.S ["fun","let"]).map (λl=>(1,l))++(av.S ["pair"]).flatMap (λl=>[(2,l),(3,l)])++(av.S ["new"]).map λl=>(4,l)
inductive aaZ(vs:#[V])(H:ap)(Q:ca):Prop|mk(p:L)(av:dV):(vs=[.K p])->(lZ H p av)->(↑av.R<=1000)->(∀af r,bA H af->H r=M->hb af r av.a2->Q (.K r) af)->aaZ vs H Q
def apv:cq:=λvs H Q _=>aaZ vs H Q
def apw(H:ap)(t:L)(b:cn)(av:dV)(dS:L)(i:O)(D:ck)(af:ap):Prop:=(∃e f,D=[Y<|.K t,Y<|.K dS,e,f])/\bA H af/\af dS=Y (.K<|(kU (so b.R) 0<|av.K.take i).map V.R)
def apx[ci]:cX bH 2 "find_dead" ["table"] apu:=by
 show aDv.K ["table","dead","label","home"] λz H vs Q aW a7 d aD=>?_
 .let(t,b,av,rfl,x,c4,a8,a9):=d;show(_,ba (ji (i:=1) aD aa (aQ aa)<|eP aF)
  <|ba (jA jg aa (PA aa aBb<|ak (f' bD.R.K bD.R.a1<|f' bD.K.K bD.K.R<|aK 0) aF) (tg aa<|kk (fB (i:=2) aD aa<|aQ aa)<|kk (fB (i:=3) aD aa<|aQ aa) tf)
   <|a_<|dF (lr.K<|xZ (lS<|aij<|aK 3)<|xX<|nt<|uG (gu (aK 0) bD.K.K Qk.K a7 bm<|ak (aK 3) aF)<|λ_=>rfl) (a_<|cw<|tk pf v' zX Ax (aK 1)<|ak (aK 2) aF) d_)
  <|a_<|cy<|aK 1,(kT,λdS A=>?_));exists b0;let T:bA H<|a' H dS<|.K []:=cf A;let(an,p):=id x;let(ax,b1):=p.R;let a1:=b1.K p.K.S;let a2:=a1.K T;let(ah,b2,c5,c6,c7,c8,b3,c9):=(p.S T).K.K;show b0 (_,aa,t,ah,_,aa,b2,b3,b.a1,_,_,aa,a2.R,aa,ax.h,_,aa,bZ a2.a1,aam (apw H t b av dS)
   ((_,_,aa),T,bG) (λi D af _ d=>bZ<|d.2.1 _ _ a1.a1) (λi v D af a a3 d b4=>?_)<|λD af d=>?_)
  .let((b5,b6,rfl),j,ea):=d;rw[cV]at a3;let(l,a4,rfl):=e_.1 a3;let aR:=(ff.1 a4).1;let f:=cf (o:=.R [.R (i:O),mx l]) b4;let m:kU (so b.R) 0 (av.K.take<|i+1)=kU (so b.R) 0 (av.K.take i)++if so b.R l=J then[((i:O):N)]else[]:=by
    rw[hF,a4];change kU _ 0 (av.K.take i++[l])=_;rw[aaV,iQ,show 0+pS i ↑av.K=i by lia]
   show(a,_,aa,fb bG,aa,_,_,aa,_,_,aa,aa,_,aa,_,aa,dH (λU=>?_) λU=>?_)
   .cases l with
    |none=>cases U
    |some g=>
     exists b7;let a5:=(p.S j).S f;let(pK,b8,d0,d1,d2,d3,d4,d5,b9):=a5.K.a0;show b7 (_,aa,t,pK,aa,b8,b9,_,aa,an,t,b,g,aa,a5.K,a8 g,λd6 d7 bv q d8 c0 d9 c1 e0=>(_,aQ (_,bZ c0,aa),?_));let w:=c1.length_eq;rw[aV]at w;show dH (λV=>?_) λV=>?_
     .let c2:bv=[]:=by
       cases bv with|nil=>rfl|cons a r=>cases V
      let a0:so b.R (Y g)=J:=by
       change(dG b.R g).isEmpty=J;rw[c2]at w;rw[ayi];show w.symm
      rw[bK a0]at m;let a6:=q _ _<|f _ _ ea;show(_,aa,ps a6,_,aa,dS,_,_,aa,aa,a6,?_,(_,_,aa),λB o e=>?_,?_)
      .rw[aV];have:=aaW (so b.R) (av.K.take i) 0;rw[iQ]at this;have:1000<ch:=⋯
       lia
      .rw[bS<|fj e A];show q _ _<|f _ _<|j _ _ e
      .rw[bG,m,cs];rfl
     .let a0:¬so b.R (Y g)=J:=by
       change¬(dG b.R g).isEmpty=J;rw[ayi,<- w]
       cases bv with|nil=>cases V|cons a r=>show λz=>(by cases z)
      rw[be a0,e']at m;show((_,_,aa),(j.K f).K q,?_);rw[m];show q _ _<|f _ _ ea
   .let c3:l=M:=by
     cases l with|none=>rfl|some g=>cases U
    subst c3;rw[be<|show¬so b.R M=J from gh,e']at m;show rk ((_,_,aa),j.K f,?_);rw[m];show f _ _ ea
  .let((b5,b6,rfl),j,ea):=d;rw[aV,jQ]at ea;show(_,aa,a9 af dS j A ea)
def hb.step{H aj r b ay g x}(h:H aj=Y (.K<|b.map V.K))(a1:eq (λ(p:N×N) B=>H B=Y (.R [.R p.1,.R p.2])) ay b)(a2:H r=M):
  hb (a' (a' H r<|.R [.R g,.R x]) aj<|.K<|b.map V.K++[.K r]) aj<|ay++[(g,x)]:=by
 let(bo,e,_,d):=hb.R (b,h,a1) a2;rw[h]at e;cases e;show d
def aba{h:#[N]}{g:N}{i:O}{vs:#[O]}{D:ck}{al:ap}{aj:L}{a1:ap->Prop}(a2:al aj=M)(a5:↑h<ch)(ea:al a=Y (.K<|h.map V.R))
 (a3:∀x,((kn D vs).set i<|Y x)[i]? =Y (Y x))(a4:∀x,kn ((kn D vs).set i<|Y x) vs=kn D vs)(a6:∀H,bA al H->hb H aj (h.map λx=>(g,x))->a1 H):
  wi (Ak aAv a) (r' i) qn (Ap<|ii (gA<|.R g)<|ii (pg i) kl) vs D al aj a1:=by
 show wj (λi b=>bA al b/\hb b aj ((h.take i).map λx=>(g,x))) (cf a2,[],bG,ed) (λi b _ d=>bZ<|d.1 _ _ ea) (λj v b l d=>?_)<|λb d=>?_
 .exists w;let(A,T,m,p):=d;rw[cV]at l;let(q,U,rfl):=e_.1 l;show w (a4 _,?_);delta qn;show lx (_,a3 _,mX,λr f=>(T.map V.K,cf f _ _ m,?_,λB o e=>?_,?_));.rw[aV,<- p.length,aV,iQ];lia
  .rw[bS<|fj e a2];show cf f _ _<|A _ _ e
  .rw[hF,U,cs];show hb.step m p f
 grind
def apy(g:N)(al:ap)(aj:L)(i:O)(b:ap):Prop:=bA al b/\hb b aj ((oS i).map λx:O=>(g,(x:N)))
def apz{n g i}(h:al aj=M)(a1:n<ch)
 (a2:∀x,((kn D vs).set i<|Y x)[i]? =Y (Y x))(a3:∀x,kn ((kn D vs).set i<|Y x) vs=kn D vs)(a4:∀H,bA al H->hb H aj ((oS n).map λx:O=>(g,(x:N)))->a5 H):
  wi (ya 0 n) (r' i) qn (Ap<|ii (gA<|.R g)<|ii (pg i) kl) vs D al aj a5:=by
 show Wo (apy g al aj) (cf h,[],bG,ed) (λj f p d=>?_)<|λf d=>a4 f d.1 d.2;let(q,v,l,m):=d;show(a3 _,?_);delta qn;show lx (_,a2 _,mX,λr b=>(v.map V.K,cf b _ _ l,?_,λB o e=>?_,?_));.rw[aV,<- m.length,aV,xD];show s_ p a1
 .rw[bS<|fj e h];show cf b _ _<|q _ _ e
 .rw[List.range_succ,cs];rw[ayj];show hb.step l m b
def apA{eB:Type}{ax:α->eB->Prop}:∀{l b:#[α]}{m h:#[eB]},eq ax l m->eq ax b h->eq ax (l++b) (m++h):=by
 intro l b m h d q
 induction d with|nil=>show q|cons r t e=>show eS r e
theorem hb.S{l B:L}{ay b:#[N×N]}(x:hb H l ay)(y:hb H B b):∃xs fG,H l=Y (.K xs)/\H B=Y (.K fG)/\↑xs=↑ay/\↑fG=↑b/\hb (a' H l<|.K<|xs++fG) l (ay++b):=by
 let(f,e,g):=x;let(bo,i,h):=y;show(_,_,e,i,by rw[aV];show g.length.symm,by rw[aV];show h.length.symm,f++bo,by rw[bG,cs],?_);let k:∀(p:N×N) c,H c=Y (.R [.R p.1,.R p.2])->(a' H l<|.K<|f.map V.K++bo.map V.K) c=Y (.R [.R p.1,.R p.2]):=λp c d=>(bS<|qi d e λz=>(by cases z))▸d;show apA (lp g k)<|lp h k
theorem QD:∀b:#[N],↑(b.flatMap λl=>[(aZ ((2:N)) l),(aZ 3 l)])=2*↑b
 |[]=>rfl
 |a::r=>by
  rw[rc,cW,QD r];change 2+2*↑r=2*(↑r+1);lia
def QF(g:E)(b:g="NODE" ∨g="BINDER" ∨g="CONTENTS"):pk ["program","places","label"] (dh Zk) (tz [(".0",gp),("label",gp),(g,Hh)]) [("label",2)]:=by
 let rfl||rfl||rfl:=b<;>show(aa,by rfl',by rfl',by rfl',by rfl')
def apB(p:L)(av:dV)(b:L)(h:ap)(i:O)(D:ck)(af:ap):Prop:=(∃v,D=[Y<|.K p,Y<|.K b,v])/\(∀c o,h c=Y o->c≠b->af c=Y o)/\hb af b (((oS ↑av.R).map λx:O=>((0:N),(x:N)))++((av.S ["fun","let"]).map λx=>(1,x))++((av.S ["pair"]).take i).flatMap λl=>[(2,l),(3,l)])
def apC[ci]:cX bH 2 "list_places" ["program"] apv:=by
 show aDw.K ["program","places","label"] λz H vs Q aW a1 d aD=>?_
 .let(p,av,rfl,d3,A,d4):=d;show(_,ba (Wm (i:=1) aa aD aa aa (Wn aa aa aa aa) (UZ aa O9<|ak (mW Aw aa aAV aa<|ak (f' bD.R.K bD.R.R<|aK 0) aF) aF) (QF "NODE"<|aQ aa) (λs H g bw h=>fB (i:=2) aD aa<|aQ aa) (λs H g bw h=>sf)<|λs H g bw h=>es<|ak (cH bD.S)<|ak (aK 2) aF)
  <|ba (cw<|tk pf wa CW DF (aK 1)<|ak (tl aa aD (jz<|gu (aK 0) bD.R.K Ba.K a1 bm<|ak (es<|ak gR<|ak gR aF) aF) (QF "BINDER"<|bl<|aQ aa) (λs H g bw h=>fB (i:=2) aD aa<|aQ aa) (λs H g bw h=>sf)<|λs H g bw h=>es<|ak (cH bD.a1)<|ak (aK 2) aF) aF)
  <|ba (jA jg aa (jz<|gu (aK 0) bD.R.K Ba.K a1 bm<|ak (es<|ak gR aF) aF) (fB (i:=2) aD aa<|aQ aa)
   <|a_<|cw<|tk pf wa CW DF (aK 1)<|ak (eP<|ak (es<|ak (cH bD.a4)<|ak (aK 2) aF)<|ak (es<|ak (cH bD.a5)<|ak (aK 2) aF) aF) aF)
  <|ba (cw<|tk pf wa CW DF (aK 1)<|ak (tl aa aD (jz<|gu (aK 0) bD.R.K Ba.K a1 bm<|ak (es<|ak gR aF) aF) (QF "CONTENTS"<|bl<|bl aa) (λs H g bw h=>fB (i:=2) aD aa<|aQ aa) (λs H g bw h=>sf)<|λs H g bw h=>es<|ak (cH bD.a3)<|ak (aK 2) aF) aF)
  <|a_<|cy<|aK 1,?_);let(ax,j):=id d3;let j':∀n:O,n<=9000->n<ch:=λn d=>kF d ⋯;let m:∀bu,↑(av.S bu)<=1000:=λbu=>db (FC bu av.R 0) A;show(_,aa,p,_,_,aa,j.R,aa,ax.K,_,aa,aQ<|bZ j.S,_,aa,?_,?_,λb a2=>?_);.show Int.neg_ofNat_le_natCast (2 ^ 62) ↑(Tx V.S av.R)
  .rw[aV];omega
  change wi (ya 0 _) _ _ _ _ _ _ _ _;rw[show((↑(av.R.map V.S):O):N).toNat=↑av.R by rw[aV];rfl];show apz a2 (j' _<|by omega) (λ_=>rfl) (λ_=>rfl) λal a3 b5=>?_;let a4:∀(f:ap)(ay T:#[N×N])(B:L),hb f b ay->hb f B T->↑ay+↑T<=9000->∃xs fG,f b=Y (.K xs)/\f B=Y (.K fG)/\↑xs+↑fG<=ch/\(∀c o,f c=Y o->c≠b->(a' f b<|.K<|xs++fG) c=Y o)/\hb (a' f b<|.K<|xs++fG) b (ay++T):=λf ay T B x y l=>by
   let(xs,fG,aB,d5,d6,d7,z):=x.S y;show(xs,fG,aB,d5,sT<|j' _<|by omega,(λc o e d=>by rw[bS d];show e),z)
  let a5:∀{f a6:ap},bA H f->(∀c o,f c=Y o->c≠b->a6 c=Y o)->bA H a6:=λs k c o e=>k c o (s c o e)<|fj e a2;let(h9,d8,_):=id b5;show(_,aa,ps d8,_,aa,p,_,aa,(j.K a3).R,aa,mX,λq d9=>?_);let a7:=cf (o:=.R [.S "fun",.S "let"]) d9;show(p,q,av,["fun","let"],aa,(ax,(j.K a3).K a7),bG,A,λi0 r b6 i1 b7=>(r,aa,(_,bZ b7),λb8 e0=>aba e0 (j' _<|by have:=m ["fun","let"];omega) b7 (λ_=>rfl) (λ_=>rfl) λf b9 e1=>?_));exists e2;let d6:↑((oS ↑av.R).map λx:O=>(aZ ((0:N))<|(x:N)))<=1000:=by rw[aV,xD];show A
  let d7:↑((av.S ["fun","let"]).map λx=>(aZ ((1:N)) x))<=1000:=by rw[aV];show m _
  let(c0,c1,e3,e4,e5,c2,a8):=a4 f _ _ b8 (((b5.K a7).K b6).K b9) e1 (by omega);show e2 (b,b8,c0,c1,aa,aa,e3,e4,e5,?_);generalize a' f b (.K (c0++c1))=a6 at c2 a8;let a9:=a5 (((a3.K a7).K b6).K b9) c2;show(_,aa,p,_,aa,(j.K a9).R,aa,hZ,λe6 e7=>?_);let U:=cf (o:=.R [.S "pair"]) e7;show(p,e6,av,["pair"],aa,(ax,(j.K a9).K U),bG,A,λc3 e8 c4 e9 c5=>(e8,aa,(_,bZ c5),?_));let f0:=(fj (U _ _ a8.choose_spec.1) e9).symm;show nv (apB p av b c3)
   ((_,aa),λc o e _=>e,?_) (λi D af _ d=>bZ (d.2.1 _ _ c5 f0)) (λi v D af c6 d=>?_) (λD af d=>?_);.rw[zW];change hb c3 b (_++[]);rw[e'];show(a8.K U).K c4
  .let((f1,rfl),b0,w):=d;rw[cV]at c6;let(l,c7,rfl):=e_.1 c6;let aR:=(ff.1 c7).1;let(f2,b1,_):=id w;show(_,aa,ps b1,_,aa,mX,λc8 f3=>(_,aa,mX,λeG f4=>(mX,λc9 f5=>?_)));exists f6;let ef:=cf (o:=.R [.R 2,.R l]) f3;let b2:=cf (o:=.R [.R 3,.R l]) f4;let a0:=cf (o:=.K [.K c8,.K eG]) f5;let f7:↑(((av.S ["pair"]).take i).flatMap λl=>[(aZ ((2:N)) l),(aZ 3 l)])<=2000:=by
    rw[QD,iQ];have:=m ["pair"];omega
   let(f8,f9,g0,g1,g2,g3,g4):=a4 _ _ [(aZ 2 l),(aZ 3 l)] c9 (w.K ((ef.K b2).K a0)) ([c8,eG],bG,eS (a0 _ _ (b2 _ _ bG)) (eS (a0 _ _ bG) ed)) (by rw[cW,cW];change _+2<=_;omega);show f6 (b,c9,f8,f9,aa,aa,g0,g1,g2,(_,aa),λc o e d=>g3 _ _ (((ef.K b2).K a0) _ _ (b0 _ _ e d)) d,?_);rw[hF,c7,vS,<- fi];show g4
  .let((f1,rfl),b0,w):=d;rw[aV,jQ]at w;let b3:=a5 ((a9.K U).K c4) b0;let(f2,b1,_):=id w;show(_,aa,ps b1,_,aa,p,_,aa,(j.K b3).R,aa,hZ,λg5 g6=>?_);let b4:=cf (o:=.R [.S "new"]) g6;show(p,g5,av,["new"],aa,(ax,(j.K b3).K b4),bG,A,λi2 g7 d0 i3 d1=>(g7,aa,(_,bZ d1),λqw g8=>aba g8 (j' _ (by have:=m ["new"];omega)) d1 (λ_=>rfl) (λ_=>rfl) λg9 d2 h0=>?_));exists h1;let f7:↑((av.S ["pair"]).flatMap λl=>[(aZ ((2:N)) l),(aZ 3 l)])<=2000:=by
    rw[QD];have:=m ["pair"];omega
   let i4:↑((av.S ["new"]).map λx=>(aZ ((4:N)) x))<=1000:=by rw[aV];show m _
   let(h2,h3,h4,h5,h6,h7,h8):=a4 g9 _ _ qw (((w.K b4).K d0).K d2) h0 (by rw[cW,cW];omega);show h1 (b,qw,h2,h3,aa,aa,h4,h5,h6,_,aa,d4 _ b (a5 (((b3.K b4).K d0).K d2) h7) a2 h8)
inductive sp(T U:#[b_×b_]):#[N×N]->bs (N×N)->Prop|S:sp T U [] M|K{g:N}{b h a1 a2}:rm T g b h->rm U g b h->sp T U a1 a2->sp T U ((g,b)::a1) a2|R{g:N}{b h a3 a1}:rm T g b h->rm U g b a3->h≠a3->sp T U ((g,b)::a1) (Y (g,b))
inductive abb(vs:#[V])(H:ap)(Q:ca):Prop|mk(t u:L)(T U:cn)(av:dV):(vs=[.K t,.K u])->(nz H t T av)->(nz H u U av)->(↑av.R<=1000)->(↑T.K<ch)->(↑U.K<ch)->((∀af,bA H af->sp T.K U.K av.a2 M->Q .a0 af))->((∀af B g l,bA H af->af B=Y (.R [.R g,.R l])->sp T.K U.K av.a2 (Y (g,l))->Q (.K B) af))->abb vs H Q
def apD:cq:=λvs H Q _=>abb vs H Q
noncomputable def pv(p:N×N):ue:=.tuple [.int p.1,.int p.2]
noncomputable def abc(ay:#[N×N]):ue:=.list<|ay.map pv
def abd{l ay}(x:hb H l ay):lv aAv H (.K l)<|abc ay:=by
 let(g,e,b):=x;show .X (bZ e) ?_;clear e
 induction b with|nil=>show .R|cons d _ f=>show .K (.a0 (fb d)<|.K (.S _)<|.K (.S _) .R) f
def abe(ay:#[N×N]):Te (abc ay)=J:=by
 delta Te;rw[fV,ze];constructor
 .induction ay with|nil=>rfl|cons p r b=>assumption
 .change ayk (ay.map pv)+1<=64
  have:ayk (ay.map pv)<=1:=by
   induction ay with
   |nil=>show ex _
   |cons p r b=>
    rw[fg];show agy.2 (kD 1,b)
  lia
theorem QG:∀ay b:#[N×N],TB (ay.map pv) (b.map pv)=bp (ay=b)
 |[],[]=>rfl
 |[],_::_=>rfl
 |_::_,[]=>rfl
 |p::ay,q::b=>by
  change(awA (pv p) (pv q)&&TB (ay.map pv) (b.map pv))=_;rw[QG ay b];change((p.1==q.1&&(p.2==q.2&&J))&&bp (ay=b))=_;rw[oa];simp only[fV,rQ,ze,uz,Tw];rw[Prod.ext_iff]
def apF{l:#[α]}{i:O}{x:α}(d:l[i]? =Y x):l.drop i=x::l.drop (i+1):=by
 let(ab,ag):=ff.1 d;rw[List.drop_eq_getElem_cons ab,ag]
def apG(t u:L)(b h:cn)(av:dV)(al:ap)(i:O)(D:ck)(af:ap):Prop:=(∃e f,D=[Y<|.K t,Y<|.K u,e,f])/\bA al af/\∀o,sp b.K h.K (av.a2.drop i) o->sp b.K h.K av.a2 o
def apH[ci]:cX bH 5 "find_parting" ["coarse","fine"] apD:=by
 show aDx.K ["coarse","fine","group","label"] λz H vs Q aW h d aD=>?_
 .let(t,u,w,a0,av,rfl,x,y,b2,b3,b4,b5,b6):=d;show(_,ba (jA jg aa (jz<|dT apC h bm<|ak (f' bD.K.K bD.K.R<|aK 0) aF) (tg aa<|kk (fB (i:=2) aD aa<|aQ aa)<|kk (fB (i:=3) aD aa<|aQ aa) tf)
  <|a_<|dF (nw (aka h.a0) (gu (aK 0) bD.K.K AT.K h bm<|ak (aK 2)<|ak (aK 3) aF) (gu (aK 1) bD.K.K AT.K h bm<|ak (aK 2)<|ak (aK 3) aF) aa) (a_<|cy<|es<|ak (aK 2)<|ak (aK 3) aF) d_)
  <|a_<|cy uC,?_);exists b7;let(an,j):=id x;let(en,b8):=id y;let(ax,b9):=j.R;let(ah,f,d6,d7,d8,d9,c0,e0):=j.K.K;show b7 (_,aa,t,ah,_,aa,f,c0,w.a1,av,aa,(ax,(b9.K j.K.S)),b2,λal r m e1 c1=>?_);let(e2,a1,a2):=id c1;show(r,aa,(_,bZ a1),?_);let a3:=a2.length.symm;show nv (apG t u w a0 av al)
   ((_,_,aa),bA.a0 _,λo d=>d) (λi D af _ d=>bZ<|d.2.1 _ _ a1) (λi v D af a4 d=>?_)<|λD af d=>?_
  .exists c2;let((c3,c4,rfl),e,q):=d;rw[cV]at a4;let(B,a5,rfl):=e_.1 a4;let aR:i<↑av.a2:=by
    rw[<- a3];show(ff.1 a5).1
   let(e3,a6,cd):=qo a2 (gi aR);rw[a5]at a6;cases a6;let A:=apF<|gi aR;generalize av.a2[i]=c5 at A cd;let(g,l):=c5;let a7:=(j.S m).S e;let(ah,f,c6,c7,c8,c9,d0,T,d1):=a7.K.a0;show c2 (B,_,aa,fb<|e _ _ cd,aa,_,_,aa,_,_,aa,aa,_,aa,t,ah,aa,f,T,_,aa,_,aa,an,t,w,g,l,aa,a7.K,b3,λe4 e5 ay U _ d2 a8=>?_);exists d3;let a9:=((b8.S m).S e).S U;let(ah,f,c6,c7,c8,c9,d0,T,d1):=a9.K.a0;show d3 (_,aa,u,ah,aa,f,T,_,aa,_,aa,en,u,a0,g,l,aa,a9.K,b4,λe6 e7 b0 V _ d4 b1=>(_,_,abd<|d2.K V,abd d4,abe _,abe _,_,aa,dH (λb=>?_) λb=>?_));.let b:(!TB (ay.map pv) (b0.map pv))=J:=b;rw[QG]at b;show(_,aa,_,aa,mX,λp d5=>b6 _ p g l ((((m.K e).K U).K V).K<|cf d5) bG<|q _ ?_);rw[A];show .R a8 b1<|λz=>by rw[hp z]at b;cases b
   .let b:(!TB (ay.map pv) (b0.map pv))=aX:=b;rw[QG]at b;show((_,_,aa),(e.K U).K V,λo d=>q o ?_);rw[A];show .K a8 ((Decidable.byContradiction λz=>by rw[iv z]at b;cases b)▸b1) d
  .let((c3,c4,rfl),e,q):=d;show b5 af (m.K e)<|q M ?_;rw[aV,a3,List.drop_length];show .S
def apK{B s k}(h:hl H B s)(d:∀af p,bA H af->hl af p (s.take k)->Q (.K p) af):AR (.K B) M (Y (k:N)) H Q:=by
 show(B,_,aa,fb h,λb=>?_,λb r e=>?_);.let f:=b.2;rw[sc,aV]at f;show d H B (bA.a0 _) ?_;rwa [xA<|by lia]
 .show d _ r (cf e) ?_;delta hl;rw[bG];delta rh;simp[KW,sc,ayb,ul,tb,aV]
inductive abf(vs:#[V])(H:ap)(Q:ca):Prop|mk(t b ka:L)(T:cn)(av:dV)(k:O)(l:N)(s v:#[N]):(vs=[.K t,.R l,.K b,.K ka])->(nz H t T av)->(T.a2=k)->(hl H b s)->(hl H ka v)->(↑T.K<ch)->(∀af,bA H af->Q (.X<|bp<|v>(dG T.K (0,l,s.take k)).map λx=>[x.1,x.2.1]) af)->abf vs H Q
def apP:cq:=λvs H Q _=>abf vs H Q
inductive abg(vs:#[V])(H:ap)(Q:ca):Prop|mk(t b ka:L)(T:cn)(av:dV)(k:O)(l w f:N)(s:#[N]):(vs=[.K t,.R l,.K b,.K ka])->(nz H t T av)->(T.a2=k)->(hl H b s)->(↑s<100)->(hl H ka [w,f])->((↑(dG T.R f)<2∨∀u∈dG T.R f,u≠[]))->(∀af,bA H af->Q (.X<|bp<|(l::s).take k>dG T.R f) af)->abg vs H Q
def apQ:cq:=λvs H Q _=>abg vs H Q
def apR:pk ["table","label","string","value","sorts","sort"] (dh Zl) (tz [(".0",gp),("sort",gp)]) [("sort",5)]:=(aa,by rfl',by rfl',by rfl',by rfl')
theorem abh{l:#[#[N]]}{u:#[N]}:l.contains u=bp (u>l):=by
 show avu u l
def apS[ci]:cX bH 2 "has_call" ["table","site","string","value"] apQ:=by
 show aDz.K ["table","site","string","value"] λz H vs Q aW b d aD=>?_
 .let(t,v,ka,w,av,k,l,a6,h,st,rfl,x,A,aw,T,U,V,a0):=d;show(_,a_<|cy<|tj (XS<|lw b) (dT bD.a9 b bm<|ak (aK 1)<|ak (aK 2)<|ak (f' bD.K.K bD.K.a0<|aK 0) aF) (gu (aK 0) bD.K.K Qk.K b bm<|ak (fW kR (aK 3) cm<|λ_ _=>rfl) aF) aa,?_);exists a1;let(an,i):=id x;let(ah,e,a7,a8,a9,b0,b1,j):=i.K.K;rw[A]at j;show a1 (_,aa,_,aa,_,aa,t,ah,_,aa,e,j,l,v,k,st,aa,aw,T,λal p f g=>?_);exists a2;let m:=i.S f;let(ah,e,b2,b3,b4,b5,b6,b7,a3):=m.K.a0;show a2 (_,aa,t,ah,aa,e,a3,_,aa,ka,_,1,.R h,aa,aa,fb<|f _ _ U,aa,an,t,w,h,aa,m.K,V,λaH r bv o _ q ag eG a4=>(p,r,bv.map (·.2),bv.map (·.1),(l::st).take k,aa,aa,o _ _ g,by rw[dX];show bZ q,?_,?_))
  .clear eG a4 q
   induction bv with|nil=>show ed|cons a r a5=>show eS (ag a<|cp _)<|a5 λp g=>ag p<|eo _ g
  .rw[abh,nr.2 eG.mem_iff];show a0 aH<|f.K o
def apT(h:ap)(bv:#[b_×L])(aj:L)(i:O)(b:ap):Prop:=bA h b/\∃e:#[L],b aj=Y (.K<|e.map V.K)/\eq (λ(u:#[N]) B=>b B=Y (.R<|u.map V.R)) ((bv.take i).map λp=>[p.1.1,p.1.2.1]) e
def apU[ci]:cX bH 5 "has_flow" ["table","label","string","value"] apP:=by
 show aDy.K ["table","label","string","value","sorts","sort"] λz H vs Q aW U d aD=>?_
 .let(t,c5,ka,m,av,k,l,st,v,rfl,x,b1,aw,b2,c6,b3):=d;show(_,ba (ji (i:=4) aD aa (aQ aa)<|gu (aK 0) bD.K.K Qi.K U bm<|ak (es<|ak (cH bD.S)<|ak (aK 1)<|ak (uH AS (aK 2) yl<|sd<|f' bD.K.K bD.K.a0<|aK 0) aF) aF)
  <|a_<|cy<|tj (XS<|lw U) (aK 3) (tl aa aD (jz<|aK 4) apR (λs H a0 bw a1=>fB (i:=5) aD aa<|aQ aa) (λs H a0 bw a1=>sf)<|λs H a0 bw a1=>uH (r:=AR) AS (aK 5) yl<|sd cm) aa,?_);exists b4;let(an,w):=id x;let(ah,b5,c7,c8,c9,d0,d1,a2):=w.K.K;let(pK,b6,d2,d3,d4,d5,b7,d6,d7):=w.K.a0;rw[b1]at a2;show b4 (_,aa,t,pK,aa,b6,b7,_,aa,_,aa,_,aa,t,ah,_,aa,b5,a2,k,aa,apK aw λal b8 a3 b9=>(hc,λq a4=>?_));let a5:=cf (o:=.R [.R 0,.R l,.K b8]) a4;show(an,t,q,m,(0,l,st.take k),aa,(w.S<|a3.K a5).K,iS a4 b9,λc0 r bv c1 d8 a6 A=>?_);let a7:=(a3.K a5).K c1;show(_,aa,_,aa,r,aa,(_,bZ a6),λaj a8=>?_);let bQ:↑bv<=↑m.K:=by
   have:=A.K.length_eq;rw[aV]at this;rw[this];show wr _ _
  show wj (apT c0 bv aj)
   (cf a8,[],bG,ed) (λi T _ d=>bZ<|d.1 _ _ a6) (λi y T a9 d=>?_)<|λT d=>?_
  .exists c2;let(b,j,f,g):=d;rw[cV]at a9;let(p,b0,rfl):=e_.1 a9;let(c,c3,d9):=pt.1 ((A.R p<|gs b0).K b.R);show c2 (aa,?_);delta qn;show lx (_,aa,2,aa,p.2,_,aa,fb c3,λc4=>bB (show(2:O)=3 from c4.2) ⋯,λ_ a h=>(j.map V.K,cf h _ _ f,?_,λB o e=>?_,j++[a],?_,?_));.rw[aV,<- g.length,aV,iQ];lia
   .rw[bS<|fj e a8];show cf h _ _<|b _ _ e
   .rw[bG,cs];rfl
   .rw[hF,b0,cs];show ux (lp g λu B e=>?_) ?_;.have:=qi e f λz=>(by cases z);rw[bS this];show cf h _ _ e
    .rw[bS (λz=>by rw[z,f]at h;cases h),bG];rfl
  .let(b,j,f,g):=d;rw[aV,jQ]at g;show(ka,aj,j,_,v,aa,aa,b _ _<|a7 _ _ b2,bZ f,g,?_);let e:bp (v>bv.map λp=>[p.1.1,p.1.2.1])=bp (v>(dG m.K (0,l,st.take k)).map λx=>[x.1,x.2.1]):=by
    rw[nr];have:bv.map (λp=>[p.1.1,p.1.2.1])=(bv.map ek).map λx:b_=>[x.1,x.2.1]:=by rw[dX];rfl
    rw[this];show(A.K.map _).mem_iff
   rw[abh,e];show b3 T<|a7.K b
abbrev aW:=nh
variable{e:aW}
noncomputable def gD:aW->#[aW]|jK _ _=>[]|gK _ _=>[]|fy _ _ B=>[B]|iq _ f a=>[f,a]|ku _ _ ae B=>[ae,B]|ni _ c a B=>[c,a,B]|jP _ a B=>[a,B]|nG _ ae=>[ae]|nH _ ae=>[ae]|kv _ ae=>[ae]|nK _ ae=>[ae]|mH _ r ae=>[r,ae]|pQ _ a B=>[a,B]
noncomputable def gW(e:aW):aW->E|jK _ _=>"number"|gK l _=>if(eV e l).isSome then "name" else "in"|fy _ _ _=>"fun"|iq _ _ _=>"call"|ku _ _ _ _=>"let"|ni _ _ _ _=>"if"|jP _ _ _=>"pair"|nG _ _=>"fst"|nH _ _=>"snd"|kv _ _=>"new"|nK _ _=>"get"|mH _ _ _=>"set"|pQ _ _ _=>"add"
noncomputable def abi:aW->bs N|jK _ n=>Y n|_=>M
noncomputable def QH(e:aW):aW->bs N|gK l _=>(eV e l).map λB:O=>(B:N)|_=>M
noncomputable abbrev cu(c:#[O]):#[N]:=c.map λn:O=>(n:N)
noncomputable def dr(e:aW):dV where
 R:=(bR e).map<|gW e
 X:=(bR e).map λx=>cu<|(gD x).map bi
 a5:=(bR e).map abi
 a4:=(bR e).map<|QH e
 K:=(gq M e).map λo=>o.owner.map λn:O=>(n:N)
 a1:=(mn e).map λk:O=>((k:N),cu<|ja e k)
theorem tG(e:aW):∀o,(gq o e).map Own.node=bR e:=by
 induction e<;>intro o<;>(dsimp only[gq,bR]at*;simp_all)
structure cR(e:aW):Prop where
 a8:eC 0 e
 R:cU e<=30
section
variable(ep:cR e)
include ep
theorem cR.X:dC e=oS (cU e):=by rw[avy];show(zs e 0).mpr ep.a8
theorem cR.a4{i x}(d:(bR e)[i]? =Y x):bi x=i:=by
 let ab:(dC e)[i]? =Y (bi x):=by rw[dC,cV,d];rfl
 rw[ep.X]at ab;let(ag,b):=ff.1 ab;simp_all
theorem cR.S{x}(d:x>bR e):(bR e)[bi x]? =Y x:=by
 let(i,aR,aB):=agU d;let ag:(bR e)[i]? =Y x:=by show(List.getElem_eq_iff aR).mp aB
 rwa [ep.a4 ag]
theorem cR.inj{x}(b:x>bR e)(h:y>bR e)(d:bi x=bi y):x=y:=by
 let a:=ep.S b;rw[d,ep.S h]at a;show vK.1<|id<|eW a
theorem cR.K{x}(d:x>bR e):bi x<30:=by
 have:=(ff.1<|ep.S d).1;rw[mS]at this;show ia this ep.R
theorem cR.a0:(dC e).Nodup:=ep.X▸List.nodup_range
theorem cR.a1{x}(d:x>bR e):sP e (bi x)=Y x:=by
 delta sP
 cases q:(bR e).find? λy=>bi y==bi x with
 |none=>
  have:=s'.1 q x d;simp at this
 |some y=>
  let ab:=us q;rw[ep.inj (qd q) d<|oV ab]
end
def abj{x l}(d:sP e l=Y x):x>bR e/\bi x=l:=(qd d,oV<|us (p:=λy=>bi y==l) d)
def abk(e:aW):e>bR e:=by cases e<;>show(cp _)
theorem abl(y:aW):∀e:aW,(if e=y then 1 else 0)+((bR e).flatMap gD).count y=(bR e).count y:=by
 intro e;induction e<;>(dsimp only[bR]at*;rw[rc];dsimp only[gD]at*;simp_all [List.count_cons,ayl])<;>lia
def jl{x}(b:x>bR e)(h:y>gD x):y>bR e:=by
 let d:=ahg.2<|dZ.2 (x,b,h);grind [abl]
theorem abm{b y:aW}{x}:∀{l:#[aW]},x>l->b>l->x≠b->y>gD x->y>gD b->2<=(l.flatMap gD).count y
 |[],d,_,_,_,_=>by cases d
 |a::r,d,bg,n,k,e=>by
  rw[rc,ayl];let p:∀{z},y>gD z->1<=(gD z).count y:=λq=>ahg.2 q;let eG:∀{z},z>r->y>gD z->1<=(r.flatMap gD).count y:=λq w=>ahg.2<|dZ.2 (_,q,w);let q||q:=cc.1 d<;>let f||f:=cc.1 bg;.simp_all
  .have:=p k;have:=eG f e;lia
  .have:=p e;have:=eG q k;lia
  .have:=abm q f n k e;show axR this
def cR.b3{e x b y h}(ep:cR e)(c4:x>bR e)(c5:b>bR e)(c6:y>gD x)(c7:h>gD b)(d:bi y=bi h):x=b:=by
 have:=ep.inj (jl c4 c6) (jl c5 c7) d;subst this;exists n;let ag:=abm c4 c5 n c6 c7;let f:=abl y e;let aD:=by
  have:=ep.a0;show aAp bi (λa B d z=>d<|dP bi z) this
 have:=List.nodup_iff_count.1 aD y;lia
noncomputable def di:eT->b_|hg=>(0,0,[])|kh l c=>(1,l,cu c)|kx l c=>(2,l,cu c)|le l c=>(3,l,cu c)
noncomputable def ds:jb->fh->b_|cg l,c=>(0,l,cu c)|gd l,c=>(1,l,cu c)|nQ l,c=>(2,l,cu c)|nR l,c=>(3,l,cu c)|lf l,c=>(4,l,cu c)
noncomputable def gV(s:#[N]):fh:=s.map Int.toNat
theorem sq(c:#[O]):gV (cu c)=c:=by
 induction c with
 |nil=>rfl
 |cons a r b=>
  change((a:N)).toNat::gV (cu r)=_;simp_all
theorem QK{c}(d:cu c=cu ae):c=ae:=by rw[<- sq c,d,sq]
noncomputable def QP(x:b_):eT:=if x.1=0 then hg else if x.1=1 then kh x.2.1.toNat (gV x.2.2)else if x.1=2 then kx x.2.1.toNat (gV x.2.2)else le x.2.1.toNat (gV x.2.2)
theorem FG(a:eT):QP (di a)=a:=by
 cases a with|num=>rfl|fn l c=>change kh (l:N).toNat (gV<|cu c)=_;rw[sq,pd]|pair l c=>change kx (l:N).toNat (gV<|cu c)=_;rw[sq,pd]|ref l c=>change le (l:N).toNat (gV<|cu c)=_;rw[sq,pd]
theorem QQ{a B}(d:di a=di B):a=B:=by rw[<- FG a,d,FG]
noncomputable def abn(x:b_):jb:=if x.1=0 then cg x.2.1.toNat else if x.1=1 then gd x.2.1.toNat else if x.1=2 then nQ x.2.1.toNat else if x.1=3 then nR x.2.1.toNat else lf x.2.1.toNat
theorem FH(p:jb)(c:fh):abn (ds p c)=p/\gV (ds p c).2.2=c:=by
 cases p<;>show(dP _<|pd _,sq c)
def va{p c}(d:ds p c=ds q ae):p=q/\c=ae:=by
 grind [FH]
noncomputable abbrev aD(x:aW)(c:fh):b_:=ds (cg<|bi x) c
noncomputable def pw(e:aW)(c:fh):aW->#[cA]
 |jK l _=>[.R (ds (cg l) c)<|di hg]
 |gK l _=>match eV e l with|M=>[.R (ds (cg l) c)<|di hg]|Y B=>[.K (ds (gd B) c)<|ds (cg l) c]
 |fy l _ _=>[.R (ds (cg l) c)<|di<|kh l c]
 |iq l f _=>[.X (aD f c) l<|cu c]
 |ku l _ ae B=>[.K (aD ae c)<|ds (gd l) c,.K (aD B c)<|ds (cg l) c]
 |ni l _ a B=>[.K (aD a c)<|ds (cg l) c,.K (aD B c)<|ds (cg l) c]
 |jP l a B=>[.R (ds (cg l) c)<|di<|kx l c,.K (aD a c)<|ds (nQ l) c,.K (aD B c)<|ds (nR l) c]
 |nG l ae=>[.X (aD ae c) l<|cu c]
 |nH l ae=>[.X (aD ae c) l<|cu c]
 |kv l ae=>[.R (ds (cg l) c)<|di<|le l c,.K (aD ae c)<|ds (lf l) c]
 |nK l ae=>[.X (aD ae c) l<|cu c]
 |mH l r ae=>[.X (aD r c) l<|cu c,.K (aD ae c)<|ds (cg l) c]
 |pQ l _ _=>[.R (ds (cg l) c)<|di hg]
noncomputable def sr(e:aW)(o:bs O)(c:fh)(w:kA):#[cA]:=if w.owner=o then pw e c w.node else[]
noncomputable def mz(e:aW)(o:bs O)(c:fh)(i:O):#[cA]:=((gq M e).take i).flatMap<|sr e o c
noncomputable def mZ(e:aW)(o:bs O)(c:fh):#[cA]:=mz e o c ↑(dr e).K
theorem abo(e:aW):↑(dr e).K=↑(gq M e):=aV _
theorem FK(e:aW)(o:bs O)(c:fh):mZ e o c=(gq M e).flatMap (sr e o c):=by
 delta mZ mz;rw[abo,jQ]
noncomputable def vb(e:aW)(k l:O)(a:aW)(c:fh)(g:O)(ae:fh):#[cA]:=
 .K (aD a c) (ds (gd g)<|(l::c).take k)::((ja e g).map (λy=>cA.K (ds (gd y) ae)<|ds (gd y)<|(l::c).take k)++(oQ e g).map λB=>.K (aD B<|(l::c).take k)<|ds (cg l) c)
noncomputable def bC(e:aW)(k:O)(c:fh):aW->eT->#[dd]|iq l _ a,kh g ae=>.R g (cu<|(l::c).take k) (mZ e (Y g)<|(l::c).take k)::(vb e k l a c g ae).map dd.K|nG l _,kx m s=>[.K<|.K (ds (nQ m) s)<|ds (cg l) c]|nH l _,kx m s=>[.K<|.K (ds (nR m) s)<|ds (cg l) c]|nK l _,le m s=>[.K<|.K (ds (lf m) s)<|ds (cg l) c]|mH l _ ae,le m s=>[.K<|.K (aD ae c)<|ds (lf m) s]|_,_=>[]
noncomputable def rn:aW->bs aW|iq _ f _=>Y f|nG _ ae=>Y ae|nH _ ae=>Y ae|nK _ ae=>Y ae|mH _ r _=>Y r|_=>M
def Bb(e:aW):eT->Prop|kh g _=>∃x B,fy g x B>bR e|_=>kz
section
variable(ep:cR e)
include ep
theorem cR.a9{x}(d:x>bR e):(dr e).R[bi x]? =Y (gW e x):=by
 change((bR e).map<|gW e)[bi x]? =_;rw[cV,ep.S d];rfl
theorem cR.a2{x}(d:x>bR e):(dr e).X[bi x]? =Y (cu<|(gD x).map bi):=by
 change((bR e).map λx=>cu<|(gD x).map bi)[bi x]? =_;rw[cV,ep.S d];rfl
theorem cR.b4{x}(d:x>bR e):(dr e).a4[bi x]? =Y (QH e x):=by
 change((bR e).map<|QH e)[bi x]? =_;rw[cV,ep.S d];rfl
theorem cR.b8{x}(d:x>bR e)(c:fh):Qu (gW e x) (dr e) (bi x) (cu c)<|pw e c x:=by
 let p:=ep.a2 d
 cases x with
 |num l n=>show(_,aa,aa)
 |var l x=>
  change Qu (if(eV e l).isSome then "name" else "in") _ _ _<|match eV e l with|M=>[cA.R (ds (cg l) c)<|di hg]|Y B=>[.K (ds (gd B) c)<|ds (cg l) c]
  cases q:eV e l with|none=>show(_,aa,aa)|some B=>show(_,aa,B,(ep.b4 d).trans<|dP (λz:bs O=>Y<|z.map λB:O=>(B:N)) q,aa)
 |fn l x B=>show(_,aa,aa)
 |app l f a=>show(_,aa,_,_,p,(⋯:1<=2),aa)
 |letE l x ae B=>show(_,aa,_,_,p,aa)
 |ifz l z a B=>show(_,aa,_,_,_,p,aa)
 |pair l a B=>show(_,aa,_,_,p,aa)
 |fst l ae=>show(_,aa,_,_,p,(⋯:0<=2),aa)
 |snd l ae=>show(_,aa,_,_,p,(⋯:0<=2),aa)
 |new l ae=>show(_,aa,_,p,aa)
 |get l ae=>show(_,aa,_,_,p,(⋯:0<=2),aa)
 |set l r ae=>show(_,aa,_,_,p,aa)
 |add l a B=>show(_,aa,aa)
theorem cR.a5{i w}(d:(gq M e)[i]? =Y w):w.node>bR e/\bi w.node=i:=by
 let ab:(bR e)[i]? =Y w.node:=by rw[<- tG e M,cV,d];rfl
 show(gs ab,ep.a4 ab)
theorem cR.a6(o:bs O)(c:fh):tB (dr e) (o.map λn:O=>(n:N)) (cu c)<|mz e o c:=by
 show(aa,λi aR=>?_);rw[abo]at aR;obtain⟨w,b⟩:∃w,(gq M e)[i]? =Y w:=(_,gi aR);let(f,g):=ep.a5 b;let h:(dr e).K[i]? =Y (w.owner.map λn:O=>(n:N)):=by
  change((gq M e).map _)[i]? =_;rw[cV,b];rfl
 show(sr e o c w,?_,?_);.delta mz;rw[hF,b,vS];change _++(sr e o c w++[])=_;rw[e']
 .by_cases q:w.owner=o;.show aQ (by rw[h,q],gW e w.node,by rw[<- g];show ep.a9 f,?_);delta sr;rw[bK q,<- g];show ep.b8 f c
  .show bl (λz=>q ?_,be q);rw[h]at z;let z:=hq z
   cases ab:w.owner with
   |none=>
    cases ag:o with|none=>rfl|some n=>rw[ab,ag]at z;cases z
   |some m=>
    cases ag:o with|none=>rw[ab,ag]at z;cases z|some n=>rw[ab,ag]at z;rw[mo<|hq z]
theorem cR.b9:((dr e).a1.map (·.1)).Nodup:=by
 change(((mn e).map λk:O=>(aZ ((k:N))<|cu<|ja e k)).map (·.1)).Nodup;rw[dX];show tc _ (λa B (d:a≠B) z=>d<|mo z)<|Ac (Ad bi vT) ep.a0
theorem cR.c0{g:O}{x:lb}{B:aW}(d:fy g x B>bR e):((g:N),cu<|ja e g)>(dr e).a1:=
 bx.2 (g,bx.2 (fy g x B,je.2 (d,aa),aa),aa)
theorem cR.c1{x}(d:x>bR e)(h:rn x=Y y){k c}(c5:↑c<100){a}(c4:Bb e a):QA (dr e) k (di a) ((bi x:N),cu c)<|bC e k c x a:=by
 let p:=ep.a2 d;let kd:=ep.a9 d;let ee:∀l:O,(((l:N)::cu c).take k)=cu ((l::c).take k):=λl=>by
  change Co k ((l::c).map _)=_;rw[<- tb]
 cases x with
 |app l f z=>
  show(l,_,_,aa,kd,aa,?_)
  cases a with
  |fn g ae=>
   let(x,B,b):=c4;show aQ (aa,_,_,g,bi B,cu<|ja e g,mz e (Y g)<|(l::c).take k,p,aa,ep.a2 b,ep.c0 b,ep.b9,by rwa [aV],?_,?_);.rw[ee];show ep.a6 (Y g) _
   .rw[ee];let i:oQ e g=[B]:=by
     delta oQ;rw[show sP e g=Y (fy g x B)from ep.a1 b]
    change dd.R _ _ _::(vb e k l z c g ae).map dd.K=_;delta vb tD;rw[i,dX];rfl
  |num=>show bl ((⋯:¬(0:Int)=1),aa)
  |pair m s=>show bl ((⋯:¬(2:Int)=1),aa)
  |ref m s=>show bl ((⋯:¬(3:Int)=1),aa)
 |fst l z=>
  show(l,_,_,aa,kd,aa,?_)
  cases a with|num=>show bl ((⋯:¬(0:Int)=2),aa)|fn g ae=>show bl ((⋯:¬(1:Int)=2),aa)|pair m s=>show aQ (aa,aa)|ref m s=>show bl ((⋯:¬(3:Int)=2),aa)
 |snd l z=>
  show(l,_,_,aa,kd,aa,?_)
  cases a with|num=>show bl ((⋯:¬(0:Int)=2),aa)|fn g ae=>show bl ((⋯:¬(1:Int)=2),aa)|pair m s=>show aQ (aa,aa)|ref m s=>show bl ((⋯:¬(3:Int)=2),aa)
 |get l z=>
  show(l,_,_,aa,kd,aa,?_)
  cases a with|num=>show bl ((⋯:¬(0:Int)=3),aa)|fn g ae=>show bl ((⋯:¬(1:Int)=3),aa)|pair m s=>show bl ((⋯:¬(2:Int)=3),aa)|ref m s=>show aQ (aa,aa)
 |set l r z=>
  show(l,_,_,aa,kd,aa,?_)
  cases a with|num=>show bl ((⋯:¬(0:Int)=3),aa)|fn g ae=>show bl ((⋯:¬(1:Int)=3),aa)|pair m s=>show bl ((⋯:¬(2:Int)=3),aa)|ref m s=>show aQ (aa,_,_,p,aa)
 |_=>cases h
end
def qx(T:cn):cA->Prop|.R a s=>(a,s)>T.K|.K a B=>(a,B)>T.a0|.X a l s=>(a,l,s)>T.S
def tH(T:cn):dd->Prop|.K o=>qx T o|.R f s _=>(f,s)>T.R
def qy(T:cn):fe->Prop|cP p c a=>(ds p c,di a)>T.K|lc f c=>((f:N),cu c)>T.R
structure ot(T bd:cn):Prop where
 S:∀q∈T.K,q>bd.K
 K:∀q∈T.R,q>bd.R
 a0:∀q∈T.a0,q>bd.a0
 a1:∀q∈T.S,q>bd.S
 R:∀q∈T.X,q>bd.X
theorem ot.X(T:cn):ot T T:=(λ_ d=>d,λ_ d=>d,λ_ d=>d,λ_ d=>d,λ_ d=>d)
theorem ot.a2{T}(x:ot T b)(y:ot b h):ot T h:=(λ_ d=>y.S _<|x.S _ d,λ_ d=>y.K _<|x.K _ d,λ_ d=>y.a0 _<|x.a0 _ d,λ_ d=>y.a1 _<|x.a1 _ d,λ_ d=>y.R _<|x.R _ d)
theorem qx.K{T}(d:ot T bd){o}(ae:qx T o):qx bd o:=by
 cases o with|R a s=>show d.S _ ae|K a B=>show d.a0 _ ae|X a l s=>show d.a1 _ ae
theorem tH.K{bd:cn}{T}(d:ot T bd){o}(ae:tH T o):tH bd o:=by
 cases o with|K o=>show qx.K d ae|R f s b=>show d.K _ ae
theorem FP{T:cn}{a s:b_}(d:(a,s)∉T.K):T.a3 a s={T with K:=T.K++[(a,s)],X:=T.X++[(a,s)]}:=be d
theorem FQ{T:cn}{a s:b_}(d:(a,s)>T.K):T.a3 a s=T:=bK d
def FR{o:cA}{T bd:cn}(d:o.S T bd):ot T bd/\qx bd o:=by
 let b:∀{α:Type}{l m:#[α]},∀q∈l,q>l++m:=λq d=>dQ _ d;let e:∀{α:Type}{l:#[α]}{x:α},x>l++[x]:=cG _<|cp _
 cases d with
 |R T a s=>
  by_cases q:(a,s)>T.K;.rw[FQ q];show(.X T,q)
  .rw[FP q];show((b,λ_ d=>d,λ_ d=>d,λ_ d=>d,b),e)
 |S T a B q=>show(.X T,q)
 |a0 T a l s q=>show(.X T,q)
 |X T a B W q eF=>show((λ_ d=>d,λ_ d=>d,b,λ_ d=>d,b),e)
 |a1 T a l s W q eF=>show((λ_ d=>d,λ_ d=>d,λ_ d=>d,b,b),e)
theorem abp:∀{l T bd},gC l T bd->ot T bd/\∀o∈l,qx bd o
 |[],T,_,d=>by cases d;show(.X T,λ_ d=>(by cases d))
 |o::r,T,bd,(e,a,B)=>by
  let ab:=FR a;let ag:=abp B;show(ab.1.a2 ag.1,λx b=>?_);let z||z:=cc.1 b;.subst z;show ab.2.K ag.1
  simp_all
def abq(T:cn)(f:N)(s:#[N]):ot T<|T.a4 f s:=(λ_ d=>d,λ_ d=>dQ _ d,λ_ d=>d,λ_ d=>d,λ_ d=>d)
def abr{o T bd}(d:o.S T bd):ot T bd/\tH bd o:=by
 cases d with
 |K ae=>show FR ae
 |@R f s b _ q=>show(.X T,q)
 |@S f s b _ _ q ae=>
  let ag:=(abp ae).1;show((abq T f s).a2 ag,ag.K _<|cG _<|cp _)
theorem FS:∀{l T bd},hd l T bd->ot T bd/\∀o∈l,tH bd o
 |[],T,_,d=>by cases d;show(.X T,λ_ d=>(by cases d))
 |o::r,T,bd,(e,a,B)=>by
  let ab:=abr a;let ag:=FS B;show(ab.1.a2 ag.1,λx b=>?_);let z||z:=cc.1 b;.subst z;show ab.2.K ag.1
  simp_all
def kV{w}(d:w>gq M e):w.node>bR e:=by
 rw[<- tG e M];show bx.2 (w,d,aa)
def FT(e:aW):∀s l B,(l,Y B)>gZ s e->B>s.map ki∨B>dC e:=by
 induction e with
 |num l n=>intro s l B d;cases d
 |var l x=>
  intro s l B d;let d:=dj.1 d;injection d with _ d
  cases q:s.find? λz=>z.1==x with
  |none=>rw[q]at d;cases d
  |some z=>
   rw[q]at d;injection d with d;show aQ<|d▸bx.2 (z,qd q,aa)
 |_=>intro s l B d;(dsimp only[gZ,dC,bR]at*;simp_all [sQ]);grind
noncomputable def vc:jb->O|cg l=>l|gd l=>l|nQ l=>l|nR l=>l|lf l=>l
noncomputable def Bc:eT->O|hg=>0|kh l _=>l|kx l _=>l|le l _=>l
noncomputable def vd:eT->fh|hg=>[]|kh _ c=>c|kx _ c=>c|le _ c=>c
def cR.bind(aq:cR e){l B}(d:eV e l=Y B):B<30:=by
 delta eV at d
 cases q:(ho e).find? λz=>z.1==l with
 |none=>simp_all
 |some z=>
  rw[q]at d;let(b,f):=z;subst d;let w||w:=FT e [] b B (qd q);.cases w
  .rw[aq.X,xr]at w;show ia w aq.R
theorem Bd{g x B}(d:fy g x B>bR e):Ui (oR e) g=ja e g:=by
 change((((mn e).map λk=>(aZ k<|ja e k)).find? λz=>z.1==g).map λz=>z.2).getD []=_
 cases q:((mn e).map λk=>(aZ k<|ja e k)).find? λz=>z.1==g with
 |none=>
  have:=s'.1 q (aZ g<|ja e g)<|bx.2 (g,(bx.2 (fy g x B,je.2 (d,aa),aa)),aa);simp at this
 |some z=>
  grind
def FU(aq:cR e){g}(d:y>ja e g):y<30:=by
 delta ja at d;split at d;.let d:=(je.1 d).1;rw[z']at d;let(l,_,d):=ln.1 d;show aq.bind d
 .cases d
structure iC(e:aW)(k:O)(bo:#[b_])(aj:fe->Prop):Prop where
 K:cR e
 a2:k<=2
 R:∀o∈gq M e,∀c,jd aj o.owner c->∀f,fX (oR e) k aj c o.node f->aj f
 S:∃b:fh->Prop,b []/\(∀c,b c->↑c<=2)/\(∀p c,vc p<30->b c->ds p c>bo)/\(∀p c a,aj (cP p c a)->Bb e a/\vc p<30/\b c/\Bc a<30/\b (vd a)/\di a>bo)/\∀f c,aj (lc f c)->f<30/\b c
def m_(e:aW)(bo:#[b_])(aj:fe->Prop):cA->Prop|.R a s=>∃p c x,a=ds p c/\s=di x/\aj (cP p c x)|.K a B=>∃p c q ae,a=ds p c/\B=ds q ae/\(a>bo/\B>bo)/\∀v,aj (cP p c v)->aj (cP q ae v)|.X a l s=>∃w∈gq M e,∃y c,rn w.node=Y y/\a=aD y c/\l=(bi w.node:O)/\s=cu c/\jd aj w.owner c/\a>bo/\(0,l,s)>bo
def yG(e:aW)(bo:#[b_])(aj:fe->Prop):dd->Prop|.K o=>m_ e bo aj o|.R f s b=>∃(g:O)(c:fh),f=g/\s=cu c/\b=mZ e (Y g) c/\aj (lc g c)
section
variable{k:O}{bo:#[b_]}{aj:fe->Prop}(k_:iC e k bo aj)
include k_
theorem iC.X{p c a}(d:aj<|cP p c a):Bb e a:=by
 let(_,_,_,_,b,_):=k_.S;show(b p c a d).1
theorem iC.a1{p c a}(d:aj<|cP p c a):ds p c>bo/\di a>bo/\∀q,vc q<30->ds q c>bo/\ds q (vd a)>bo:=by
 let(_,_,_,b,g,_):=k_.S;let(_,h,e,l,i,j):=g p c a d;show(b p c h e,j,λq f=>(b q c f e,b q _ f i))
theorem iC.a0{o c}(d:jd aj o c):↑c<=2/\∀p,vc p<30->ds p c>bo:=by
 let(ct,ab,ag,b,h,e):=k_.S
 have:ct c:=by
  cases o with|none=>rwa [d]|some f=>show(e f c d).2
 show(ag c this,λp g=>b p c g this)
theorem apV{w:kA}(a1:w>gq M e){c:fh}(a2:jd aj w.owner c):∀o∈pw e c w.node,m_ e bo aj o:=by
 let ax:=k_.R w a1 c a2;let g:∀{o c':cA},o>[c']->m_ e bo aj c'->m_ e bo aj o:=λm d=>(dj.1 m)▸d;let fc:∀{o a:cA}{r:#[cA]},o>a::r->m_ e bo aj a->(o>r->m_ e bo aj o)->m_ e bo aj o:=λm d ag=>(cc.1 m).elim (λz=>z▸d) ag;let p:=kV a1;let bw:=(k_.a0 a2).2;let eb:=k_.K.K p;let h:∀y∈gD w.node,bi y<30:=λy A=>k_.K.K<|jl p A;let i:∀{α:Type}{a:α}{r:#[α]},a>a::r:=(cp _);let j:∀{α:Type}{a B:α}{r:#[α]},B>a::B::r:=el _<|cp _;let(x,eA):=w;intro o b
 cases x with
 |num l n=>show g b (_,_,_,aa,aa,ax _ .R)
 |var l x=>
  let b:o>(match eV e l with|M=>[cA.R (ds (cg l) c)<|di hg]|Y B=>[.K (ds (gd B) c)<|ds (cg l) c]):=b
  cases q:eV e l with|none=>rw[q]at b;show g b (_,_,_,aa,aa,ax _<|.S q)|some B=>rw[q]at b;show g b (_,_,_,_,aa,aa,(bw _<|k_.K.bind q,bw _ eb),λv d=>ax _<|.X q d)
 |fn l x B=>show g b (_,_,_,aa,aa,ax _ .a0)
 |app l f a=>show g b (_,a1,_,_,aa,aa,aa,aa,a2,bw _<|h f i,bw (cg l) eb)
 |letE l x ae B=>show fc b (_,_,_,_,aa,aa,(bw _<|h ae i,bw _ eb),λv d=>ax _<|.a3 d) λb=>g b (_,_,_,_,aa,aa,(bw _<|h B j,bw _ eb),λv d=>ax _<|.a4 d)
 |ifz l z a B=>show fc b (_,_,_,_,aa,aa,(bw _<|h a j,bw _ eb),λv d=>ax _<|.a5 d) λb=>g b (_,_,_,_,aa,aa,(bw _<|h B<|eo _ j,bw _ eb),λv d=>ax _<|.a6 d)
 |pair l a B=>show fc b (_,_,_,aa,aa,ax _ .a7) λb=>fc b (_,_,_,_,aa,aa,(bw _<|h a i,bw _ eb),λv d=>ax _<|.a8 d) λb=>g b (_,_,_,_,aa,aa,(bw _<|h B j,bw _ eb),λv d=>ax _<|.a9 d)
 |fst l ae=>show g b (_,a1,_,_,aa,aa,aa,aa,a2,bw _<|h ae i,bw (cg l) eb)
 |snd l ae=>show g b (_,a1,_,_,aa,aa,aa,aa,a2,bw _<|h ae i,bw (cg l) eb)
 |new l ae=>show fc b (_,_,_,aa,aa,ax _ .b2) λb=>g b (_,_,_,_,aa,aa,(bw _<|h ae i,bw _ eb),λv d=>ax _<|.b3 d)
 |get l ae=>show g b (_,a1,_,_,aa,aa,aa,aa,a2,bw _<|h ae i,bw (cg l) eb)
 |set l r ae=>show fc b (_,a1,_,_,aa,aa,aa,aa,a2,bw _<|h r i,bw (cg l) eb) λb=>g b (_,_,_,_,aa,aa,(bw _<|h ae j,bw _ eb),λv d=>ax _<|.b5 d)
 |add l a B=>show g b (_,_,_,aa,aa,ax _ .b7)
theorem apW{o c}(h:jd aj o c):∀x∈mZ e o c,m_ e bo aj x:=by
 intro x b;rw[FK]at b;let(w,f,d):=dZ.1 b;delta sr at d;grind [apV]
set_option tactic.hygienic true in
theorem apX{w:kA}(a2:w>gq M e){c:fh}(a3:jd aj w.owner c){y:aW}(a1:rn w.node=Y y){a:eT}(b:aj<|cP (cg<|bi y) c a):∀x∈bC e k c w.node a,yG e bo aj x:=by
 let ax:=k_.R w a2 c a3;let p:∀{o c':dd},o>[c']->yG e bo aj c'->yG e bo aj o:=λm d=>(dj.1 m)▸d;let bU:∀{o:dd},o>([]:#[dd])->yG e bo aj o:=λm=>(by cases m);let T:=kV a2;let bw:=(k_.a0 a3).2;let eb:=k_.K.K T;let U:∀y∈gD w.node,bi y<30:=λy a1=>k_.K.K<|jl T a1;let V:∀{α:Type}{a B:α}{r:#[α]},B>a::B::r:=el _<|cp _;let j:=(k_.a1 b).2.2;let dU:Bc a<30:=by
  let(_,_,_,_,a4,_):=k_.S;show(a4 _ _ _ b).2.2.2.1
 let(x,eA):=w;intro o h
 cases x with
 |app l f z=>
  cases a1
  cases a with
  |fn g ae=>
   let(x,B,a5):=k_.X b;let a0:=ax _<|.K b;let A:=(k_.a0 (o:=Y g) a0).2;let q||q:=cc.1 h;.subst q;show(g,_,aa,aa,aa,a0)
   .let(o,a6,rfl):=bx.1 q;let q||q:=cc.1 a6;.subst q;show(_,_,_,_,aa,aa,(bw _<|U z V,A _ dU),λv d=>ax _<|.a1 b d)
    .let q||q:=du.1 q;.let(u,i,rfl):=bx.1 q;show(_,_,_,_,aa,aa,((j (gd u)<|FU k_.K i).2,A _<|FU k_.K i),λv d=>ax _<|.b8 b ((Bd a5)▸i) d)
     .let(u,i,rfl):=bx.1 q;show(_,_,_,_,aa,aa,(A _<|k_.K.K<|(by
        delta oQ at i;split at i;.rename_i q;rw[dj.1 i];show jl (abj q).1<|cp _
        .cases i),bw _ eb),λv d=>ax _<|.a2 b i d)
  |_=>show bU h
 |fst l ae=>
  cases a1
  cases a with|pair m s=>show p h (_,_,_,_,aa,aa,((j (nQ m) dU).2,bw _ eb),λv d=>ax _<|.b0 b d)|_=>show bU h
 |snd l ae=>
  cases a1
  cases a with|pair m s=>show p h (_,_,_,_,aa,aa,((j (nR m) dU).2,bw _ eb),λv d=>ax _<|.b1 b d)|_=>show bU h
 |get l ae=>
  cases a1
  cases a with|ref m s=>show p h (_,_,_,_,aa,aa,((j (lf m) dU).2,bw _ eb),λv d=>ax _<|.b4 b d)|_=>show bU h
 |set l r ae=>
  cases a1
  cases a with|ref m s=>show p h (_,_,_,_,aa,aa,(bw _<|U ae V,(j (lf m) dU).2),λv d=>ax _<|.b6 b d)|_=>show bU h
 |_=>cases a1
end
def FV{x}(d:rn x=Y y):y>gD x:=by
 cases x<;>cases d<;>show(cp _)
noncomputable def jC(e:aW)(k:O)(c x:b_):#[dd]:=match(bR e).find? λy=>bp ((rn y).map (λz=>aD z<|gV c.2.2)=Y c)with|Y y=>bC e k (gV c.2.2) y (QP x)|M=>[]
theorem abt{x}(aq:cR e)(h:x>bR e)(a1:rn x=Y y)(k:O)(c:fh)(a:eT):jC e k (aD y c) (di a)=bC e k c x a:=by
 let aB:gV (aD y c).2.2=c:=(FH _ c).2;delta jC
 cases q:(bR e).find? λb=>bp<|(rn b).map (λz=>aD z<|gV (aD y c).2.2)=Y (aD y c)with
 |none=>
  have:=s'.1 q x h;simp_all
 |some f=>
  let ab:=eH<|us (p:=λb=>bp<|(rn b).map (λz=>aD z<|gV (aD y c).2.2)=Y (aD y c)) q
  cases ag:rn f with
  |none=>rw[ag]at ab;cases ab
  |some z=>
   rw[ag,aB]at ab;have:=aq.b3 (qd q) h (FV ag) (FV a1)<|aym<|(va<|hq ab).1;subst this;rw[aB,FG]
noncomputable def ou(e:aW)(T:cn):#[cA]:=mZ e M []++T.R.flatMap λq=>mZ e (Y q.1.toNat)<|gV q.2
noncomputable def wv(e:aW)(k:O)(T:cn):#[dd]:=T.K.flatMap λq=>jC e k q.1 q.2
def FW{T bd}(d:∀q∈T.R,q>bd.R){o}(m:o>ou e T):o>ou e bd:=by
 let q||q:=du.1 m;.show dQ _ q
 .let(u,b,f):=dZ.1 q;show cG _<|dZ.2 (u,d u b,f)
def abu{k T bd}(d:∀q∈T.K,q>bd.K){o}(m:o>wv e k T):o>wv e k bd:=by
 let(u,b,f):=dZ.1 m;show dZ.2 (u,d u b,f)
structure hQ(e:aW)(k:O)(bo:#[b_])(aj:fe->Prop)(ax:O->O)(p:L)(oG:#[cA])(eb gn:b_)(mh:#[b_×b_])(mi:#[b_×N×#[N]])(T:cn):Prop where
 a1:T.a1=p/\T.a2=k
 X:T.K.Nodup
 a4:T.R.Nodup
 a2:T.a0.Nodup
 a5:T.S.Nodup
 K:∀q∈T.K,m_ e bo aj (.R q.1 q.2)
 a0:∀q∈T.R,∃(f:O)(c:fh),q=((f:N),cu c)/\aj (lc f c)
 R:∀q∈T.a0,m_ e bo aj (.K q.1 q.2)/\(.K q.1 q.2>ou e T∨dd.K (.K q.1 q.2)>wv e k T)
 a3:∀q∈T.S,m_ e bo aj (.X q.1 q.2.1 q.2.2)/\.X q.1 q.2.1 q.2.2>ou e T
 S:∀o∈ou e T,qx T o∨o>oG
 a6:∀a B x,(a,B)>T.a0->(a,x)>T.K->(B,x)>T.K∨(a,x)>T.X∨(a=eb/\x=gn/\(a,B)>mh)
 a7:∀a w x,(a,w)>T.S->(a,x)>T.K->(∀o∈jC e k a x,tH T o)∨(a,x)>T.X∨(a=eb/\x=gn/\(a,w)>mi)
 a8:∀q∈T.X,q>T.K
 a9:↑T.X<=↑T.K+(↑T.a0+↑T.S)*ax ↑T.K
def ve(e:aW)(k:O)(bo:#[b_])(aj:fe->Prop)(T:cn):cA->Prop|.R a s=>m_ e bo aj<|.R a s|.K a B=>m_ e bo aj (.K a B)/\(.K a B>ou e T∨dd.K (.K a B)>wv e k T)|.X a l s=>m_ e bo aj (.X a l s)/\.X a l s>ou e T
section
variable{k:O}{bo:#[b_]}{aj:fe->Prop}{ax:O->O}{p:L}{oG:#[cA]}{eb gn:b_}{mh:#[b_×b_]}{mi:#[b_×N×#[N]]}{T bd:cn}
theorem ve.K{o}(d:ot T bd)(g:ve e k bo aj T o):ve e k bo aj bd o:=by
 cases o with|R a s=>show g|K a B=>show(g.1,g.2.imp (FW d.K)<|abu d.S)|X a l s=>show(g.1,FW d.K g.2)
def hQ.b7{o}(b:hQ e k bo aj ax p (o::oG) eb gn mh mi T)(ae:qx T o):hQ e k bo aj ax p oG eb gn mh mi T:=
 {b with S:=λq f=>(b.S q f).elim aQ λm=>(cc.1 m).elim (λz=>aQ<|z▸ae) bl}
structure tK(ax:O->O)(bo:#[b_])(aj:fe->Prop)(e:aW):Prop where
 R:∀n m,n<=m->ax n<=ax m
 K:∀T:cn,T.K.Nodup->(∀q∈T.K,m_ e bo aj (.R q.1 q.2))->∀a,↑(dG T.K a)<=ax ↑T.K
def lC{l:#[α]}{x y:α}:y>l++[x]↔y>l∨y=x:=by
 simp_all
theorem hQ.b2(c2:tK ax bo aj e){o:cA}(b:hQ e k bo aj ax p (o::oG) eb gn mh mi T)(g:ve e k bo aj T o)(d:o.S T bd):hQ e k bo aj ax p oG eb gn mh mi bd:=by
 let j:=FR d;let m:∀{a x},(∀o∈jC e k a x,tH T o)->∀o∈jC e k a x,tH bd o:=λq o U=>(q o U).K j.1;show hQ.b7 ?_ j.2
 cases d with
 |S|a0=>show b
 |R T a s=>
  by_cases q:(aZ a s)>T.K;.rwa [FQ q]
  rw[FP q]at j m⊢;let h:=j.1;show(b.a1,pm b.X q,b.a4,b.a2,b.a5,λu f=>?_,b.a0,λu f=>((b.R u f).1,(b.R u f).2.imp id<|abu h.S),b.a3,λu f=>(b.S u f).imp (·.K h) id,λi B x ab ag=>?_,λi w x ab ag=>?_,λu f=>?_,?_)
  .let z||z:=lC.1 f;.show b.K u z
   .subst z;show g
  .let z||z:=lC.1 ag;.show(b.a6 i B x ab z).imp (h.S _) (·.imp (h.R _) id)
   .show bl<|aQ<|by rw[z];show lC.2<|bl aa
  .let z||z:=lC.1 ag;.show(b.a7 i w x ab z).imp m (·.imp (h.R _) id)
   .show bl<|aQ<|by rw[z];show lC.2<|bl aa
  .show(lC.1 f).elim (λz=>h.S _<|b.a8 u z) λz=>by rw[z];show lC.2<|bl aa
  .rw[cW,cW];let ab:=b.a9;let ag:=Nat.mul_le_mul_left (↑T.a0+↑T.S)<|c2.R ↑T.K (↑T.K+1)<|ll _;change ↑T.X+1<=↑T.K+1+_*ax (↑T.K+1);lia
 |X T a B W q eF=>
  exists V;let h:=j.1;let c3:↑W<=ax ↑T.K:=by rw[eF.length_eq];show c2.K T b.X b.K a
  show V (b.a1,b.X,b.a4,pm b.a2 q,b.a5,b.K,b.a0,λu f=>?_,b.a3,λu f=>(b.S u f).imp (·.K h) id,λi v x ab ag=>?_,λi w x ab ag=>(b.a7 i w x ab ag).imp m (·.imp (h.R _) id),λu f=>?_,?_)
  .let z||z:=lC.1 f;.show b.R u z
   .subst z;show g
  .let z||z:=lC.1 ab;.show(b.a6 i v x z ag).imp id (·.imp (h.R _) id)
   .cases z;show bl<|aQ<|cG _<|bx.2 (x,eF.mem_iff.2<|iB.2 ag,aa)
  .let z||z:=du.1 f;.show b.a8 u z
   .let(x,A,rfl):=bx.1 z;show iB.1<|eF.mem_iff.1 A
  .change↑(T.X++W.map λs=>(aZ a s))<=↑T.K+(↑(T.a0++[(aZ a B)])+↑T.S)*ax ↑T.K;rw[cW,cW,aV];let ab:=b.a9;change ↑T.X+↑W<=↑T.K+(↑T.a0+1+↑T.S)*_;rw[show ↑T.a0+1+↑T.S=(↑T.a0+↑T.S)+1 by show xF ↑T.a0 1 ↑T.S,xB];lia
 |a1 T a l s W q eF=>
  let h:=j.1;let c3:↑W<=ax ↑T.K:=by rw[eF.length_eq];show c2.K T b.X b.K a
  show(b.a1,b.X,b.a4,b.a2,pm b.a5 q,b.K,b.a0,b.R,λu f=>?_,λu f=>(b.S u f).imp (·.K h) id,λi v x ab ag=>(b.a6 i v x ab ag).imp id (·.imp (h.R _) id),λi w x ab ag=>?_,λu f=>?_,?_)
  .let z||z:=lC.1 f;.show b.a3 u z
   .subst z;show g
  .let z||z:=lC.1 ab;.show(b.a7 i w x z ag).imp m (·.imp (h.R _) id)
   .cases z;show bl<|aQ<|cG _<|bx.2 (x,eF.mem_iff.2<|iB.2 ag,aa)
  .let z||z:=du.1 f;.show b.a8 u z
   .let(x,A,rfl):=bx.1 z;show iB.1<|eF.mem_iff.1 A
  .change↑(T.X++W.map λs=>(aZ a s))<=↑T.K+(↑T.a0+↑(T.S++[(aZ a<|aZ l s)]))*ax ↑T.K;rw[cW,cW,aV];let ab:=b.a9;change ↑T.X+↑W<=↑T.K+(↑T.a0+(↑T.S+1))*_;rw[<- mq,xB];lia
theorem hQ.b0(h:tK ax bo aj e):∀{l T bd},hQ e k bo aj ax p (l++oG) eb gn mh mi T->(∀o∈l,ve e k bo aj T o)->gC l T bd->hQ e k bo aj ax p oG eb gn mh mi bd|[],T,_,b,_,d=>by cases d;show b|o::r,T,bd,b,g,(i,a,B)=>(b.b2 h (g o<|cp _) a).b0 h (λx f=>(g x<|eo _ f).K (FR a).1) B
def apZ(T:cn)(g:O)(c:fh):ou e (T.a4 g<|cu c)=ou e T++mZ e (Y g) c:=by
 change _++(T.R++[(aZ ((g:N))<|cu c)]).flatMap _=_;rw[vS,<- fi];congr 1;simp[e',sq,pd]
def abv(ar:iC e k bo aj){o c}(h:jd aj o c)(aw:∀x∈mZ e o c,x>ou e T):∀x∈mZ e o c,ve e k bo aj T x:=λx b=>by
 let ab:=apW ar h x b;let ag:=aw x b
 cases x with|R a s=>show ab|K a B=>show(ab,aQ ag)|X a l s=>show(ab,ag)
def hQ.b8(ar:iC e k bo aj)(c2:tK ax bo aj e){o:dd}(b:hQ e k bo aj ax p [] eb gn mh mi T)(c3:yG e bo aj o)(g:∀x,o=.K x->ve e k bo aj T x)(d:o.S T bd):hQ e k bo aj ax p [] eb gn mh mi bd:=by
 cases d with
 |@K o _ _ ae=>show hQ.b2 c2 {b with S:=λq l=>(b.S q l).imp id λz=>nomatch z} (g o aa) ae
 |R=>show b
 |@S f s A _ _ v ae=>
  let(f,c,rfl,rfl,rfl,m):=c3;let i:=abq T (f:N)<|cu c;let bf:=apZ (e:=e) T f c;show hQ.b0 c2 ?_ (abv ar (o:=Y f) m λx U=>by simp_all) ae;show(b.a1,b.X,pm b.a4 v,b.a2,b.a5,b.K,λq l=>?_,λu h=>((b.R u h).1,(b.R u h).2.imp (FW i.K) id),λu h=>((b.a3 u h).1,FW i.K (b.a3 u h).2),λo j=>?_,b.a6,λa w x ab ag=>(b.a7 a w x ab ag).imp (λz o j=>(z o j).K i) id,b.a8,b.a9)
  .let z||z:=lC.1 l;.show b.a0 q z
   .show(f,c,z,m)
  .rw[bf]at j;let z||z:=du.1 j;.show(b.S o z).elim (λw=>aQ<|w.K i) λw=>nomatch w
   simp_all
def abw(e:aW)(k:O)(bo:#[b_])(aj:fe->Prop)(T:cn)(o:dd):Prop:=yG e bo aj o/\∀x,o=.K x->ve e k bo aj T x
theorem hQ.b1(ar:iC e k bo aj)(h:tK ax bo aj e):∀{l T bd},hQ e k bo aj ax p [] eb gn mh mi T->(∀o∈l,abw e k bo aj T o)->hd l T bd->hQ e k bo aj ax p [] eb gn mh mi bd|[],T,_,b,_,d=>by cases d;show b|o::r,T,bd,b,g,(j,a,B)=>(b.b8 ar h (g o<|cp _).1 (g o<|cp _).2 a).b1 ar h (λx f=>((g x<|eo _ f).1,λy i=>((g x<|eo _ f).2 y i).K (abr a).1)) B
abbrev iT(e:aW)(k:O)(bo:#[b_])(aj:fe->Prop)(ax:O->O)(p:L)(T:cn):Prop:=hQ e k bo aj ax p [] (0,0,[]) (0,0,[]) [] [] T
def FX(ar:iC e k bo aj)(h:hQ e k bo aj ax p oG eb gn mh mi T){c x w}(a1:(c,w)>T.S)(a2:(c,x)>T.K):
  ∃u∈gq M e,∃y ae a,rn u.node=Y y/\c=aD y ae/\x=di a/\w=(((bi u.node:O):N),cu ae)/\jd aj u.owner ae/\aj (cP (cg<|bi y) ae a)/\jC e k c x=bC e k ae u.node a:=by
 exists g;let(u,f,y,ae,ab,ag,i,j,l,_):=(h.a3 _ a1).1;let(q,o,a,aB,b,m):=h.K _ a2;let b:x=di a:=b;let ag:c=aD y ae:=ag;let(rfl,rfl):=va (ag.symm.trans aB);show g (u,f,y,ae,a,ab,ag,b,pc (show w.1=_ from i)<|show w.2=_ from j,l,m,by rw[ag,b];show abt ar.K (kV f) ab k ae a)
def aqa(ar:iC e k bo aj)(b:hQ e k bo aj ax p oG eb gn mh mi T){c x}(h:(c,x)>T.K):↑(dG T.S c)<=1:=by
 let aD:=ws b.a5 c
 cases q:dG T.S c with
 |nil=>show ex _
 |cons a r=>
  cases r with
  |nil=>show kD _
  |cons B r=>
   exists f;let(u,g,y,ae,_,ab,ag,_,i,_):=FX ar b (iB.1<|by rw[q];show(cp _)) h;let(w,j,A,U,_,l,m,_,o,_):=FX ar b (iB.1<|by rw[q];show el _<|cp _) h;let(v,rfl):=va (ag.symm.trans m);have:=ar.K.b3 (kV g) (kV j) (FV ab) (FV l)<|aym v;let e:a=B:=by rw[i,o,this]
   rw[q,e]at aD;show f<|bB (cp _) (f_.1 aD).1
def iT.b9(ar:iC e k bo aj)(d0:tK ax bo aj e){W:#[b_×b_]}{c x:b_}(b:iT e k bo aj ax p T)(c2:T.X=W++[(c,x)]):
  Fz (dr e) T k c x ((dG T.S c).map λ_=>jC e k c x)/\∀bd,hd (my T c x<|(dG T.S c).map λ_=>jC e k c x) {T with X:=W} bd->iT e k bo aj ax p bd:=by
 let m:=b.a8 _ (by rw[c2];show lC.2<|bl aa);let dg:=λq h=>lC.1 (by rwa [<- c2]);show(⟨?_⟩,λbd d=>?_)
 .have:∀l:#[N×#[N]],(∀w∈l,(c,w)>T.S)->eq (QA (dr e) k x) l (l.map λ_=>jC e k c x):=by
   intro l
   induction l with
   |nil=>intro _;show ed
   |cons w r d1=>
    intro A;show eS ?_<|d1 λv d2=>A v<|eo _ d2;let(u,V,y,ae,a,ab,ag,c7,c8,c3,c4,U):=FX ar b (A w<|cp _) m;rw[U,c7,c8];show ar.K.c1 (kV V) ab (kF (ar.a0 c3).1 ⋯)<|ar.X c4
  show this _ λw c5=>iB.1 c5
 .let d3:hQ e k bo aj ax p [] c x T.a0 T.S {T with X:=W}:=by
   show(b.a1,b.X,b.a4,b.a2,b.a5,b.K,b.a0,b.R,b.a3,b.S,λa B y ab ag=>?_,λa w y ab ag=>?_,λq h=>b.a8 q<|by rw[c2];show dQ _ h,?_)
   .let z||z||(_,_,z):=b.a6 a B y ab ag;.show aQ z
    .let z||z:=dg _ z;.show bl<|aQ z
     .cases z;show bl<|bl (aa,aa,ab)
    .cases z
   .let z||z||(_,_,z):=b.a7 a w y ab ag;.show aQ z
    .let z||z:=dg _ z;.show bl<|aQ z
     .cases z;show bl<|bl (aa,aa,ab)
    .cases z
   .have:=b.a9;rw[c2,cW]at this;show db (nq _ _) this
  let d4:∀o∈my T c x ((dG T.S c).map λ_=>jC e k c x),abw e k bo aj {T with X:=W} o:=by
   intro o j;let q||q:=du.1 j
   .let(B,d5,rfl):=bx.1 q;let i:m_ e bo aj<|.R B x:=by
     let(e3,cb,e4,cl,aB,d6,_,d7):=(b.R _<|iB.1 d5).1;let(eG,cS,a,c6,d8,d9):=b.K _ m;let aB:=aB;let c6:=c6;let(rfl,rfl):=va (aB.symm.trans c6);show(_,_,_,d6,d8,d7 _ d9)
    show(i,λy e0=>by cases e0;show i)
   .exists e1;let(l,A,h):=ayn.1 q;let(w,c5,rfl):=bx.1 A;let(u,V,y,ae,a,ab,ag,c7,c8,c3,c4,U):=FX ar b (iB.1 c5) m;let i:=apX ar V c3 ab c4 o<|U▸h;show e1 (i,λz hz=>?_);rw[hz]at i
    cases z with
    |R a s=>show i
    |K a B=>show(i,bl<|dZ.2 ((c,x),m,hz▸h))
    |X e2 l s=>
     rw[U]at h;exfalso;rw[hz]at h
     let bU:∀(x:aW)(a:eT),dd.K (.X e2 l s)∉bC e k ae x a:=by
      intro x a d
      cases x with
      |app l f B=>
       cases a with
       |fn g ae=>
        let d||d:=cc.1 d;.cases d
        .obtain⟨o,j,⟨⟩⟩:=bx.1 d;let d||d:=cc.1 j;.cases d
         .let d||d:=du.1 d<;>let(_,_,d):=bx.1 d<;>cases d
       |_=>show bB d hD
      |fst|snd|get|set=>cases a<;>first|show bB d hD|cases dj.1 d
      |_=>show bB d hD
     show bU _ _ h
  let pn:=d3.b1 ar d0 d4 d;let(e5,c9):=FS d;show{pn with S:=pn.S,a6:=λa B y ab ag=>?_,a7:=λa w y ab ag=>?_}
  .let z||z||(rfl,rfl,z):=pn.a6 a B y ab ag;.show aQ z
   .show bl<|aQ z
   .show aQ<|c9 (.K<|.R B y)<|dQ _<|bx.2 (B,iB.2 z,aa)
  .let z||z||(rfl,rfl,z):=pn.a7 a w y ab ag;.show aQ z
   .show bl<|aQ z
   .show aQ λo j=>c9 o<|cG _<|ayn.2 (_,bx.2 (w,iB.2 z,aa),j)
end
section
variable{k:O}{bo:#[b_]}{aj:fe->Prop}{ax:O->O}{p:L}{T bd:cn}
def aqb{w}(h:w>gq M e){c}(b:jd (qy T) w.owner c){o}(a1:o>pw e c w.node):o>ou e T:=by
 let d:o>mZ e w.owner c:=by
  rw[FK];show dZ.2 (w,h,by delta sr;rwa [bK aa])
 cases q:w.owner with
 |none=>
  rw[q]at b d;rw[b]at d;show dQ _ d
 |some f=>
  rw[q]at b d;show cG _<|dZ.2 (_,b,?_);rwa [sq,pd]
theorem iT.b3(ar:iC e k bo aj)(c2:iT e k bo aj ax p T)(c3:T.X=[]){w:kA}(c4:w>gq M e){c:fh}(c5:jd (qy T) w.owner c){f:fe}(r:fX (oR e) k (qy T) c w.node f):qy T f:=by
 let st:∀{o},o>pw e c w.node->qx T o:=λd=>(c2.S _<|aqb c4 c5 d).elim id λz=>(by cases z);let g:∀{a B x},qx T (.K a B)->(a,x)>T.K->(B,x)>T.K:=λab ag=>(c2.a6 _ _ _ ab ag).elim id λz=>z.elim (λz=>by rw[c3]at z;cases z) λz=>nomatch z.2.2;let h:∀{y a l},rn w.node=Y y->qx T (.X (aD y c) l<|cu c)->qy T (cP (cg<|bi y) c a)->∀o∈bC e k c w.node a,tH T o:=λab ag U o c8=>by
  let z||z||z:=c2.a7 _ _ _ ag U;.show z o<|by rwa [abt ar.K (kV c4) ab]
  .rw[c3]at z;cases z
  .show nomatch z.2.2
 let V:∀{q ae a},qy T (cP q ae a)->Bb e a:=λd=>by
  let(_,_,x,aB,c6,c7):=c2.K _ d;have:=QQ c6;subst this;show ar.X c7
 let b:∀{α:Type}{a:α}{r:#[α]},a>a::r:=(cp _);let i:∀{α:Type}{a B:α}{r:#[α]},B>a::B::r:=el _<|cp _;let j:∀{α:Type}{f:cA->dd}{o:cA}{l:#[cA]}{a:dd},o>l->f o>a::l.map f:=λd=>el _<|bx.2 (_,d,aa);let(x,eA):=w
 cases r with
 |R=>show st b
 |@S l x a=>
  show st (o:=.R (ds (cg l) c)<|di hg) ?_;change _>(match eV e l with|M=>[cA.R (ds (cg l) c)<|di hg]|Y B=>[.K (ds (gd B) c)<|ds (cg l) c]);rw[show eV e l=M from a];show b
 |@X l x B v a d=>
  show g (st ?_) d;change _>(match eV e l with|M=>[cA.R (ds (cg l) c)<|di hg]|Y B=>[.K (ds (gd B) c)<|ds (cg l) c]);rw[show eV e l=Y B from a];show b
 |a0=>show st b
 |K d=>show h aa (st b) d _ b
 |a1 d ag=>show g (h aa (st b) d _<|j (α:=O) b) ag
 |b8 d A ag=>
  let(x,B,m):=V d;rw[Bd m]at A;show g (h aa (st b) d _<|j (α:=O)<|eo _<|dQ _<|bx.2 (_,A,aa)) ag
 |a2 d m ag=>show g (h aa (st b) d _<|j (α:=O)<|eo _<|cG _<|bx.2 (_,m,aa)) ag
 |a3 d=>show g (st b) d
 |a4 d=>show g (st i) d
 |a5 d=>show g (st b) d
 |a6 d=>show g (st i) d
 |a7=>show st b
 |a8 d=>show g (st i) d
 |a9 d=>show g (st<|eo _ i) d
 |b0 d ag=>show g (h aa (st b) d _ b) ag
 |b1 d ag=>show g (h aa (st b) d _ b) ag
 |b2=>show st b
 |b3 d=>show g (st i) d
 |b4 d ag=>show g (h aa (st b) d _ b) ag
 |b5 d=>show g (st i) d
 |b6 d ag=>show g (h aa (st b) d _ b) ag
 |b7=>show st b
theorem iT.b4(ar:iC e k bo aj)(b:tK ax bo aj e){bd}(d:gC (mZ e M []) (sn p k) bd):iT e k bo aj ax p bd:=by
 let bU:∀{α q aq},q>([]:#[α])->aq:=λd=>(by cases d);show hQ.b0 b ?_ (abv ar (o:=M) aa λx f=>dQ _ f) d;show((aa,aa),mP,mP,mP,mP,λq d=>bU d,λq d=>bU d,λq d=>bU d,λq d=>bU d,λo g=>bl g,λa B x d=>bU d,λa B x d=>bU d,λq d=>bU d,ex _)
noncomputable def fc(bo:#[b_]):#[b_×b_]:=bo.flatMap λa=>bo.map λB=>(a,B)
noncomputable def QR(bo:#[b_]):#[b_×N×#[N]]:=bo.flatMap λa=>bo.map λB=>(a,B.2)
def abx{a B}(b:a>bo)(h:B>bo):(a,B)>fc bo:=dZ.2 (a,b,bx.2 (B,h,aa))
def aqc(bo:#[b_]):↑(QR bo)=↑(fc bo):=by
 delta fc QR;simp_all
noncomputable abbrev tP(bo:#[b_]):O:=↑(fc bo)
def hQ.b5(ar:iC e k bo aj)(b:hQ e k bo aj ax p oG eb gn mh mi T):↑T.K<=tP bo/\↑T.a0<=tP bo/\↑T.S<=tP bo:=by
 show(b.X.length_le_of_subset λq f=>?_,b.a2.length_le_of_subset λq f=>?_,?_);.let(p,c,x,aB,g,d):=b.K q f;have:=ar.a1 d;show abx (aB▸this.1)<|g▸this.2.1
 .let(_,_,_,_,_,_,d,_):=(b.R q f).1;show abx d.1 d.2
 .have:=b.a5.length_le_of_subset (l₂:=QR bo) λq f=>by
   let(_,_,_,_,_,_,_,_,_,ab,ag):=(b.a3 q f).1;show dZ.2 (q.1,ab,bx.2 (_,ag,aa))
  simp_all [aqc]
noncomputable def fD(br:O)(T:cn):O:=2*(br - ↑T.K)+(br+1)*((br - ↑T.a0)+(br - ↑T.S))+↑T.X
def aqd{br:O}{o:cA}(d:o.S T bd)(B:↑bd.K<=br/\↑bd.a0<=br/\↑bd.S<=br):fD br bd<=fD br T:=by
 let e:∀{W:#[b_]}{a:b_},W.Perm (dG T.K a)->↑T.K<=br->↑W<=br:=λd g=>by rw[d.length_eq];show db (wr _ _) g
 cases d with
 |S|a0=>show kD _
 |R T a s=>
  by_cases q:(a,s)>T.K;.rw[FQ q];show kD _
  .rw[FP q]at B⊢;let f:=B.1;delta fD;rw[cW]at f⊢;rw[cW];have:↑([(a,s)]:#[b_×b_])=1:=aa;rw[this]at f⊢;lia
 |X T a h W q eF=>
  let w:=e eF B.1;let b:=B.2.1;delta fD;rw[cW]at b⊢;rw[cW,aV];let aB:↑([(a,h)]:#[b_×b_])=1:=aa;rw[aB]at b⊢;rw[show br - ↑T.a0+(br - ↑T.S)=(br -(↑T.a0+1)+(br - ↑T.S))+1 by lia,TC];lia
 |a1 T a l s W q eF=>
  let w:=e eF B.1;let b:=B.2.2;delta fD;rw[cW]at b⊢;rw[cW,aV];let aB:↑([(a,l,s)]:#[b_×N×#[N]])=1:=aa;rw[aB]at b⊢;rw[show br - ↑T.a0+(br - ↑T.S)=(br - ↑T.a0+(br -(↑T.S+1)))+1 by lia,TC];lia
def aqe{o:cA}(d:o.S T bd):↑T.K<=↑bd.K/\↑T.a0<=↑bd.a0/\↑T.S<=↑bd.S:=by
 let b:∀{α:Type}{l m:#[α]},↑l<=↑(l++m):=by simp_all
 cases d with
 |S|a0=>simp_all
 |R T a s=>
  by_cases q:(a,s)>T.K;.rw[FQ q];simp_all
  .rw[FP q];show(b,dw,dw)
 |X=>show(dw,b,dw)
 |a1=>show(dw,dw,b)
theorem QS{br}:∀{l:#[cA]}{T bd:cn},gC l T bd->↑bd.K<=br/\↑bd.a0<=br/\↑bd.S<=br->fD br bd<=fD br T/\↑T.K<=br/\↑T.a0<=br/\↑T.S<=br
 |[],T,_,d,B=>by cases d;show(dw,B)
 |o::r,T,bd,(b,x,y),B=>by
  let ab:=QS y B;let ag:=aqe x;show(db ab.1<|aqd x ab.2,db ag.1 ab.2.1,db ag.2.1 ab.2.2.1,db ag.2.2 ab.2.2.2)
theorem aby{br}:∀{l T bd},hd l T bd->↑bd.K<=br/\↑bd.a0<=br/\↑bd.S<=br->fD br bd<=fD br T/\↑T.K<=br/\↑T.a0<=br/\↑T.S<=br
 |[],T,_,d,B=>by cases d;show(dw,B)
 |o::r,T,bd,(b,x,y),B=>by
  let ab:=aby y B
  let ag:=by
   cases x with
   |K ae=>show QS ae.K ab.2
   |R=>show(dw,ab.2)
   |S _ ae=>
    let z:=QS ae ab.2;show z
  show(db ab.1 ag.1,ag.2)
def iT.b6(ar:iC e k bo aj)(h:tK ax bo aj e){BQ}
 (c2:∀T W c x,iT e k bo aj ax p T->T.X=W++[(c,x)]->(BQ=J->↑T.K+↑T.R<=400)->∃aC,em aC (gf<|my T c x<|(dG T.S c).map λ_=>jC e k c x) {T with X:=W}):
  A_ (dr e) p k BQ (iT e k bo aj ax p)<|fD<|tP bo:=by
 show(λT b=>b.a1,λT W c x b f i=>?_);let(aC,j):=c2 T W c x b f i;let d:=iT.b9 ar h b f;show(_,aC,d.1,j,λbd ae=>?_);let g:=d.2 bd ae;show(g,?_);let m:=(aby ae<|g.b5 ar).1;have:fD (tP bo) {T with X:=W}+1=fD (tP bo) T:=by
  delta fD;rw[f,cW];rfl
 lia
end
theorem px{α eB:Type}{f:α->#[eB]}{n:O}:∀{l:#[α]},(∀a∈l,↑(f a)<=n)->↑(l.flatMap f)<=↑l*n
 |[],_=>ex _
 |a::r,d=>by
  rw[rc,cW,hs,xB];let ab:=d a<|cp _;let ag:=px λB b=>d B<|eo _ b;lia
theorem abz:∀(n:O)(l:#[O]),↑l<=n->l.eraseDups.Nodup
 |_,[],_=>mP
 |n+1,a::r,d=>by
  rw[CX];show f_.2 (λm=>?_,abz n _<|db (qe _ _)<|Kf d);simp_all
def abA(e:aW)(g:O):(ja e g).Nodup:=by
 delta ja;split;.show(abz _ _ dw).sublist vT
 .show mP
theorem abB{f g:O->b_}{c:b_}(inj:∀a B,f a=f B->a=B):∀{l:#[O]},l.Nodup->↑(l.filterMap λy=>if f y=c then Y (g y)else M)<=1
 |[],_=>ex _
 |y::r,d=>by
  let(ab,ag):=f_.1 d;by_cases q:f y=c;.rw[q',bK q];have:(r.filterMap λy=>if f y=c then Y (g y)else M)=[]:=List.filterMap_eq_nil_iff.2 λz hz=>be λ(w:f z=c)=>ab<|inj _ _ (w.trans q.symm)▸hz;rw[this];show kD _
  .rw[q',be q];show abB inj ag
def abC(e:aW)(c:fh)(l:O)(x:lb):pw e c (gK l x)=[.R (ds (cg l) c)<|di hg]∨∃B,pw e c (gK l x)=[.K (ds (gd B) c)<|ds (cg l) c]:=by
 change(match eV e l with|M=>[cA.R (ds (cg l) c)<|di hg]|Y B=>[.K (ds (gd B) c)<|ds (cg l) c])=_∨∃B,(match eV e l with|M=>[cA.R (ds (cg l) c)<|di hg]|Y B=>[.K (ds (gd B) c)<|ds (cg l) c])=_
 cases eV e l with|none=>show aQ aa|some B=>show bl (B,aa)
section
variable(ep:cR e)
include ep
theorem abD:↑(gq M e)<=30:=by
 have:↑((gq M e).map Own.node)=cU e:=by rw[tG,mS]
 rw[aV]at this;rw[this];show ep.R
theorem abF(c:fh)(x:aW):↑(pw e c x)<=3:=by
 cases x with
 |var l x=>let d||(B,d):=abC e c l x<;>rw[d]<;>show oe aa
 |_=>show oe aa
theorem yH(o:bs O)(c:fh):↑(mZ e o c)<=90:=by
 rw[FK];let ab:=px (f:=sr e o c) (l:=gq M e) λw _=>by
  delta sr;split;.show abF ep c _
  show CV.1 aa
 let ag:=abD ep;lia
theorem aqf(g:O):↑(ja e g)<=30:=by
 let d:=(abA e g).length_le_of_subset λy b=>xr.2<|FU ep b;simp_all
theorem abG(g:O):↑(oQ e g)<=1:=by
 delta oQ;split;.show kD _
 show CV.1 aa
theorem aqg(k l:O)(a:aW)(c:fh)(g:O)(ae:fh):↑(vb e k l a c g ae)<=32:=by
 delta vb;rw[hs,cW,aV,aV];have:=aqf ep g;have:=abG ep g;lia
noncomputable def ss(c:b_):dd->bs b_|.K (.K a B)=>if a=c then Y B else M|_=>M
theorem aqh(k:O)(ae:fh)(c:b_)(x:aW)(a:eT):↑(bC e k ae x a)<=33/\gf (bC e k ae x a)<=123/\↑((bC e k ae x a).filterMap<|ss c)<=3:=by
 let b:∀{o:cA},↑([dd.K o]:#[dd])<=33/\gf [dd.K o]<=123/\↑(([dd.K o]:#[dd]).filterMap<|ss c)<=3:=λ{o}=>((⋯:1<=33),(⋯:1<=123),db (CZ _ _) (⋯:1<=3));let bU:↑([]:#[dd])<=33/\gf []<=123/\↑(([]:#[dd]).filterMap<|ss c)<=3:=(ex _,ex _,ex _)
 cases x with
 |app l f z=>
  cases a with
  |fn g h=>
   let d:=aqg ep k l z ae g h;let ag:=yH ep (Y g)<|(l::ae).take k;show(?_,?_,?_);.change↑((vb e k l z ae g h).map dd.K)+1<=33;rw[aV];show ut d
   .change gf (_::_)<=123;rw[AW,yD];change 1+↑(mZ e (Y g)<|(l::ae).take k)+_<=123;lia
   .change↑(((vb e k l z ae g h).map dd.K).filterMap<|ss c)<=3;delta vb;rw[fg,cs,dX,dX];show db (m:=1+(1+1)) ?_ ⋯;let aB:∀(o:dd)(r:#[dd]),↑((o::r).filterMap<|ss c)<=1+↑(r.filterMap<|ss c):=λo r=>by
     rw[q'];split;.show ayo ↑(List.filterMap (ss c) r) 1
     .rw[hs];lia
    show db (aB _ _)<|zR ?_ 1;rw[vU,cW,awl];show z_ ?_ ?_;.show abB (λa B d=>aAq (va d).1)<|abA e g
    .show db (CZ _ _) ?_;rw[aV];show abG ep g
  |_=>show bU
 |fst l z=>cases a<;>first|show b|show bU
 |snd l z=>cases a<;>first|show b|show bU
 |get l z=>cases a<;>first|show b|show bU
 |set l r z=>cases a<;>first|show b|show bU
 |_=>cases a<;>show bU
theorem QT(k:O)(c x b:b_):↑(jC e k c x)<=33/\gf (jC e k c x)<=123/\↑((jC e k c x).filterMap<|ss b)<=3:=by
 delta jC;split;.show aqh ep k _ b _ _
 .show(ex _,ex _,ex _)
theorem aqi(T:cn):↑(ou e T)<=90*(1+↑T.R):=by
 delta ou;rw[cW];let ab:=yH ep M [];let ag:=px (l:=T.R) (f:=λq=>mZ e (Y q.1.toNat)<|gV q.2) λq _=>yH ep _ _;lia
theorem aqj(k:O)(T:cn):↑(wv e k T)<=33*↑T.K:=by
 have:=px (l:=T.K) λq _=>(QT ep k q.1 q.2 (0,0,[])).1;delta wv;lia
end
section
variable{k:O}{bo:#[b_]}{aj:fe->Prop}{ax:O->O}{p:L}{T:cn}{oG:#[cA]}{eb gn:b_}{mh:#[b_×b_]}{mi:#[b_×N×#[N]]}
def hQ.c0(ar:iC e k bo aj)(b:hQ e k bo aj ax p oG eb gn mh mi T):↑T.a0+↑T.S<=90*(1+↑T.R)+33*↑T.K:=by
 let ab:=aqi ar.K T;let ag:=aqj ar.K k T;let aD:(T.a0.map (λq=>cA.K q.1 q.2)++T.S.map λq=>cA.X q.1 q.2.1 q.2.2).Nodup:=by
  show lQ.2 (tc _ (λa B (d:a≠B) z=>?_) b.a2,tc _ (λa B (d:a≠B) z=>?_) b.a5,λx f y j z=>?_);.injection z with g h;show d<|pc g h
  .injection z with g h l;show d<|pc g<|pc h l
  .let(_,_,rfl):=bx.1 f;let(_,_,rfl):=bx.1 j;cases z
 let m:=aD.length_le_of_subset (l₂:=ou e T++(wv e k T).filterMap λo=>match o with|.K o=>Y o|.R _ _ _=>M) λx f=>by
  let z||z:=du.1 f;.let(q,i,rfl):=bx.1 z;show(b.R q i).2.elim (dQ _) λw=>cG _<|ln.2 (_,w,aa)
  .let(q,i,rfl):=bx.1 z;show dQ _ (b.a3 q i).2
 grind
theorem aqk{c x a B}(d:cA.K a B>pw e c x):gV a.2.2=c:=by
 let fc:∀{p q:cA}{ep:Prop}{r:#[cA]},cA.K a B>p::r->(cA.K a B=p->ep)->(cA.K a B>r->ep)->ep:=λm f g=>(cc.1 m).elim f g;let bU:∀{ep:Prop},cA.K a B>([]:#[cA])->ep:=λm=>(by cases m);let q:∀{p h z},cA.K a B=.K (ds p h) z->gV a.2.2=h:=λd=>by injection d with d _;rw[d];show(FH _ _).2
 let w:∀{z s},cA.K a B=.R z s->gV a.2.2=c:=λd=>(by cases d);let v:∀{z l s},cA.K a B=.X z l s->gV a.2.2=c:=λd=>(by cases d)
 cases x with
 |var l x=>
  let z||(_,z):=abC e c l x<;>rw[z]at d;.show fc (q:=.R a B) d w bU
  .show fc (q:=.R a B) d q bU
 |num l n=>show fc (q:=.R a B) d w bU
 |fn l x b=>show fc (q:=.R a B) d w bU
 |app l f z=>show fc (q:=.R a B) d v bU
 |letE l x ae b=>show fc (q:=.R a B) d q λd=>fc (q:=.R a B) d q bU
 |ifz l z i b=>show fc (q:=.R a B) d q λd=>fc (q:=.R a B) d q bU
 |pair l i b=>show fc (q:=.R a B) d w λd=>fc (q:=.R a B) d q λd=>fc (q:=.R a B) d q bU
 |fst l ae=>show fc (q:=.R a B) d v bU
 |snd l ae=>show fc (q:=.R a B) d v bU
 |new l ae=>show fc (q:=.R a B) d w λd=>fc (q:=.R a B) d q bU
 |get l ae=>show fc (q:=.R a B) d v bU
 |set l r ae=>show fc (q:=.R a B) d v λd=>fc (q:=.R a B) d q bU
 |add l i b=>show fc (q:=.R a B) d w bU
def hQ.c1(ar:iC e k bo aj)(h:hQ e k bo aj ax p oG eb gn mh mi T)(c:b_):↑(dG T.a0 c)<=90+3*↑T.K:=by
 let ab:=px (l:=gq M e) (f:=λw=>pw e (gV c.2.2) w.node) λw _=>abF ar.K _ _;let ag:=abD ar.K;let m:=px (l:=T.K) λq _=>(QT ar.K k q.1 q.2 c).2.2
 let v:=(ws h.a2 c).length_le_of_subset (l₂:=((gq M e).flatMap λw=>pw e (gV c.2.2) w.node).filterMap (λo=>ss c<|.K o)++T.K.flatMap λq=>(jC e k q.1 q.2).filterMap<|ss c) λB i=>by
  let z||z:=(h.R (c,B)<|iB.1 i).2
  .show dQ _<|ln.2 (.K c B,?_,bK aa);let g:∀o ae,cA.K c B>mZ e o ae->∃w∈gq M e,cA.K c B>pw e ae w.node:=λo ae d=>by
    rw[FK]at d;let(w,b,d):=dZ.1 d;delta sr at d;split at d;.show(w,b,d)
    .cases d
   have:∃ae,∃w∈gq M e,cA.K c B>pw e ae w.node:=by
    let z||z:=du.1 z;.show(_,g _ _ z)
    .let(q,_,z):=dZ.1 z;show(_,g _ _ z)
   let(ae,w,b,d):=this;rw[aqk d];show dZ.2 (w,b,d)
  .let(q,j,z):=dZ.1 z;show cG _<|dZ.2 (q,j,ln.2 (_,z,bK aa))
 grind
def abH(ar:iC e k bo aj)(b:iT e k bo aj ax p T){c x}(h:(c,x)>T.K):gf (my T c x<|(dG T.S c).map λ_=>jC e k c x)<=↑(dG T.a0 c)+123:=by
 delta my;rw[u_];let aB:gf ((dG T.a0 c).map λB=>dd.K<|.R B x)=↑(dG T.a0 c):=by
  have:=yD<|(dG T.a0 c).map λB=>cA.R B x;rw[dX,aV]at this;show this
 rw[aB];show zR ?_ _;let ab:=aqa ar b h
 cases q:dG T.S c with
 |nil=>show ex _
 |cons a r=>
  cases r with
  |nil=>
   change gf (jC e k c x++[])<=123;rw[e'];show((QT ar.K k c x (0,0,[])).2.1)
  |cons B r=>rw[q]at ab;simp at ab
def aql(ar:iC e k bo aj){c x}(b:iT e k bo aj id p T)(h:T.X=W++[(c,x)])(a1:↑T.K+↑T.R<=400):
  ∃aC,em aC (gf<|my T c x<|(dG T.S c).map λ_=>jC e k c x) {T with X:=W}:=by
 let ab:=abH ar b (b.a8 _ (by rw[h];show lC.2<|bl aa));let ag:=b.c1 ar c;let g:=b.c0 ar;let f:=b.a9;rw[h,cW]at f;generalize gf (my T c x ((dG T.S c).map λ_=>jC e k c x))=n at ab⊢;show(1813,?_,?_,?_,?_,?_);.change ↑T.K+n<=1813;lia
 .change ↑T.a0+n<=16777216;lia
 .change ↑T.S+n<=16777216;lia
 .change ↑T.R+n<=16777216;lia
 .change ↑W+n*1813<=16777216;let i:(↑T.a0+↑T.S)*↑T.K<=12480000:=by
   by_cases q:↑T.K<=200;.show db (ahf (show ↑T.a0+↑T.S<=42690 by lia) q) ⋯
   .show db (ahf (show ↑T.a0+↑T.S<=31200 by lia) (show ↑T.K<=400 by show Kb a1)) ⋯
  let f:↑W+1<=↑T.K+(↑T.a0+↑T.S)*↑T.K:=f;lia
end
noncomputable def Be:#[N]:=cu<|oS 30
noncomputable def Bf:#[#[N]]:=[]::(Be.map (λa=>[a])++Be.flatMap λa=>Be.map λB=>[a,B])
noncomputable def iz(hA:#[#[N]]):#[b_]:=([0,1,2,3,4]:#[N]).flatMap λg=>Be.flatMap λl=>hA.map λs=>(g,l,s)
def FZ{l:O}(d:l<30):(l:N)>Be:=bx.2 (l,xr.2 d,aa)
def QU{hA:#[#[N]]}{g:N}{l:O}{s:#[N]}(b:g>([0,1,2,3,4]:#[N]))(h:l<30)(aw:s>hA):(g,(l:N),s)>iz hA:=
 dZ.2 (g,b,dZ.2 (_,FZ h,bx.2 (s,aw,aa)))
def abK{hA:#[#[N]]}{p:jb}{c:fh}(d:vc p<30)(b:cu c>hA):ds p c>iz hA:=by
 cases p<;>show QU ⋯ d b
def abP{hA:#[#[N]]}{a:eT}(d:Bc a<30)(b:cu (vd a)>hA):di a>iz hA:=by
 cases a;.show QU ⋯ ⋯ b
 all_goals show QU ⋯ d b
def abQ{c:fh}(d:↑c<=2)(b:∀l∈c,l<30):cu c>Bf:=by
 let _||(a,_||(B,_||(_,_))):=c;.show(cp _)
 .show el _<|dQ _<|bx.2 (_,FZ<|b a<|cp _,aa)
 .show el _<|cG _<|dZ.2 (_,FZ<|b a<|cp _,bx.2 (_,FZ<|b B<|eo _<|cp _,aa))
 .show bB d<|by simp
def Bg(e:aW)(ct:fh->Prop):fe->Prop|cP p c a=>Bb e a/\vc p<30/\ct c/\Bc a<30/\ct (vd a)|lc f c=>f<30/\ct c
def aqm(aq:cR e){k ct}(h:ct [])(a1:∀l c,l<30->ct c->ct ((l::c).take k)){w}(a2:w>gq M e){c}(gb:ct c){f}(r:fX (oR e) k (Bg e ct) c w.node f):Bg e ct f:=by
 let g:=kV a2;let eb:=aq.K g;let(x,eA):=w;let b:∀{q ae v i j},Bg e ct (cP q ae v)->vc i<30->ct j->Bg e ct (cP i j v):=λd ab ag=>(d.1,ab,ag,d.2.2.2)
 cases r with
 |R=>show(⟨⟩,eb,gb,(⋯:0<30),h)
 |S _=>show(⟨⟩,eb,gb,(⋯:0<30),h)
 |b7=>show(⟨⟩,eb,gb,(⋯:0<30),h)
 |X _ d=>show b d eb gb
 |a0=>show((_,_,g),eb,gb,eb,gb)
 |K d=>show(d.2.2.2.1,a1 _ c eb gb)
 |a1 d ag=>show b ag d.2.2.2.1<|a1 _ c eb gb
 |b8 d m ag=>
  let(_,_,o):=d.1;rw[Bd o]at m;show b ag (FU aq m)<|a1 _ c eb gb
 |a2 _ _ d=>show b d eb gb
 |a3 d=>show b d eb gb
 |a4 d=>show b d eb gb
 |a5 d=>show b d eb gb
 |a6 d=>show b d eb gb
 |a7=>show(⟨⟩,eb,gb,eb,gb)
 |a8 d=>show b d eb gb
 |a9 d=>show b d eb gb
 |b0 _ d=>show b d eb gb
 |b1 _ d=>show b d eb gb
 |b2=>show(⟨⟩,eb,gb,eb,gb)
 |b3 d=>show b d eb gb
 |b4 _ d=>show b d eb gb
 |b5 d=>show b d eb gb
 |b6 d ag=>show b ag d.2.2.2.1 d.2.2.2.2
def F_(k:O)(c:fh):Prop:=↑c<=k/\∀l∈c,l<30
def F'(aq:cR e){k f}(d:gy (oR e) k f):Bg e (F_ k) f:=by
 let h:F_ k []:=(ex _,λ_ d=>(by cases d));show gy.K (λo i c b f r=>aqm aq h (λl c=>(λj d=>(ayp _ _,λx m=>(cc.1<|zZ m).elim (λz=>z▸j)<|d.2 x))) i ?_ r) d
 cases q:o.owner with|none=>rw[q]at b;rwa [b]|some g=>rw[q]at b;show b.2
def yK(aq:cR e){k}(b:k<=2):iC e k (iz Bf)<|gy (oR e) k:=by
 show(aq,b,λo i c j f r=>gy.R i j r,F_ k,(ex _,λ_ d=>(by cases d)),λc d=>db d.1 b,λp c ab ag=>abK ab<|abQ (db ag.1 b) ag.2,λp c a d=>?_,λf c d=>F' aq d);let(ab,ag,l,h,g):=F' aq d;show(ab,ag,l,h,g,abP h<|abQ (db g.1 b) g.2)
def abR{bo}:tK id bo aj e:=(λ_ _ d=>d,λT _ _ a=>wr _ _)
def aqn(aq:cR e){k}(b:k<=2)(p:L):A_ (dr e) p k J (iT e k (iz Bf) (gy (oR e) k) id p)<|fD<|tP<|iz Bf:=
 iT.b6 (yK aq b) abR λT W c x f g h=>aql (yK aq b) f g<|h aa
def aqo(aq:cR e)(p:L)(k:O):em 90 ↑(mz e M [] ↑(dr e).K)<|sn p k:=by
 let d:=yH aq M [];let d:↑(mz e M [] ↑(dr e).K)<=90:=d;generalize ↑(mz e M [] ↑(dr e).K)=n at d⊢;show(?_,?_,?_,?_,?_);.change 0+n<=90;lia
 .change 0+n<=16777216;lia
 .change 0+n<=16777216;lia
 .change 0+n<=16777216;lia
 .change 0+n*90<=16777216;lia
noncomputable def QV(q:b_×b_):fe:=cP (abn q.1) (gV q.1.2.2)<|QP q.2
noncomputable def QW(q:N×#[N]):fe:=lc q.1.toNat<|gV q.2
noncomputable def vf(T:cn):#[fe]:=T.K.map QV++T.R.map QW
section
variable{k:O}{bo:#[b_]}{aj:fe->Prop}{ax:O->O}{p:L}{T:cn}
theorem Ga(p:jb)(c:fh)(a:eT):QV (ds p c,di a)=cP p c a:=by
 delta QV;simp[FH,FG]
theorem QX(f:O)(c:fh):QW ((f:N),cu c)=lc f c:=by
 delta QW;rw[sq,pd]
def QZ(h:iT e k bo aj ax p T)(f:fe):f>vf T↔qy T f:=by
 delta vf;rw[du];constructor
 .rintro(d|d);.let(q,b,rfl):=bx.1 d;let(p,c,a,aB,g,_):=h.K q b;obtain rfl:q=(ds p c,di a):=pc aB g;rwa [Ga]
  .let(q,b,rfl):=bx.1 d;let(f,c,rfl,_):=h.a0 q b;rwa [QX]
 .intro d
  cases f with|here p c a=>show aQ<|bx.2 (_,d,Ga p c a)|come f c=>show bl<|bx.2 (_,d,QX f c)
theorem Q_{α eB:Type}{f:α->eB}:∀{l:#[α]},l.Nodup->(∀a∈l,∀B∈l,f a=f B->a=B)->(l.map f).Nodup
 |[],_,_=>mP
 |a::r,d,i=>by
  let(ab,ag):=f_.1 d;show f_.2 (λm=>?_,Q_ ag λx e y g=>i x (eo _ e) y<|eo _ g);let(B,b,q):=bx.1 m;show ab<|i B (eo _ b) a (cp _) q▸b
def aqp(b:iT e k bo aj ax p T):(vf T).Nodup:=by
 show lQ.2 (Q_ b.X λa h B i d=>?_,Q_ b.a4 λa h B i d=>?_,λx l y m z=>?_);.let(p,c,x,aB,o,_):=b.K a h;let(q,j,v,g,w,_):=b.K B i;let aB:a=(ds p c,di x):=pc aB o;let g:B=(ds q j,di v):=pc g w;rw[aB,g,Ga,Ga]at d;simp_all
 .let(f,c,aB,_):=b.a0 a h;let(A,j,g,_):=b.a0 B i;simp_all [QX]
 .let(_,_,rfl):=bx.1 l;let(_,_,rfl):=bx.1 m;cases z
end
structure l'(e:aW)(k:O)(T:cn)(t:ua):Prop where
 K:hT e k=Y t
 a1:t.Nodup
 R:∀f,f>t↔qy T f
 S:∀f,f>t↔gy (oR e) k f
 a3:↑t=↑T.K+↑T.R
 a4:↑(comes t)=↑T.R
 X:∀q∈T.K,∃p c a,q=(ds p c,di a)
 a0:∀q∈T.R,∃(f:O)(c:fh),q=((f:N),cu c)/\F_ k c
 a5:T.K.Nodup
 a2:T.R.Nodup
def aqq(aq:cR e){k}(a1:k<=2){p T}(b:iT e k (iz Bf) (gy (oR e) k) id p T)(d:T.X=[]∨400<↑T.K+↑T.R):
  (400<↑T.K+↑T.R/\hT e k=M)∨(↑T.K+↑T.R<=400/\∃t,l' e k T t):=by
 let aD:=aqp b;let j:↑(vf T)=↑T.K+↑T.R:=by
  delta vf;rw[cW,aV,aV]
 let v:∀f∈vf T,gy (oR e) k f:=λf g=>by
  let g:=(QZ b f).mp g
  cases f with
  |here p c a=>
   let(V,w,a0,aB,h,d):=b.K _ g;let(rfl,rfl):=va aB;rwa [QQ h]
  |come f c=>
   let(a2,w,aB,d):=b.a0 _ g;injection aB with aB h;rwa [mo aB,QK h]
 by_cases i:400<↑T.K+↑T.R;.show aQ (i,ahK aD (j▸i) v)
 .let bw:∀f,f>vf T↔gy (oR e) k f:=λf=>(v f,λae=>(QZ b f).mpr<|gy.K (λo x c A f r=>iT.b3 (yK aq a1) b (d.resolve_right i) x A r) ae);let(t,ab,ag,U,l):=ahH aD (by rw[j];show uq i) bw;show bl (uq i,t,ab,ag,λf=>(l f).trans<|QZ b f,λf=>(l f).trans<|bw f,U.trans j,?_,λq m=>?_,λq m=>?_,b.X,b.a4)
  .delta comes;rw[(((List.perm_ext_iff_of_nodup ag aD).mpr l).filter _).length_eq];delta vf;rw[ta,CT.2 λf g=>?_,List.filter_eq_self.2 λf g=>?_,mj,aV];.let(_,_,rfl):=bx.1 g;rfl
   .let(_,_,rfl):=bx.1 g;intro z;cases z
  .let(p,c,a,aB,h,_):=b.K q m;show(p,c,a,pc aB h)
  .let(f,c,aB,ae):=b.a0 q m;show(f,c,aB,(F' aq ae).2)
noncomputable def dU:ck->O->bs V|[],_=>M|a::_,0=>a|_::r,i+1=>dU r i
def aqr:∀{D i v},dU D i=Y v->D[i]? =Y (Y v):=by
 intro D
 induction D with|nil=>intro i v d;cases d|cons a r b=>intro i v d;cases i with|zero=>show dP Y d|succ i=>show b d
def fH(i:O):bT:=λD H Q=>match dU D i with|Y v=>Q v H|M=>fC
def ro(bt:bT)(k:L->ck->ap->ca->Prop):bT:=λD H Q=>bt D H λx al=>match x with|.K a=>k a D al Q|_=>fC
structure yP(ar:L)(H:ap)(a:L)(f:E)(v:V):Prop where
 K:∃ah,lX ar H a ah/\ah.lookup f=Y v
inductive abS(ar:L)(f:E)(a:L)(H:ap)(Q:ca):Prop|mk(v:V):yP ar H a f v->Q v H->abS ar f a H Q
section
variable{C:bW}{da:jj}{k j:O}{ar:L}{ay:#[E]}{bX:cq}{au:fQ}{x m:E}{p fm vu jH eG:iK}{e o a B iG:dD}{bf:#[dD]}{bt cd hv:bT}{t:gP}
def ao(i:O){x bj}(b:autoParam (C.a0[i]? =Y x) r_5)(h:autoParam (xT C.K.scope x) r_2)(a1:autoParam ((x==("__debug__":E))=aX) r_1)
 (a2:autoParam ((x==("__classdict__":E))=aX) r_1):bn C (ge x bj)<|fH i:=by
 intro am s D H Q e d;delta fH at d
 cases q:dU D i with|none=>simp_all|some v=>rw[q]at d;show Ko b h a1 a2 am s D H Q e (v,aqr q,d)
def m'(ar:L)(f:E)(bt:bT):bT:=ro bt λa _ H Q=>abS ar f a H Q
def bV(c:j_ ar m)(b:bn C e bt)(h:autoParam (sD e m C.K (dx e C.K)=dx e C.K) r_5):bn C (hU e m bj)<|m' ar m bt:=by
 intro am s D H Q f d;show Vp h<|b.K f d λu o x al g bC q=>?_
 cases x with
 |K a=>
  let(v,(ah,(aG,ea),l),q):=q;obtain rfl:u=I a:=bC;show Dr g ea c.K c.R l λp w i j=>(v,al,i,j,q)
 |_=>show q.elim
inductive Q'(ar:L)(f:E)(a:L)(y:V)(H:ap)(br:ap->Prop):Prop|mk(aG:L)(ah:#[E×V]):H a=Y (.S ar aG ah)->↑ah<1000->br (a' H a<|.S ar aG<|kH f y ah)->Q' ar f a y H br
def aqs(ar:L)(f:E)(bt hv:bT):gz:=λaj D H=>hv D H λy al=>bt D al λx aH=>match x with|.K a=>Q' ar f a y aH<|aj.K D|_=>fC
def ib(c:j_ ar m)(b:bn C o bt)(h:bn C iG hv)(aw:autoParam (vy iG (Y<|hU o m jH) bj.line C.K=gt aX) r_5):ix C (zi [hU o m jH] iG bj)<|aqs ar m bt hv:=by
 intro am s D H aj e d;show axX (h.K e d λu w y al f g q=>b.K f q λi A x aH j bC q=>?_) aw
 cases x with
 |K a=>
  let(aG,ah,ea,l,p):=q;obtain rfl:i=I a:=bC;show Dt j ea c.K c.R l g λT v=>(D,_,v,p)
 |_=>show q.elim
inductive abT(ar:L)(f:E)(a:L)(hv:bT)(D:ck)(H:ap)(br:ap->Prop):Prop|mk(i:N):yP ar H a f (.R i)->(hv D H λy aH=>match y with|.R j=>Q' ar f a (.R<|i+j) aH br|_=>fC)->abT ar f a hv D H br
def aqt(ar:L)(f:E)(bt hv:bT):gz:=λaj D H=>bt D H λx al=>match x with|.K a=>abT ar f a hv D al<|aj.K D|_=>fC
def Bh(c:j_ ar m)(h:bn C o bt)(a1:bn C iG hv):ix C (afU (hU o m vu) wZ iG bj)<|aqt ar m bt hv:=by
 intro am s D H aj f d;show axZ<|h.K f d λg a9 x al p bC q=>?_
 cases x with
 |K a=>
  exists v;let(i,(ah,(aG,ea),l),q):=q;obtain rfl:g=I a:=bC;show v<|Dr p ea c.K c.R l λu b0 w A=>a1.K w q λT U y aH V a0 b=>?_
  cases y with
  |R j=>
   let(b1,pK,a2,a3,b):=b;show fR (KU am U D aH (.R i) (.R j) u T (λz e=>z=.R (i+j)/\e=aH) V A a0 (i,j,aa,aa,aa,aa)) λb2 b3 a4=>?_;let(z,e,a5,a6,aB,a7):=a4;subst aB a7;show Dt a5 a2 c.K c.R a3 a6 λb4 a8=>(D,_,a8,b)
  |_=>show b.elim
 |_=>show q.elim
def abU(g:N->N->V)(bt cd:bT):bT:=λD H Q=>bt D H λx al=>cd D al λy aH=>match x,y with|.R i,.R j=>Q (g i j) aH|_,_=>fC
def abV{C f g}(d:hV C f<|oi g):hV C f λx y aH Q=>match x,y with|.R i,.R j=>Q (g i j) aH|_,_=>fC:=by
 intro am s D H x y v u Q b bC e q
 cases x with
 |R i=>
  cases y with|R j=>show d am s D H _ _ v u Q b bC e (i,j,aa,aa,q)|_=>show q.elim
 |_=>show q.elim
def Gb{op g}(b:hV C (Ca op)<|oi g)(h:bn C a bt)(a1:bn C B cd):bn C (.BinOp a op B bj)<|abU g bt cd:=Am (abV b) h a1
def aqu{op g}(b:hV C (jt op)<|oi g)(h:bn C a bt)(a1:bn C B cd)(a2:autoParam (w_ op B=aX) r_3):bn C (w' a [op] [B] bj)<|abU g bt cd:=tj (abV b) h a1 a2
def Bi(t:bT):iR:=λD H Q=>t D H λx al=>match x with|.X c=>Q c al|_=>fC
def ik{t}(d:bn C e t)(b:autoParam (∀qj,wX e C.K qj=(do let v<- qj;ub e.pos;rC [v] (truthy v))) r_4):kj C e<|Bi t:=by
 intro am s D H Q f g;show afS (d.K f g λu h x al i r q=>?_)<|b _
 cases x with|X c=>show Vl am h D al (.X c) u Q i r (c,aa,q)|_=>show q.elim
structure Ra(ar:L)(H:ap)(a:L)(m:E):Prop where
 K:∃ah,lX ar H a ah/\ah.lookup m=M
inductive abW(ar:L)(m:E)(bX:cq)(au:fQ)(t:gP)(D:ck)(Q:ca)(a:L)(H:ap):Prop|mk:Ra ar H a m->(t D H λvs aH=>bX (.K a::vs) aH Q au)->abW ar m bX au t D Q a H
def Bj(ar:L)(m:E)(bX:cq)(au:fQ)(bt:bT)(t:gP):bT:=ro bt λa D H Q=>abW ar m bX au t D Q a H
def eX{a1}(g:eD da k ar m ay bX)(a2:bn C o bt)(b:fz j C.R)(a3:kP da C au)(a4:jU C (e::bf) t)(a5:autoParam (k<=j) r_1)
 (a6:autoParam (er (e::bf) C.K=(aX,dx e C.K)::er bf C.K) r_5)(a7:autoParam ((h' bj<|er bf C.K).any (·.1)=aX) r_5)
 (a8:autoParam (dx (gw (hU o m fm) (e::bf) [] bj) C.K=(do
   let h<- dx o C.K
   ub fm.atName
   let(f,a9)<- rC [h] (xa h m a1)
   Cn bj f a9 (h' bj<|er (e::bf) C.K) (sF bj<|sG [] C.K))) r_5):bn C (gw (hU o m fm) (e::bf) [] bj)<|Bj ar m bX au bt t:=by
 let(c,f,i,(dv,aC,B),T):=g;let b:=b.K a5;intro am s D H Q p d;show CS (a2.K p d λu U x al v bC q=>?_) a8
 cases x with
 |K a=>
  exists A;let((ah,(aG,ea),l),q):=q;obtain rfl:u=I a:=bC;show A<|Ds v ea c i l<|zS p.K.S.K i.K (a4.K bj v q λV a0 vs aH w r b0=>(w.a0,yh (vs:=.K a::vs) aC b B ed a3 w (eS aa r)<|by rwa [e'])) a6 a7
 |_=>show q.elim
inductive Rb(ar:L)(m:E)(bX:cq)(au:fQ)(Q:ca)(a:L)(H:ap):Prop|mk:Ra ar H a m->bX [.K a] H Q au->Rb ar m bX au Q a H
def vg(ar:L)(m:E)(bX:cq)(au:fQ)(bt:bT):bT:=ro bt λa D H Q=>Rb ar m bX au Q a H
def fS{a1}(g:eD da k ar m ay bX)(a2:bn C o bt)(b:fz j C.R)(a3:kP da C au)(a4:autoParam (k<=j) r_1)
 (a5:autoParam (dx (gw (hU o m fm) [] [] bj) C.K=(do
   let h<- dx o C.K
   ub fm.atName
   let(f,a6)<- rC [h] (xa h m a1)
   Cn bj f a6 (h' bj<|er [] C.K) (sF bj<|sG [] C.K))) r_5):bn C (gw (hU o m fm) [] [] bj)<|vg ar m bX au bt:=by
 let(c,f,i,(dv,aC,B),w):=g;let b:=b.K a4;intro am s D H Q p d;show CS (a2.K p d λu A x al e bC q=>?_) a5
 cases x with
 |K a=>
  exists v;let((ah,(aG,ea),l),q):=q;obtain rfl:u=I a:=bC;show v<|Ds e ea c i l<|agd e.a0 i.K<|yh (vs:=[.K a]) aC b B ed a3 e (eS aa ed) q
 |_=>show q.elim
inductive abX(H:ap)(a:L)(Q:ca):Prop|mk(xs:#[V]):fa aAv H a xs->Q (.R ↑xs) H->abX H a Q
def qq{l:#[α]}(d:↑l=2):∃a B,l=[a,B]:=by
 let _||(a,_||(B,_||(_,_))):=l;.cases d
 .cases d
 .show(a,B,aa)
 .cases d
def abZ{l:#[α]}(d:↑l=3):∃a B c,l=[a,B,c]:=by
 let _||(a,l):=l;.cases d
 .let(B,c,rfl):=qq (Hz d);show(a,B,c,aa)
def aca{aC:V->Prop}{xs:#[V]}(q:match xs with|[y]=>aC y|_=>fC):∃y,xs=[y]/\aC y:=by
 let _||(y,_||(_,_)):=xs;.show q.elim
 .show(y,aa,q)
 .show q.elim
def acb{aC:L->Prop}{xs:#[V]}(q:match xs with|[.K a]=>aC a|_=>fC):∃a,xs=[.K a]/\aC a:=by
 let _||(y,_||(_,_)):=xs;.show q.elim
 .cases y with|K y=>show(y,aa,q)|_=>show q.elim
 .cases y<;>show q.elim
def na(h:aAy "len"=M)(a1:bn C e bt)(a2:autoParam (jV C "len") r_5)(b:autoParam (er [e] C.K=(aX,dx e C.K)::er [] C.K) r_5)(a3:autoParam ((h' bj<|er [] C.K).any (·.1)=aX) r_5):bn C (gw (ge "len" p) [e] [] bj)<|KV (λxs H Q=>match xs with|[.K p]=>abX H p Q|_=>fC)<|ii bt kl:=
 mW (λam s D H xs f Q g r q=>by
   let(p,rfl,cv,ab,ag):=acb q;show Aw am s D H [.K p] f Q g r (p,cv,aa,aQ ab,ag)) a2 h PySem.boot_len (ak a1 aF b) ⋯ ⋯ b a3
end
structure df(an H:ap)(m:#[L×bF]):Prop where
 K:bA an H
 a4:(m.map (·.1)).Nodup
 a1:∀e∈m,H e.1=Y e.2
 a2:∀e∈m,an e.1=M
section
variable{m:#[L×bF]}{o:bF}
theorem df.R(x:df an H m)(i:O)(d:m[i]? =Y (a,o)):H a=Y o:=x.a1 _<|gs d
def df.a8(x:df an H m)(s:bA H af):df an af m:=(x.K.K s,x.a4,λe b=>s _ _<|x.a1 e b,x.a2)
set_option tactic.hygienic true in
theorem df.a0(x:df an H m)(i:O)(d:m[i]? =Y (a,o))(c':bF):df an (a' H a c')<|m.set i (a,c'):=by
 let(aR,l):=ff.1 d;let g:(m.set i (a,c')).map (·.1)=m.map (·.1):=by
  rw[ahh];show o_ λj=>?_;rw[vV];split;.rename_i q;subst q;rw[cV,d,aV,bK aR];rfl
  .rfl
 let h:an a=M:=x.a2 (a,o)<|gs d;show(λB u e=>?_,g▸x.a4,λe f=>?_,λe f=>?_);.rw[bS λz=>by rw[z,h]at e;cases e];show x.K B u e
 .let(j,b):=uu f;rw[vV]at b;split at b;.cases b;show bG
  .rename_i q;rw[bS λz=>q<|DV x.a4 (by rw[cV,d];show dP Y z.symm)<|by rw[cV,b];rfl];show x.a1 e<|gs b
 .have:=ayq f;let z||z:=this;.show x.a2 e z
  .rwa [z]
theorem df.a3(x:df an H m)(h:H a=M)(o:bF):df an (a' H a o)<|(a,o)::m:=by
 let f:∀e∈m,e.1≠a:=λe b z=>by have:=x.a1 e b;grind
 show(x.K.K<|cf h,f_.2 (λz=>?_,x.a4),λe b=>?_,λe b=>?_);.let(e,b,q):=bx.1 z;show f e b q
 .let z||z:=cc.1 b;.subst z;show bG
  .rw[bS<|f e z];show x.a1 e z
 .let z||z:=cc.1 b;.subst z;show x.K.S h
  .show x.a2 e z
theorem df.X{aG ah f}(x:df an H m)(i:O)(d:autoParam (m[i]? =Y (a,.S ar aG ah)) r_5)(l:autoParam (ah.lookup f=M) r_5):Ra ar H a f:=(_,(_,x.R i d),l)
theorem df.S{aG ah f v}(x:df an H m)(i:O)(d:autoParam (m[i]? =Y (a,.S ar aG ah)) r_5)(l:autoParam (ah.lookup f=Y v) r_5):yP ar H a f v:=(_,(_,x.R i d),l)
end
noncomputable def lD(H:ap)(l:#[L]):ap:=λB=>if B>l then M else H B
theorem nb{l B}(d:B∉l):lD H l B=H B:=be d
theorem yQ{l B}(d:B>l):lD H l B=M:=bK d
def Gc{l}:bA (lD H l) H:=λB o e=>by
 delta lD at e;grind
section
variable{m:#[L×bF]}{o c':bF}
theorem df.b0(x:df an H m)(i:O)(d:autoParam (m[i]? =Y (a,o)) r_5):df (lD H [a]) H [(a,o)]:=
 (Gc,(CR _ _),λe b=>by rw[dj.1 b];show x.R i d,λe b=>by rw[dj.1 b];show yQ<|cp _)
def df.b3(x:df an H m)(i:O)(y:df (lD H [a]) af [(a,c')])(d:autoParam (m[i]? =Y (a,o)) r_5):df an af<|m.set i (a,c'):=by
 let z:=x.a0 i d c';let k:∀B u,(a' H a c') B=Y u->af B=Y u:=λB u e=>by
  by_cases q:B=a;.subst q;rw[bG]at e;rw[<- e];show y.a1 _<|cp _
  .rw[bS q]at e;show y.K B u<|by rwa [nb<|‹q›]
 show(λB u e=>k B u<|z.K B u e,z.a4,λe b=>k _ _<|z.a1 e b,z.a2)
end
noncomputable def aqv(n:L)(i:O):#[E×V]:=[("numbers",.K n),("place",.R i)]
noncomputable abbrev iD(aG n:L)(i:O):bF:=.S aAH aG<|aqv n i
inductive acc:cq|mk{an H:ap}{c aG n:L}{co:#[N]}{i:O}{Q:ca}{au:fQ}:df an H [(c,iD aG n i)]->fa aAv an n (co.map V.R)->Q (.X<|bp<|↑co<=i) H->acc [.K c] H Q au
inductive Gd:cq|mk{an H:ap}{c aG n:L}{co:#[N]}{i:O}{z:N}{Q:ca}{au:fQ}:df an H [(c,iD aG n i)]->fa aAv an n (co.map V.R)->co[i]? =Y z->(∀af,df an af [(c,iD aG n<|i+1)]->Q (.R z) af)->Gd [.K c] H Q au
inductive Rc:cq
 |mk{an H:ap}{c aG n:L}{co:#[N]}{i:O}{Q:ca}{au:fQ}{z:O}:df an H [(c,iD aG n i)]->fa aAv an n (co.map V.R)->co[i]? =Y (z:N)->i+1+z<=↑co->
  (∀af r,df an af [(r,.K<|((co.drop<|i+1).take z).map V.R),(c,iD aG n<|i+1+z)]->Q (.K r) af)->Rc [.K c] H Q au
inductive acd:cq|mk{a1 b h a2 a3 a4}:a1 b=M->a1 h=M->h≠b->(∀af,df a1 af [(b,iD h a2 0)]->a3 .a0 af)->acd [.K b,.K a2] (a' (a' a1 h<|.a2 b) b<|.S aAH h []) a3 a4
def df.a6{x aG}(ab:H x=M)(ag:H aG=M)(h:aG≠x):df H (a' (a' H aG<|.a2 x) x<|.S ar aG []) [(x,.S ar aG [])]:=
 ((cf ag).K<|cf<|(bS h.symm)▸ab,(CR _ _),λe b=>(dj.1 b)▸bG,λe b=>(dj.1 b)▸ab)
def aqw[ci]:qt bH 1 aAH "Cursor" ["self","numbers"] acd:=by
 show aCT.K ["self","numbers"] λz H vs Q au g d aD=>?_
 induction d with
 |@mk H x aG n _ _ ab ag e f=>
  show(_,ba (ib aAX.K (ao 0)<|ao 1)<|a_<|ib aAX.R (ao 0) cm,?_);let y:=df.a6 (ar:=aAH) ab ag e;let b:=y.a0 0 aa<|.S aAH aG [("numbers",.K n)];show(aG,[],y.R 0 aa,(⋯:0<1000),aG,_,b.R 0 aa,(⋯:1<1000),f _<|b.a0 0 aa<|iD aG n 0)
def aqx[ci]:eD bH 1 aAH "at_end" ["self"] acc:=by
 show aCp.K aAX.K.K ["self"] λz H vs Q au e d aD=>?_
 induction d with
 |@mk an H c aG n co i _ _ x b q=>
  show(_,a_<|cy<|aqu (yc λ_ _ _ _ _ _ _ q=>ge_int q) (bV aAX.R<|ao 0)<|na aAV<|bV aAX.K<|ao 0,(.R i,x.S 0,.K n,x.S 0,_,x.K.X b,?_));simp_all
def ace[ci]:eD bH 1 aAH "take" ["self"] Gd:=by
 show aCq.K aAX.K.K ["self","number"] λz H vs Q au f d aD=>?_
 induction d with
 |@mk an H c aG n co i z _ _ x b hz e=>
  show(_,ba (ji (i:=1) aD aa (aQ aa)<|fW kQ (bV aAX.K<|ao 0) (bV aAX.R<|ao 0)<|λ_ _=>rfl)<|ba (Bh aAX.R (ao 0) cm)<|a_<|cy<|ao 1,(.K n,x.S 0,.R i,x.S 0,n,_,i,.R z,aa,aa,x.K.X b,lU<|by simp_all,i,x.S 0,aG,_,x.R 0 aa,(⋯:2<1000),e _<|x.a0 0 aa<|iD aG n<|i+1))
def aqy[ci]:eD bH 2 aAH "take_row" ["self"] Rc:=by
 show aCr.K aAX.K.K ["self","size","row"] λz H vs Q au h d aD=>?_
 induction d with
 |@mk an H c aG n co i _ _ z x g hz m j=>
  show(_,ba (ji (i:=1) aD aa (aQ aa)<|fS ace (ao 0) h bm)<|ba (ji (i:=2) aD aa (aQ aa)<|uH VV (bV aAX.K<|ao 0) (sd<|bV aAX.R<|ao 0)<|sd<|Gb KG (bV aAX.R<|ao 0)<|ao 1)
  <|ba (Bh aAX.R (ao 0)<|ao 1)<|a_<|cy<|ao 2,(x.X 0,.mk x g hz λal b=>(.K n,b.S 0,.R (i+1:O),b.S 0,_,aa,.R (i+1:O),b.S 0,_,aa,n,_,aa,b.K.X g,λr l=>?_)));let e:rh (co.map V.R) (Y ((i+1:O):N)) (Y<|((i+1:O):N)+(z:N))=((co.drop<|i+1).take z).map V.R:=by
   delta rh;rw[show((i+1:O):N)+(z:N)=((i+1+z:O):N) by show Int.ofNat_add_ofNat (i+1) z,sc,sc,aV,<- ahi,<- tb];congr 2;.lia
   .congr 1;lia
  rw[e];let f:=b.a3 l<|.K<|((co.drop<|i+1).take z).map V.R;show((i+1:O),f.S 1,aG,_,f.R 1 aa,(⋯:2<1000),j _ r<|f.a0 1 aa<|iD aG n<|i+1+z)
noncomputable def Rd:aW->dq|gK _ _=>J|_=>aX
theorem Bk(x:aW):∀s,(gZ s x).map ek=((bR x).filter Rd).map bi:=by
 induction x with|var l x=>intro s;rfl|_=>intro s;dsimp only[gZ,bR]at*;simp_all [Rd]
def acf{x}(e:aW)(d:x>bR e):∀y∈bR x,y>bR e:=by
 intro y b
 induction e with
 |num l n=>rw[dj.1 d]at b;show b
 |var l n=>rw[dj.1 d]at b;show b
 |fn l z ae i|fst l ae i|snd l ae i|new l ae i|get l ae i=>
  let q||q:=cc.1 d;.rw[q]at b;show b
  .show el _<|i q
 |app l ae B g h|letE l z ae B g h|pair l ae B g h|set l ae B g h|add l ae B g h=>
  let q||q:=cc.1 d;.rw[q]at b;show b
  .show el _<|(du.1 q).elim (λq=>dQ _<|g q) λq=>cG _<|h q
 |ifz l ae B f g h j=>
  let q||q:=cc.1 d;.rw[q]at b;show b
  .show el _<|(du.1 q).elim (λq=>dQ _<|g q) λq=>cG _<|(du.1 q).elim (λq=>dQ _<|h q) λq=>cG _<|j q
def acg{x}(e:aW):∀s,(∀B∈s.map ki,B∉dC e)->(dC e).Nodup->x>bR e->∃aT,(∀p∈gZ aT x,p>gZ s e)/\∀B∈aT.map ki,B∉dC x:=by
 induction e with
 |num l n=>intro s d n h;rw[dj.1 h];show(s,λ_ d=>d,d)
 |var l n=>intro s d n h;rw[dj.1 h];show(s,λ_ d=>d,d)
 |fn l y B w=>
  intro s d n h;let z||z:=cc.1 h;.rw[z];show(s,λ_ d=>d,d)
  .let(ab,ag):=f_.1 (n);show w ((y,l)::s) (λq b g=>(cc.1 b).elim (λ(z:q=l)=>ab<|z▸g) λz=>d q z<|eo _ g) ag z
 |fst l ae w|snd l ae w|new l ae w|get l ae w=>
  intro s d n h;let z||z:=cc.1 h;.rw[z];show(s,λ_ d=>d,d)
  .let(ab,ag):=f_.1 (n);show w s (λq b g=>d q b<|eo _ g) ag z
 |letE l y ae B m o=>
  intro s d n h;let z||z:=cc.1 h;.rw[z];show(s,λ_ d=>d,d)
  .let n:(l::(dC ae++dC B)).Nodup:=by unfold dC at n⊢;rwa [<- cs]
   let j:∀q,q>dC ae++dC B->q>dC (ku l y ae B):=λq b=>by unfold dC at b⊢;rw[<- cs]at b;show el _ b
   let(ab,ag):=f_.1 n;let(A,T,_):=lQ.1 ag;let z||z:=du.1 z;.let(aT,a,B):=m s (λq b g=>d q b<|j q<|dQ _ g) A z;show(aT,λp i=>dQ _<|a p i,B)
   .let(aT,a,B):=o ((y,l)::s) (λq b g=>(cc.1 b).elim (λ(z:q=l)=>ab<|z▸cG _ g) λz=>d q z<|j q<|cG _ g) T z;show(aT,λp i=>cG _<|a p i,B)
 |app l ae B m o|pair l ae B m o|set l ae B m o|add l ae B m o=>
  intro s d n h;let z||z:=cc.1 h;.rw[z];show(s,λ_ d=>d,d)
  .let n:(l::(dC ae++dC B)).Nodup:=by unfold dC at n⊢;rwa [<- cs]
   let j:∀q,q>dC ae++dC B->∀v∈s.map ki,v≠q:=λq b v U e=>by
    show d v U ?_;unfold dC at b⊢;rw[<- cs]at b;rw[e];show el _ b
   let(ab,ag):=f_.1 n;let(A,T,_):=lQ.1 ag;let z||z:=du.1 z;.let(aT,a,B):=m s (λq b g=>j q (dQ _ g) q b aa) A z;show(aT,λp i=>dQ _<|a p i,B)
   .let(aT,a,B):=o s (λq b g=>j q (cG _ g) q b aa) T z;show(aT,λp i=>cG _<|a p i,B)
 |ifz l ae B f m o V=>
  intro s d n h;let z||z:=cc.1 h;.rw[z];show(s,λ_ d=>d,d)
  .let n:(l::(dC ae++(dC B++dC f))).Nodup:=by unfold dC at n⊢;rwa [<- cs,<- cs]
   let j:∀q,q>dC ae++(dC B++dC f)->∀v∈s.map ki,v≠q:=λq b v U e=>by
    show d v U ?_;unfold dC at b⊢;rw[<- cs,<- cs]at b;rw[e];show el _ b
   let(ab,ag):=f_.1 n;let(A,T,_):=lQ.1 ag;let(a0,a1,_):=lQ.1 T;let z||z:=du.1 z;.let(aT,a,B):=m s (λq b g=>j q (dQ _ g) q b aa) A z;show(aT,λp i=>dQ _<|a p i,B)
   .let z||z:=du.1 z;.let(aT,a,B):=o s (λq b g=>j q (cG _<|dQ _ g) q b aa) a0 z;show(aT,λp i=>cG _<|dQ _<|a p i,B)
    .let(aT,a,B):=V s (λq b g=>j q (cG _<|cG _ g) q b aa) a1 z;show(aT,λp i=>cG _<|cG _<|a p i,B)
theorem ach{l:#[O×bs O]}(d:(l.map ek).Nodup){a B:O×bs O}(b:a>l)(h:B>l)(e:a.1=B.1):a=B:=by
 induction l with
 |nil=>cases b
 |cons c r f=>
  grind
def cR.b5{e y}(aq:cR e){s}(c4:y>bR e)(aw:∀p∈gZ s y,p>ho e){l B}(c5:l>dC y)(b:eV e l=Y B):(l,Y B)>gZ s y:=by
 let aD:((ho e).map ek).Nodup:=by
  delta ho;rw[Bk];show Ac (Ad bi vT) aq.a0
 let i:(l,Y B)>ho e:=by
  delta eV at b
  cases q:(ho e).find? λz=>z.1==l with
  |none=>rw[q]at b;cases b
  |some z=>
   grind
 let ab:l>((bR e).filter Rd).map bi:=by
  rw[<- Bk e []];show bx.2 (_,i,aa)
 let(v,f,rfl):=bx.1 ab;let(f,aR):=je.1 f;let(g,j,m):=bx.1 c5;have:=aq.inj (acf e c4 g j) f m;subst this;let ag:bi g>(gZ s y).map ek:=by
  rw[Bk];show bx.2 (g,je.2 (j,aR),aa)
 let(p,h,o):=bx.1 ag;have:=ach aD (aw p h) i o;rw[this]at h;show h
def cR.c2(aq:cR e){s}(b:y>bR e)(aw:∀p∈gZ s y,p>ho e){l B}(h:l>dC y)(c4:eV e l=Y B):B>s.map ki∨B>dC y:=FT y s _ B<|aq.b5 b aw h c4
abbrev vh:=#[O]
structure iU where
 a0:L
 K:O
 R:#[O]
 a2:L
 a1:L
 X:L
 S:#[L]
structure py where
 R:O
 K:#[iU]
 S:#[N×N×#[N]×N×N]
 X:#[L×O×vh×L]
 a0:O
structure ov where
 K:L
 a0:L
 X:L
 R:L
 S:L
 a1:N
noncomputable def Bl(f:iU):#[E×V]:=[("label",.R f.K),("string",.K f.a2),("bound",.K f.a1),("got",.K f.X)]
noncomputable def Ge(c:ov)(n:O):#[E×V]:=[("program",.K c.X),("given",.R c.a1),("steps",.R n),("frames",.K c.R),("came_about",.K c.S)]
noncomputable def pz(q:N×N×#[N]×N×N):#[ft]:=[eZ<|eZ q.1,eZ<|eZ q.2.1,ky<|q.2.2.1.map eZ,ky [eZ q.2.2.2.1,eZ q.2.2.2.2]]
noncomputable def Bm(f:iU):L×bF:=(f.X,.K<|f.S.map V.K)
noncomputable def yR(x:L×O×vh×L):L×bF:=(x.1,.K [.K x.2.2.2])
noncomputable def gF(c:ov)(ai:py):#[L×bF]:=
 (c.K,.S aAF c.a0<|Ge c ai.R)::(c.R,.K<|ai.K.reverse.map λf=>V.K f.a0)::(c.S,.X<|ai.S.map λq=>(pz q,V.X J))::(ai.K.map Bm++ai.X.map yR)
noncomputable def pA:aW->O|jK _ _=>0|gK _ _=>0|fy _ _ _=>0|iq _ _ _=>2|ku _ _ _ _=>1|ni _ _ _ _=>1|jP _ _ _=>2|nG _ _=>1|nH _ _=>1|kv _ _=>1|nK _ _=>1|mH _ _ _=>2|pQ _ _ _=>2
noncomputable def nA(e x:aW):#[O]:=((dC x).filterMap<|eV e).filter λy=>!(dC x).contains y
noncomputable def su(x:aW)(j:O):jb:=if j<pA x then cg (((gD x).map bi).getD j 0)else cg (bi x)
section
variable(e:aW)(k:O)(aj:fe->Prop)
def ma(az:#[L×eT])(p:jb)(c:vh)(a:L):Prop:=∃v,(a,v)>az/\aj (cP p c v)
def nB(an:ap)(az:#[L×eT])(n:O)(cv:#[O])(c:vh)(ae:L):Prop:=∃aP:#[N×V],an ae=Y (hX.K aP)/\↑aP<=n/\∀y∈cv,∃a,fq aP (y:N)=Y (.K a)/\ma aj az (gd y) c a
def yS(an:ap)(az:#[L×eT])(bu:#[L×O×vh])(n:O)(a:L):eT->Prop|hg=>∃i:N,an a=Y (.R [.R 0,.R 0,.R i])|kh l c=>∃ae,an a=Y (.R [.R 1,.R l,.K ae])/\nB aj an az n (ja e l) c ae|kx l c=>∃t b f,an a=Y (.R [.R 2,.R l,.K t])/\an t=Y (.R [.K b,.K f])/\ma aj az (nQ l) c b/\ma aj az (nR l) c f|le l c=>∃z,an a=Y (.R [.R 3,.R l,.K z])/\(z,l,c)>bu
structure kp(an:ap)(az:#[L×eT])(n:O)(f:iU)(w:kA):Prop where
 K:w>gq M e
 R:bi w.node=f.K
 S:jd aj w.owner<|f.R.take k
 a0:lX aAG an f.a0<|Bl f
 a2:hl an f.a2<|cu f.R
 a3:↑f.R<=3
 a1:nB aj an az n (nA e w.node) (f.R.take k) f.a1
 a8:↑f.S<=pA w.node+1
 a4:∀j a,f.S[j]? =Y a->ma aj az (su w.node j) (f.R.take k) a
def aci(f:iU)(w:kA)(g:iU):Prop:=↑f.S<=pA w.node/\∀v,aj (cP (cg g.K) (g.R.take k) v)->aj (cP (su w.node ↑f.S) (f.R.take k) v)
inductive pB(an:ap)(az:#[L×eT])(n:O):#[iU]->Prop|S:pB an az n []|R{f:iU}{w:kA}:kp e k aj an az n f w->pB an az n [f]|K{g:iU}{f:iU}{w:kA}{h b}:kp e k aj an az n g h->kp e k aj an az n f w->aci k aj f w g->pB an az n (f::b)->pB an az n (g::f::b)
def yT(q:N×N×#[N]×N×N):Prop:=∃(l:O)(s:#[O]),q.2.1=l/\q.2.2.1=cu s/\↑s<=3/\((q.1=0/\∃v,aj (cP (cg l) (s.take k) v)/\q.2.2.2.1=(di v).1/\q.2.2.2.2=(di v).2.1)∨(q.1=1/\q.2.2.2.1=1/\∃g:O,q.2.2.2.2=g/\aj (lc g<|(l::s).take k)))
noncomputable def Bn(ai:py):#[L×O×vh]:=ai.X.map λx=>(x.1,x.2.1,x.2.2.1)
noncomputable def nc(ai:py):O:=2*(300 - ai.R)+↑ai.K
structure gl(cT an H:ap)(c:ov)(az:#[L×eT])(ai:py):Prop where
 S:bA cT an
 K:df an H<|gF c ai
 X:lZ cT c.X<|dr e
 R:∀q∈az,yS e aj an az (Bn ai) ai.R q.1 q.2
 a6:∀x∈ai.X,ma aj az (lf x.2.1) x.2.2.1 x.2.2.2
 a0:pB e k aj an az ai.R ai.K
 a7:∀q∈ai.S,yT k aj q
 a2:ai.R<=300
 a4:↑ai.S+2*nc ai<=2000+ai.a0
 a8:↑ai.K<=ai.R
 a3:ai.a0<=1
structure Gf(cT H:ap)(c:ov):Prop where
 K:∃(an:ap)(n:O)(b:#[N×N×#[N]×N×N]),bA cT an/\df an H [(c.K,.S aAF c.a0<|Ge c n),(c.S,.X<|b.map λq=>(pz q,V.X J))]/\(∀q∈b,yT k aj q)/\↑b<=2001
end
section
variable{k:O}{aj:fe->Prop}{en:ap}{az k':#[L×eT]}{bu afv:#[L×O×vh]}{n iX:O}
theorem ma.K{p c a}(d:ma aj az p c a)(g:∀q∈az,q>k'):ma aj k' p c a:=let(v,a,B):=d;(v,g _ a,B)
theorem nB.K{cv:#[O]}{ae:L}{c}(d:nB aj an az n cv c ae)(s:bA an en)(g:∀q∈az,q>k')(b:n<=iX):nB aj en k' iX cv c ae:=by
 let(aP,ab,ag,e):=d;show(aP,s _ _ ab,db ag b,λy f=>let(a,x,t):=e y f;(a,x,t.K g))
theorem nB.R{fG c}(d:nB aj an az n cv c ae)(z:∀y∈fG,y>cv):nB aj an az n fG c ae:=by
 let(aP,ab,ag,b):=d;show(aP,ab,ag,λy e=>b y<|z y e)
theorem yS.K{a v}(d:yS e aj an az bu n a v)(s:bA an en)(g:∀q∈az,q>k')(z:∀q∈bu,q>afv)(b:n<=iX):yS e aj en k' afv iX a v:=by
 cases v with|num=>show d.imp λ_=>s _ _|fn l c=>show d.imp λ_ d=>(s _ _ d.1,d.2.K s g b)|pair l c=>let(t,f,h,ab,ag,i,j):=d;show(t,f,h,s _ _ ab,s _ _ ag,i.K g,j.K g)|ref l c=>show d.imp λ_ d=>(s _ _ d.1,z _ d.2)
def kp.a6{f w}(d:kp e k aj an az n f w)(s:bA an en)(g:∀q∈az,q>k')(b:n<=iX):kp e k aj en k' iX f w:=
 (d.K,d.R,d.S,(let(aG,o):=d.a0;(aG,s _ _ o)),s _ _ d.a2,d.a3,d.a1.K s g b,d.a8,λj a q=>(d.a4 j a q).K g)
theorem pB.X{l}(d:pB e k aj an az n l)(s:bA an en)(g:∀q∈az,q>k')(b:n<=iX):pB e k aj en k' iX l:=by
 induction d with|S=>show .S|R d=>show .R<|d.a6 s g b|K ab ag x _ f=>show .K (ab.a6 s g b) (ag.a6 s g b) x f
end
theorem df.a5{h}(x:df an H m)(p:h.Perm m):df an H h:=(x.K,(p.map _).nodup_iff.2 x.a4,λe b=>x.a1 e<|p.mem_iff.1 b,λe b=>x.a2 e<|p.mem_iff.1 b)
theorem df.a9{h}(x:df an H m)(p:h.Sublist m):df an H h:=(x.K,x.a4.sublist<|p.map _,λe b=>x.a1 e<|p.subset b,λe b=>x.a2 e<|p.subset b)
theorem df.b4(x:df an H<|h++m):∃al,bA an al/\df al H m/\∀e∈h,al e.1=Y e.2:=by
 let aD:=x.a4;rw[cs]at aD;let(j,f,g):=lQ.1 aD;let l:∀B,B>m.map (·.1)->an B=M:=λB i=>by
  let(e,b,rfl):=bx.1 i;show x.a2 e<|cG _ b
 show(lD H (m.map (·.1)),λB o e=>?_,(Gc,f,λe b=>x.a1 e<|cG _ b,λe b=>yQ<|bx.2 (e,b,aa)),λe b=>?_);.rw[nb λz=>by grind];show x.K B o e
 .rw[nb λz=>g _ (bx.2 (e,b,aa)) _ z aa];show x.a1 e<|dQ _ b
theorem df.b2{m}(x:df an H m)(s:bA H af):∃al,bA an al/\df al af m/\∀B o,af B=Y o->B∉m.map (·.1)->al B=Y o:=by
 let y:=x.a8 s;let f:∀B,B>m.map (·.1)->an B=M/\∃o,H B=Y o:=λB g=>by
  let(e,b,rfl):=bx.1 g;show(x.a2 e b,_,x.a1 e b)
 show(lD af (m.map (·.1)),λB o e=>?_,(Gc,y.a4,y.a1,λe b=>yQ<|bx.2 (e,b,aa)),λB o e d=>?_);.rw[nb λz=>by rw[(f B z).1]at e;cases e];show y.K B o e
 .rwa [nb d]
def df.b5(x:df an H m)(s:bA H af):∃al,bA an al/\df al af m/\∀B o,af B=Y o->H B=M->al B=Y o:=by
 let(al,b,y,n):=x.b2 s;show(al,b,y,λB o d q=>n B o d λz=>?_);let(e,f,rfl):=bx.1 z;have:=x.a1 e f;grind
section
variable{C:bW}{e:dD}{bt:bT}{p:iK}
inductive acj(H:ap)(a:L)(Q:ca):Prop|mk(aP:#[jh×V]):H a=Y (.a1 aP)->(∀p,H p=M->Q (.K p) (a' H p<|.a1 aP))->acj H a Q
def aqz:qk C (cF "dict") λxs H Q=>match xs with|[.K a]=>acj H a Q|_=>fC:=by
 intro am s D H xs l Q b r q;let(a,rfl,aP,ab,ag):=acb q;obtain rfl:=dm.S r;let(e,g,vs,f,h):=(b.R a _ ab);show kt_call_dict g h (f.length▸e) λbg i j=>(.K s.heap.objs.size,a' H s.heap.objs.size<|.a1 aP,b.b1 (λB u q=>?_) dw<|(e,(un.2<|Hk b.d7),vs,f,i),aa,ag _<|b.R.K dw);rw[j.2 B<|ie<|fZ q];show hr _ q
end
def df.b1(x:df an H m)(y:df H af h):df an af<|h++m:=by
 show(x.K.K y.K,?_,λe b=>(du.1 b).elim (y.a1 e) λz=>y.K _ _<|x.a1 e z,λe b=>(du.1 b).elim (λz=>x.K.S<|y.a2 e z)<|x.a2 e);rw[cs];show lQ.2 (y.a4,x.a4,λa f B g z=>?_);let(aB,ab,rfl):=bx.1 f;let(i,ag,rfl):=bx.1 g;have:=x.a1 i ag;rw[<- z,y.a2 aB ab]at this;cases this
def df.b6{g a r aC A t}(d:df an H<|g::a::r::aC::A::t):df an H<|[a]++(r::aC::A::g::t):=d.a5<|uv (l₁:=[a,r,aC,A])
section
variable{C:bW}{x:E}{p fm jH:iK}{e o a B:dD}{bt cd ej:bT}{i:O}
def mb:hV C (jt .Eq)<|oi λi j=>.X<|bp<|i=j:=yc λ_ _ _ _ _ _ _ q=>eq_int<|by assumption
def ack:hV C (jt SR)<|oi λi j=>.X<|!bp (i=j):=yc λ_ _ _ _ _ _ _ q=>ne_int<|by assumption
def ey(i:O)(b:C.a0.Nodup)(h:bn C e ej)(aR:autoParam (C.a0[i]? =Y x) r_5)(a1:xU C.K.scope x:=by show Or.inl aa)(aw:autoParam (vy e (Y<|ge x jH) bj.line C.K=gt aX) r_5)
 (a2:C.a8 x=J∨C.K.scope.names.lookup x=Y gp:=by first|show .inl aa|show .inr aa):ix C (zi [ge x jH] e bj)<|sa ej<|r' i:=ji b aR a1 h aw a2
def Bo(g:N->N->dq)(bt cd:bT):iR:=λD H Q=>bt D H λx al=>cd D al λy aH=>match x,y with|.R i,.R j=>Q (g i j) aH|_,_=>fC
def jm{op g}(h:hV C (jt op)<|oi λi j=>.X<|g i j)(a1:bn C a bt)(a2:bn C B cd)(a3:autoParam (w_ op B=aX) r_3):kj C (w' a [op] [B] bj)<|Bo g bt cd:=by
 intro am s D H Q l d;show afR (a1.K l d λv a4 x al m o p=>a2.K m p λu q y aH w A b=>?_) a3
 cases x with
 |R i=>
  cases y with
  |R j=>
   show fR (h am q D aH _ _ v u (λz f=>∃k,z=.X k/\Q k f) w o A (i,j,aa,aa,_,aa,b)) λc a5 T=>?_;let(z,f,U,V,k,e,a0):=T;subst e;cases V;show nn (f,U,a0)
  |_=>show b.elim
 |_=>show b.elim
def Gg(r:L->N->ap->ca->Prop)(bt cd:bT):bT:=λD H Q=>bt D H λx al=>cd D al λy aH=>match x,y with|.K p,.R i=>r p i aH Q|_,_=>fC
inductive Gh(p:L)(i:N)(H:ap)(Q:ca):Prop|mk(xs:#[V])(v:V):fa aAv H p xs->oj xs i=Y v->Q v H->Gh p i H Q
inductive acl(p:L)(i:N)(H:ap)(Q:ca):Prop|mk(xs:#[V])(v:V):lT aAv H p xs->oj xs i=Y v->Q v H->acl p i H Q
theorem wh.K{r}(d:wh C r)(f:∀x y H Q,b x y H Q->r x y H Q):wh C b:=λiG e am s D H x y v u Q g bC h q aw=>d iG e am s D H x y v u Q g bC h (f _ _ _ _ q) aw
def fT(b:bn C a bt)(h:bn C B cd)(aw:autoParam (K_ B) r_9):bn C (sB a B bj)<|Gg Gh bt cd:=
 fW (kQ.K λx y H Q q=>by
  cases x with
  |K p=>
   cases y with|R i=>let(xs,v,ab,ag,e):=q;show(p,xs,i,v,aa,aa,ab,ag,e)|_=>show q.elim
  |_=>show q.elim) b h aw
def ow(b:bn C a bt)(h:bn C B cd)(aw:autoParam (K_ B) r_9):bn C (sB a B bj)<|Gg acl bt cd:=
 fW (kR.K λx y H Q q=>by
  cases x with
  |K p=>
   cases y with|R i=>let(xs,v,ab,ag,e):=q;show(p,xs,i,v,aa,aa,ab,ag,e)|_=>show q.elim
  |_=>show q.elim) b h aw
inductive Rf(H:ap)(l:L)(y:V)(Q:ca):Prop|mk(xs:#[V]):H l=Y (.K xs)->↑xs<ch->Q .a0 (a' H l<|.K<|xs++[y])->Rf H l y Q
inductive yU(bt:bT)(D:ck)(Q:ca)(l:L)(H:ap):Prop|mk(xs:#[V]):H l=Y (.K xs)->(bt D H λy aH=>Rf aH l y Q)->yU bt D Q l H
def ox(a1:bn C o bt)(a2:bn C e cd)(a3:autoParam (sD o "append" C.K (dx o C.K)=dx o C.K) r_5)
 (a4:autoParam (((h' bj<|er [e] C.K).all (λx=>!x.1)&&(sF bj<|sG [] C.K).all (λx=>x.1.isSome)&&bp (↑[e]+↑([]:#[ud])+(if([]:#[ud]).isEmpty then 0 else 1)<30))=J) r_5)
 (a5:autoParam ((fm.endLine==bj.line)=J) r_5)(aw:autoParam (er [e] C.K=(aX,dx e C.K)::er [] C.K) r_5)(a6:autoParam ((h' bj<|er [] C.K).any (·.1)=aX) r_5):
  bn C (gw (hU o "append" fm) [e] [] bj)<|ro bt λl D H Q=>yU cd D Q l H:=by
 intro am s D H Q j d;show agn a3 a4 a5 aa<|a1.K j d λv m x al g h b=>?_
 cases x with
 |K l=>
  let(xs,p,b):=b;let(ab,ag):=DD g h (ps p);show("list","list.append",pf,v',zX,ab,ag,?_);let i:=ak a2 aF aw bj am m D al (λvs aH=>match vs with|[y]=>Rf aH l y Q|_=>fC) g b;rw[aw]at i⊢;show up (by change(aX||(h' bj<|er [] C.K).any (·.1))=aX;rw[a6]<;>rfl)<|xw<|fR i λq w A=>?_;let(vs,aH,T,U,f):=A;let(y,rfl,xs,V,a0,f):=aca f;show Ax am w D aH (.K l) [y] v q Q T h U (l,xs,y,aa,aa,V,a0,f)
 |_=>show b.elim
end
inductive acm:cq
 |mk{a1 b h a2 a3 a4 a5 a6}:a1 b=M->a1 h=M->h≠b->(∀af g,df a1 af [(g,.K []),(b,.S aAG h [("label",.R a4),("string",.K a2),("bound",.K a3),("got",.K g)])]->a5 .a0 af)->
  acm [.K b,.R a4,.K a2,.K a3] (a' (a' a1 h<|.a2 b) b<|.S aAG h []) a5 a6
def rj(e:aW)(k:O)(aj:fe->Prop)(cT:ap)(c:ov)(ai:py)(Q:ca):Prop:=∀en af k' b,gl e k aj cT en af c k' b->nc b<nc ai->b.a0=0->Q .a0 af
def yV(k:O)(aj:fe->Prop)(cT:ap)(c:ov)(au:fQ):Prop:=∀Z af,(Z=aAK∨Z=cL)->Gf k aj cT af c->au (I Z) M af
structure aqA(e:aW)(k:O)(aj:fe->Prop)(an:ap)(az:#[L×eT])(ai:py)(l:O)(s:#[O])(a3 B:L)(w:kA):Prop where
 K:w>gq M e
 R:bi w.node=l
 S:jd aj w.owner<|s.take k
 X:hl an a3<|cu s
 a0:↑s<=3
 a1:nB aj an az (ai.R+1) (nA e w.node) (s.take k) B
 a2:∀b r,ai.K=b::r->∃h:kA,h>gq M e/\bi h.node=b.K/\↑b.S<=pA h.node/\∀v,aj (cP (cg l) (s.take k) v)->aj (cP (su h.node ↑b.S) (b.R.take k) v)
inductive Rg:cq
 |mk{b h a1 a3 a5 a6 a2 a7 a4 a8 b3 a9 b0}{w:kA}{b1 b2}:
  cR b->gl b h a1 a3 a5 a6 a2 a7 a4->aqA b h a1 a5 a7 a4 a8 b3 a9 b0 w->rj b h a1 a3 a2 a4 b1->yV h a1 a3 a2 b2->Rg [.K a2.K,.R a8,.K a9,.K b0] a6 b1 b2
inductive Rh:cq
 |mk{b0 a4 a5 b1 h a6 a2 a7 a1 a3}{f:iU}{a8 b a9 b2}:
  gl b0 a4 a5 b1 h a6 a2 a7 a1->lX aAG h f.a0 (Bl f)->hl h f.a2 (cu f.R)->(a8,b)>a7->yT a4 a5 (a3,f.K,cu f.R,(di b).1,(di b).2.1)->↑a1.S<5000->
  (∀en af,bA h en->df en af (gF a2 {a1 with S:=pu a1.S (a3,(f.K:N),cu f.R,(di b).1,(di b).2.1)})->a9 .a0 af)->Rh [.K a2.K,.R a3,.K f.a0,.K a8] a6 a9 b2
def aqB:fu ["self","label","string","bound"] ["self","label","string","bound"]<|dh<|sj 1:=∅
def aqC:fu ["self","event","frame","value"] ["self","event","frame","value"]<|dh<|sj 2:=∅
def gl.fin{k c az ai}(x:gl e k aj cT an H c az ai):Gf k aj cT H c:=(an,ai.R,ai.S,x.S,x.K.a9<|.cons_cons _<|.cons _<|.cons_cons _<|List.nil_sublist _,x.a7,by have:=x.a4;have:=x.a3;lia)
def acn{az n a v}(d:yS e aj an az bu n a v):∃z,an a=Y (.R [.R (di v).1,.R (di v).2.1,z]):=by
 cases v with|num=>let(i,d):=d;show(_,d)|fn l c=>let(ae,d,_):=d;show(_,d)|pair l c=>let(_,_,_,d,_):=d;show(_,d)|ref l c=>let(_,d,_):=d;show(_,d)
def Ri(aq:cR e){w b}(d:w>gq M e)(bg:b>gq M e)(q:bi w.node=bi b.node):w=b:=by
 let(i,aR):=uu d;let(j,f):=uu bg;rw[<-((aq.a5 aR).2),q,((aq.a5 f).2),f]at aR;show vK.1<|id<|eW aR
def aqD{a B}(d:pz a=pz B):a=B:=by
 let(b,e,f,g,h):=a;let(i,j,l,m,o):=B;(dsimp only[pz]at d;simp only[uz,Tv,ahc,Tw]at d);rw[d.1,d.2.1,Fo d.2.2.1,d.2.2.2.1,d.2.2.2.2]
theorem aqF(b:#[N×N×#[N]×N×N])(q:N×N×#[N]×N×N):gS (b.map λq=>(pz q,V.X J)) (pz q) (.X J)=(pu b q).map λq=>(pz q,V.X J):=by
 have:=Qb (λ_ _=>aqD) q (V.X J)<|b.map λq=>(q,V.X J);rw[aag,dX,dX]at this;show this
def aqG{b p l w s}(ab:H q=Y (.R [.R h,.R l,.K b,.K p]))(ag:hl H b s)(a1:H p=Y (.R [.R w,.R a2])):eK H q<|pz (h,l,s,w,a2):=by
 show(_,ab,eS aa<|eS aa<|eS (b,aa,?_)<|eS (p,aa,a1) ed);rw[ag,dX];rfl
def aqH[ci]:qt bH 1 aAG "Frame" ["self","label","string","bound"] acm:=by
 show aCR.K ["self","label","string","bound"] λz H vs Q au o d aD=>?_
 induction d with
 |@mk H x aG b B l _ _ ab ag i j=>
  show(_,ba (ib aAU.R (ao 0)<|ao 1)<|ba (ib aAU.a1 (ao 0)<|ao 2)<|ba (ib aAU.a0 (ao 0)<|ao 3)<|a_<|ib aAU.K (ao 0)<|eP aF,?_);let y:=df.a6 (ar:=aAG) ab ag i;let e:=y.a0 0 aa<|.S aAG aG [("label",.R l)];let f:=e.a0 0 aa<|.S aAG aG [("label",.R l),("string",.K b)];show(aG,_,y.R 0 aa,(⋯:0<1000),aG,_,e.R 0 aa,(⋯:1<1000),aG,_,f.R 0 aa,(⋯:2<1000),kT,λg m=>?_);let h:=(f.a0 0 aa<|.S aAG aG [("label",.R l),("string",.K b),("bound",.K B)]).a3 m<|.K [];show(aG,_,h.R 1 aa,(⋯:3<1000),j _ g<|h.a0 1 aa<|.S aAG aG [("label",.R l),("string",.K b),("bound",.K B),("got",.K g)])
def aco[ci]:eD (fr aAw aAx) 3 aAF "enter" ["self","label","string","bound"] Rg:=by
 show aCi.R aAU.S.K _ (ai:=aqB) λz H vs Q au U d _=>?_
 induction d with
 |@mk e k aj cT an H c az ai l st i B u _ _ a0 x b a1 a2=>
  show(_,ba (dF (jm mb (bV aAU.a4<|ao 0)<|cH aAU.a8) (a_<|tq to aa aa aAU.a3.1 aAU.a3.2) d_)
  <|ba (Bh aAU.a4 (ao 0) cm)<|a_<|cw<|ox (bV aAU.X<|ao 0)<|yF aqH U bm<|ak (ao 1)<|ak (ao 2)<|ak (ao 3) aF,(.R ai.R,x.K.S 0,dH (λa3=>a2 cL H (bl aa) x.fin) λa3=>?_));let m:=x.K.a0 0 aa<|.S aAF c.a0<|Ge c<|ai.R+1;show(ai.R,x.K.S 0,c.a0,_,x.K.R 0 aa,(⋯:5<1000),.K c.R,m.S 0,_,m.R 1 aa,λa aG a4 a5 a6=>.mk a4 a5 a6 λaH g y=>(aa,?_));let(al,h,w,a7):=(m.b1 y).b6.b4;let a8:↑(ai.K.reverse.map λf=>V.K f.a0)<ch:=by
   rw[aV,xG];show kF (db x.a8 x.a2) ⋯
  let b5:=x.a2;let a9:=x.a4;let b0:=x.a8;let o:∀q∈az,q>az:=λ_ d=>d;let p:kp e k aj al az (ai.R+1) (a,l,st,i,B,g,[]) u:=(b.K,b.R,b.S,(aG,a7 _<|cp _),h _ _ b.X,b.a0,b.a1.K h o dw,ex _,λj a q=>(by cases q));show(_,w.R 1 aa,a8,a1 al _ az (ai.R+1,(a,l,st,i,B,g,[])::ai.K,ai.S,ai.X,0) (x.S.K h,?_,x.X,λq b1=>(x.R q b1).K h o (λ_ d=>d)<|ll _,x.a6,?_,x.a7,?_,?_,?_,ex _) ?_ aa);.change df al _<|(c.K,_)::(c.R,bF.K<|(_::ai.K).reverse.map _)::_;rw[uw,cs];show(w.a0 1 aa<|.K<|ai.K.reverse.map (λf=>V.K f.a0)++[.K a])
  .let v:=x.a0.X h o<|ll ai.R;let d':=b.a2;revert v d';generalize ai.K=b2;intro v d';let A:∀{f T r},b2=f::r->kp e k aj al az (ai.R+1) f T->aci k aj f T (a,l,st,i,B,g,[]):=λq d=>by
    let(b6,ab,ag,b3,b4):=d' _ _ q;have:=Ri a0 d.K ab<|d.R.trans ag.symm;subst this;show(b3,b4)
   cases v with|S=>show .R p|R d=>show .K p d (A aa d)<|.R d|K ab ag x t=>show .K p ab (A aa ab)<|.K ab ag x t
  .change ai.R+1<=300;lia
  .change ↑ai.S+2*(2*(300 -(ai.R+1))+(↑ai.K+1))<=2000+0;have:=x.a3;unfold nc at a9;lia
  .show ut b0
  .change 2*(300 -(ai.R+1))+(↑ai.K+1)<2*(300 - ai.R)+↑ai.K;lia
def acp[ci]:eD bH 1 aAF "note" ["self","event","frame","value"] Rh:=by
 show aCj.K aAU.S.K _ (ai:=aqC) λz H vs Q au j d _=>?_
 induction d with
 |@mk e k aj cT an H c az ai l f a z _ _ x m ah v a0 w A=>
  show(_,a_<|sh (lw j) (bV aAU.a5<|ao 0) (es<|ak (ao 1)<|ak (bV aAU.R<|ao 2)<|ak (bV aAU.a1<|ao 2)<|ak (uH AS (ao 3) yl<|sd cm) aF) td aa,?_);let g:lX aAG H f.a0<|Bl f:=let(aG,o):=m;(aG,x.K.K _ _ o);let(y,T):=acn (x.R _ v);show(.K c.S,x.K.S 0,.R f.K,(_,g,aa),.K f.a2,(_,g,aa),2,aa,(a,_,aa,fb<|x.K.K _ _ T,λh=>bB h.2 ?_,λh p U=>?_));.rw[show(Y (2:N))=Y ((2:O):N)from aa,sc];show(⋯:¬min 2 3=3)
  .let aB:rh [.R (di z).1,.R (di z).2.1,y] M (Y 2)=[.R (di z).1,.R (di z).2.1]:=by
    delta rh;rw[show(Y (2:N))=Y ((2:O):N)from aa,KW,sc];rfl
   rw[aB];show((⋯:4<=sizeLine),λq V=>?_);let bX:=cf (o:=.R [.R (di z).1,.R (di z).2.1]) U;let b:=cf (o:=.R [.R l,.R f.K,.K f.a2,.K p]) V;let i:=(x.K.a8 bX).a8 b;show(c.S,_,aa,om.K (i.R 2 aa) (aqG bG (b _ _<|bX _ _<|x.K.K _ _ ah)<|b _ _ bG) ?_,A an _ (λ_ _ d=>d) ?_);.rw[aV];show s_ w ⋯
   .rw[aqF];show i.a0 2 aa _
inductive Rj:cq
 |mk{b h a1 a4 a9 a5 a2 a6 a3}{f:iU}{b0 a7 a8 b1}:
  cR b->gl b h a1 a4 a9 a5 a2 a6 a3->a3.K=f::b0->ma a1 a6 (cg f.K) (f.R.take h) a7->rj b h a1 a4 a2 a3 a8->Rj [.K a2.K,.K a7] a5 a8 b1
def aqK(x:aW):pA x<=2:=by cases x<;>show oe aa
def acq:fu ["self","value","frame"] ["self","value"]<|dh<|sj 3:=∅
section
variable{k:O}{aj:fe->Prop}{cT:ap}{c:ov}{az:#[L×eT]}{ai:py}{f g:iU}{r:#[iU]}
theorem pB.a0{n}(d:pB e k aj an az n<|f::r):(∃w,kp e k aj an az n f w)/\pB e k aj an az n r:=by
 cases d with|R d=>show((_,d),.S)|K ab ag x t=>show((_,ab),t)
def acr(d:ai.K=f::r):nc {ai with K:=r}+1=nc ai:=by
 delta nc;rw[d,hs];rfl
theorem gl.b2(x:gl e k aj cT an H c az ai)(d:ai.K=f::r):gl e k aj cT an (a' H c.R<|.K<|r.reverse.map λf=>V.K f.a0) c az {ai with K:=r}:=by
 let m:=acr d;let h:=x.a0;let b:=x.a8;let g:=x.a4;rw[d]at h b;rw[hs]at b;show(x.S,(x.K.a0 1 aa<|.K<|r.reverse.map λf=>V.K f.a0).a9 ?_,x.X,x.R,x.a6,h.a0.2,x.a7,x.a2,?_,(lm b),x.a3);.delta gF;grind
 .lia
def gl.b1(x:gl e k aj cT an H c az ai)(s:bA an en)(b:yT k aj q)(z:O)(hz:z<=1)(h:↑ai.S+1+2*nc ai<=2000+z)(y:df en af<|gF c {ai with S:=pu ai.S q}):gl e k aj cT en af c az {ai with S:=pu ai.S q,a0:=z}:=by
 let i:∀q∈az,q>az:=λ_ d=>d;show(x.S.K s,y,x.X,λq b=>(x.R q b).K s i (λ_ d=>d) dw,x.a6,x.a0.X s i dw,λp f=>?_,x.a2,?_,x.a8,hz)
 .let z||z:=aah.1 f;.show x.a7 p z
  .rwa [z]
 .have:↑(pu ai.S q)<=↑ai.S+1:=by
   delta pu;split;.show ll _
   simp_all
  change↑(pu ai.S q)+2*nc ai<=2000+z;lia
def gl.b3(x:gl e k aj cT an H c az ai)(d:ai.K=g::r){a}(b6:∀w,kp e k aj an az ai.R g w->↑g.S<=pA w.node/\ma aj az (su w.node ↑g.S) (g.R.take k) a):gl e k aj cT an (a' H g.X<|.K<|g.S.map V.K++[.K a]) c az {ai with K:={g with S:=g.S++[a]}::r}:=by
 let y:=x.K.a0 3 (by delta gF;rw[d];rfl)<|.K<|g.S.map V.K++[.K a];let h:=x.a0;let i:=x.a8;let f:=x.a4;rw[d]at h i;show(x.S,?_,x.X,x.R,x.a6,?_,x.a7,x.a2,?_,i,x.a3);.unfold gF at y;rw[d]at y;change df an _<|_::(c.R,bF.K<|({g with S:=g.S++[a]}::r).reverse.map _)::_::((g.X,bF.K<|(g.S++[a]).map V.K)::_);rw[uw,cs,cs]at*;show y
 .let l:∀{w},kp e k aj an az ai.R g w->kp e k aj an az ai.R {g with S:=g.S++[a]} w:=λ{w} q=>by
   let(ab,ag):=b6 w q;show(q.K,q.R,q.S,q.a0,q.a2,q.a3,q.a1,by rw[cW];show ut ab,λj B b=>?_);let z||z:=HA j ↑g.S;.show q.a4 j B<|by let b:=b;rw[oc z]at b;show b
   .let b:=b;rw[pb z]at b;have:j=↑g.S:=by
     have:=(ff.1 b).1;simp at this;lia
    subst this;rw[xH]at b;cases b;show ag
  cases h with|R q=>show .R<|l q|K m o z t=>show .K (l m) o z t
 .unfold nc at f⊢;rw[d]at f;show f
end
def aqP[ci]:eD bH 2 aAF "give" ["self","value"] Rj:=by
 show aCk.K aAU.S.K _ (ai:=acq) λz H vs Q au a2 d _=>?_
 induction d with
 |@mk e k aj cT an H c az ai f r a _ _ v x i ev w=>
  show(_,ba (ey 2 acq.K<|Pc pf Td ahe Pe<|bV aAU.X<|ao 0)<|ba (cw<|eX acp (ao 0) a2 bm<|ak (cH aAU.a7)<|ak (ao 2)<|ak (ao 1) aF)
  <|a_<|dF (uG (bV aAU.X<|ao 0)<|λ_=>rfl) (a_<|cw<|ox (bV aAU.K<|fT (bV aAU.X<|ao 0)<|Dm Dn cm)<|ao 1) d_,?_);let a3:ai.K.reverse.map (λf=>V.K f.a0)=r.reverse.map (λf=>V.K f.a0)++[.K f.a0]:=by rw[i,uw,cs];rfl
  let ab:=x.K.R 1 aa;rw[a3]at ab;show(.K c.R,x.K.S 0,ps ab,c.R,_,.K f.a0,aa,aa,ab,by simp,?_);rw[ayr];let l:=x.b2 i;let(a7,p):=(show pB e k aj an az ai.R (f::r) by rw[<- i];show x.a0).a0.1;let(j,A,T):=ev;let m:=acr i;let a8:=x.a4;let U:yT k aj (0,(f.K:N),cu f.R,(di j).1,(di j).2.1):=(f.K,f.R,aa,aa,p.a3,aQ (aa,j,T,aa,aa));show(l.K.X 0,.mk l p.a0 p.a2 A U (by have:=x.a3;lia) λal aH a4 y=>?_);let a9:=x.a3;let b:=l.b1 a4 U 0 (ex _) (by lia) y;show(.K c.R,b.K.S 0,_,aQ (_,bZ<|b.K.R 1 aa,aa),?_)
  cases r with
  |nil=>show rk<|w _ _ _ _ b (by change nc {ai with K:=[]}<_;lia) aa
  |cons g r=>
   let(a5,h):=b.a0.a0.1;let aB:(g::r).reverse.map (λf=>V.K f.a0)=r.reverse.map (λf=>V.K f.a0)++[.K g.a0]:=by rw[uw,cs];rfl
   let a0:=b.K.R 1 aa;let a1:=b.K.R 3 aa;rw[aB]at a0⊢
   let d':=by
    let q:=x.a0;rw[i]at q
    cases q with
    |K ab ag z t=>
     have:=Ri v ag.K h.K<|ag.R.trans h.R.symm;subst this;show z
   rw[show(!(r.reverse.map (λf=>V.K f.a0)++[V.K g.a0]).isEmpty)=J by simp];let a6:↑(g.S.map V.K)<ch:=by
    rw[aV];show kF h.a8<|kF (ut<|aqK a5.node) ⋯
   show lx (.K c.R,b.K.S 0,1,aa,_,.K g.a0,bZ a0,Dz _ _,.K g.X,(_,(let(aG,o):=h.a0;(aG,b.K.K _ _ o)),aa),_,a1,_,a1,a6,w _ _ _ _ (b.b3 aa λb0 q=>?_) ?_ aa);.have:=Ri v q.K h.K<|q.R.trans h.R.symm;subst this;show(d'.1,j,A,d'.2 _ T)
   .change nc {ai with K:=g::r}<_;lia
inductive Rk:cq
 |mk{e:aW}{k:O}{aj:fe->Prop}{cT an H:ap}{c:ov}{az:#[L×eT]}{ai:py}{f:iU}{r:#[iU]}{w:kA}{j:O}{y:aW}{B:L}{Q:ca}{au:fQ}:
  cR e->gl e k aj cT an H c az ai->ai.K=f::r->kp e k aj an az ai.R f w->(gD w.node)[j]? =Y y->(∀g x z,w.node≠fy g x z)->nB aj an az (ai.R+1) (nA e y) (f.R.take k) B->↑f.S<=pA w.node->
  (∀v,aj (cP (cg<|bi y) (f.R.take k) v)->aj (cP (su w.node ↑f.S) (f.R.take k) v))->rj e k aj cT c ai Q->yV k aj cT c au->Rk [.K c.K,.K f.a0,.R j,.K B] H Q au
inductive Rl:cq|mk{b a1}{w:N}{h a4 a5 a2 a3}:b a1=Y (.R [.R w,a4,a5])->(w=h->a2 .a0 b)->(w≠h->a3 (I aAK) M b)->Rl [.K a1,.R h] b a2 a3
inductive Rm:cq|mk{b a1 a2 a3 h a4 a5}:b a1=Y (hX.K h)->↑h<1000->(∀p af,bA b af->b p=M->af p=Y (hX.K<|gS h a3<|.K a2)->a4 (.K p) af)->Rm [.K a1,.R a3,.K a2] b a4 a5
def Gi:∀{o w},w>gq o e->∀y∈gD w.node,((y,match w.node with|fy l _ _=>Y l|_=>w.owner):kA)>gq o e:=by
 let g:∀x o,((x,o):kA)>gq o x:=λx o=>by cases x<;>show(cp _)
 induction e with
 |num l n=>intro o w d y b;rw[dj.1 d]at b;cases b
 |var l x=>intro o w d y b;rw[dj.1 d]at b;cases b
 |fn l x B j=>
  intro o w d y b;let z||z:=cc.1 d;.subst z;rw[dj.1 b];show el _<|g B _
  .show el _<|j z y b
 |fst l ae j|snd l ae j|new l ae j|get l ae j=>
  intro o w d y b;let z||z:=cc.1 d;.subst z;rw[dj.1 b];show el _<|g ae _
  .show el _<|j z y b
 |app l f a h i|letE l x f a h i|pair l f a h i|set l f a h i|add l f a h i=>
  intro o w d y b;let z||z:=cc.1 d
  .subst z;show el _ ?_;let q||q:=cc.1 b;.rw[q];show dQ _<|g f _
   .rw[dj.1 q];show cG _<|g a _
  .show el _ ?_;let z||z:=du.1 z;.show dQ _<|h z y b
   .show cG _<|i z y b
 |ifz l f a B h i m=>
  intro o w d y b;let z||z:=cc.1 d
  .subst z;show el _ ?_;let q||q:=cc.1 b;.rw[q];show dQ _<|g f _
   .let q||q:=cc.1 q;.rw[q];show cG _<|dQ _<|g a _
    .rw[dj.1 q];show cG _<|cG _<|g B _
  .show el _ ?_;let z||z:=du.1 z;.show dQ _<|h z y b
   .let z||z:=du.1 z;.show cG _<|dQ _<|i z y b
    .show cG _<|cG _<|m z y b
def aqQ:fu ["self","frame","place","bound"] ["self","frame","place","bound"]<|dh<|sj 4:=∅
def aqR[ci]:cX (fr aAw aAx) 1 "need" ["value","what"] Rl:=by
 show aDB.S ["value","what"] λz H vs Q au g d aD=>?_
 induction d with
 |@mk H a b n y z _ _ f ab ag=>
  show(_,a_<|dF (jm ack (ow (ao 0) cm)<|ao 1) (a_<|tq to aa aa aAU.a2.1 aAU.a2.2) d_,(_,.R b,fb f,aa,dH (λe=>?_) λe=>?_));.show ag λq=>by rw[show(λi j:N=>!bp (i=j)) b n=!bp (b=n)from aa,hp q]at e;cases e
  .show ab<|bk λq=>by rw[show(λi j:N=>!bp (i=j)) b n=!bp (b=n)from aa,iv q]at e;cases e
def aqS[ci]:cX bH 1 "bind" ["bound","binder","value"] Rm:=by
 show aDC.K ["bound","binder","value","more"] λz H vs Q au e d aD=>?_
 induction d with
 |@mk H ae a y aP _ _ f g h=>
  show(_,ba (ey 3 aD<|Ar aqz aa aBj (by rfl')<|ak (ao 0) aF)<|ba (sh (lw e) (ao 3) (ao 1) (ao 2) aa)<|a_<|cy<|ao 3,(_,f,λp b=>(p,_,aa,hX.a0 bG aa<|s_ g ⋯,h p _ (λB o q=>?_) b bG)));rwa [bS<|fj q b,bS<|fj q b]
set_option tactic.hygienic true in
def aqT[ci]:eD (fr aAw aAx) 4 aAF "enter_part" ["self","frame","place","bound"] Rk:=by
 show aCl.R aAU.S.K _ (ai:=aqQ) λz H vs Q au p d _=>?_
 induction d with
 |@mk e k aj cT an H c az ai f r u j y B _ _ h x v b i w A T d' U V=>
  show(_,a_<|cw<|eX aco (ao 0) p g_<|ak (fT (fT (bV (aAR.K,aAR.S)<|bV aAU.S<|ao 0)<|bV aAU.R<|ao 1)<|ao 2)<|ak (bV aAU.a1<|ao 1)<|ak (ao 3) aF,?_);let(ax,a0):=x.X;let g:=(a0.K x.S).K x.K.K;let l:lX aAG H f.a0<|Bl f:=let(aG,o):=b.a0;(aG,x.K.K _ _ o);let m:=h.a2<|kV b.K;rw[b.R]at m;let(a1,a2,a3):=qo g.a0 m;let eA:=by
   have:=Gi b.K y<|gs i;split at this;.rename_i q;show bB q<|w _ _ _
   .show this
  show(x.K.X 0,.K c.X,x.K.S 0,.K ax.R,(_,g.R,aa),.R f.K,(_,l,aa),_,.K a1,bZ g.X,lU<|by rw[cV,a2];rfl,_,.R<|bi y,bZ a3,lU<|by rw[dX,dX,cV,i];rfl,.K f.a2,(_,l,aa),?_);show .mk h x (eA,aa,b.S,b.a2,b.a3,A,λa4 a5 q=>?_) U V;rw[v]at q;cases q;show(u,b.K,b.R,T,d')
def ww{x B}:B>nA e x↔(∃l∈dC x,eV e l=Y B)/\B∉dC x:=by
 delta nA;simp_all
def Bp:aW->O->Prop|fy _ _ _,j=>j=0|ku _ _ _ _,j=>j=1|_,_=>fC
def Bq{x y:aW}{j:O}(aq:cR e)(a1:x>bR e)(b:(gD x)[j]? =Y y){B:O}(a2:B>nA e y):B>nA e x∨(B=bi x/\Bp x j):=by
 let A:=gs b;let((l,T,U),V):=ww.1 a2;let(s,ab,ag):=acg e [] (λ_ d=>(by cases d)) aq.a0 a1;let a0:l>dC x:=by
  let(v,a3,q):=bx.1 T;show bx.2 (v,acf x (jl (abk x) A) v a3,q)
 let o:∀aT,(∀p∈gZ aT y,p>gZ s x)->B>aT.map ki:=λaT d=>(aq.c2 (jl a1 A) (λp a4=>ab p<|d p a4) T U).resolve_right V;let fin:=λd=>ww.2 ((l,a0,U),ag B d);let i:∀{l m:#[O×bs O]},∀p∈l,p>l++m:=λp d=>dQ _ d;let h:∀{l m:#[O×bs O]},∀p∈m,p>l++m:=λp d=>cG _ d;let g:(∀p∈gZ s y,p>gZ s x)->B>nA e x∨(B=bi x/\Bp x j):=λd=>aQ<|fin<|o s d
 cases x with
 |num l n=>cases b
 |var l n=>cases b
 |fn l z c=>
  let _||j:=j<;>cases b;show(cc.1<|o ((z,l)::s) λp d=>d).elim (λw=>bl (w,aa)) λw=>aQ<|fin w
 |letE l z ae c=>
  let _||_||j:=j<;>cases b;.show g i
  .show(cc.1<|o ((z,l)::s) h).elim (λw=>bl (w,aa)) λw=>aQ<|fin w
 |fst l ae|snd l ae|new l ae|get l ae=>
  let _||j:=j<;>cases b;show g λp d=>d
 |app l ae c|pair l ae c|set l ae c|add l ae c=>
  let _||_||j:=j<;>cases b;.show g i
  .show g h
 |ifz l ae c f=>
  let _||_||_||j:=j<;>cases b;.show g i
  .show g λp d=>h p<|i p d
  .show g λp d=>h p<|h p d
def acs(aq:cR e){l B x}(h:gK l x>bR e)(d:eV e l=Y B):B≠l:=λq=>by
 let(s,ab,ag):=acg e [] (λ_ d=>(by cases d)) aq.a0 h;let b:=dj.1<|aq.b5 h ab (cp _) d;injection b with _ b
 cases z:s.find? λz=>z.1==x with
 |none=>simp_all
 |some p=>
  rw[z]at b;injection b with b;show ag B (b▸bx.2 (p,qd z,aa))<|by rw[q];show(cp _)
def Gj{B g z}(aq:cR e)(d:fy g z B>bR e):(∀y∈nA e B,y=g∨y>ja e g)/\∀y∈ja e g,y>nA e (fy g z B):=by
 let f:∀y,y>ja e g↔(∃l∈dC B,eV e l=Y y)/\y∉g::dC B:=λy=>by
  delta ja;rw[show sP e g=Y (fy g z B)from aq.a1 d];simp_all
 show(λy b=>?_,λy b=>?_)
 .let(ab,ag):=ww.1 b;by_cases q:y=g;.show aQ q
  .show bl<|(f y).mpr (ab,λz=>(cc.1 z).elim q ag)
 .let((l,ab,ag),h):=(f y).mp b;show ww.2 ((l,el _ ab,ag),h)
section
variable{k:O}{aj:fe->Prop}{cT:ap}{c:ov}{az:#[L×eT]}{ai:py}{f:iU}{r:#[iU]}
theorem gl.a5(x:gl e k aj cT an H c az ai)(s:bA H af):∃al,bA an al/\gl e k aj cT al af c az ai/\∀B o,af B=Y o->H B=M->al B=Y o:=by
 let(al,b,y,n):=x.K.b5 s;let i:∀q∈az,q>az:=λ_ d=>d;show(al,b,(x.S.K b,y,x.X,λq f=>(x.R q f).K b i (λ_ d=>d) dw,x.a6,x.a0.X b i dw,x.a7,x.a2,x.a4,x.a8,x.a3),n)
theorem gl.b4(x:gl e k aj cT an H c az ai)(s:bA H af):∃al,bA an al/\gl e k aj cT al af c az ai/\(∀B o,af B=Y o->H B=M->al B=Y o)/\∀B xs,af B=Y (.R xs)->al B=Y (.R xs):=by
 let(al,f,y,n):=x.K.b2 s;let i:∀q∈az,q>az:=λ_ d=>d;show(al,f,(x.S.K f,y,x.X,λq g=>(x.R q g).K f i (λ_ d=>d) dw,x.a6,x.a0.X f i dw,x.a7,x.a2,x.a4,x.a8,x.a3),λB o d q=>n B o d λz=>?_,λB xs d=>n B _ d λz=>?_)<;>let(e,b,rfl):=bx.1 z;.have:=x.K.a1 e b;grind
 .have:=y.a1 e b;rw[d]at this;let this:=hq this;let z||b:=cc.1 b;.grind
  let z||b:=cc.1 b;.rw[z]at this;cases this
  let z||b:=cc.1 b;.rw[z]at this;cases this
  let z||z:=du.1 b<;>let(_,_,rfl):=bx.1 z<;>cases this
theorem gl.b0(x:gl e k aj cT an H c az ai){a v}(d:yS e aj an ((a,v)::az) (Bn ai) ai.R a v):gl e k aj cT an H c ((a,v)::az) ai:=by
 let i:∀q∈az,q>(a,v)::az:=λ_ d=>el _ d;let f:bA an an:=λ_ _ d=>d;show(x.S,x.K,x.X,λq b=>?_,λq b=>(x.a6 q b).K i,x.a0.X f i dw,x.a7,x.a2,x.a4,x.a8,x.a3);let z||z:=cc.1 b;.rwa [z]
 .show(x.R q z).K f i (λ_ d=>d) dw
theorem gl.a1(x:gl e k aj cT an H c az ai)(d:ai.K=f::r):H f.X=Y (.K<|f.S.map V.K):=x.K.R 3<|by delta gF;rw[d];rfl
end
inductive kW(e:aW):aW->O->Prop|K{b a4}:kW e (jK b a4) 0|R{b a2}:eV e b=M->kW e (gK b a2) 1|S{b h a2}:eV e b=Y h->kW e (gK b a2) 2|X{b a2 h}:kW e (fy b a2 h) 3|a0{b}{f:aW}{a3}:kW e (iq b f a3) 4|a1{b a2 a1 h}:kW e (ku b a2 a1 h) 5|a2{b a5 a3 h}:kW e (ni b a5 a3 h) 6|a3{b a3 h}:kW e (jP b a3 h) 7|a4{b a1}:kW e (nG b a1) 8|a5{b a1}:kW e (nH b a1) 9|a6{b a1}:kW e (kv b a1) 10|a7{b a1}:kW e (nK b a1) 11|a8{b a1 h}:kW e (mH b a1 h) 12|a9{b a3 h}:kW e (pQ b a3 h) 13
inductive pC(i:O):cq
 |mk{b h b0 a1 a4 a5 a6 a3 a7 a2}{f:iU}{b1}{w:kA}{a8 a9}:
  iC b h b0 a1->gl b h a1 a4 a5 a6 a3 a7 a2->a2.K=f::b1->kp b h a1 a5 a7 a2.R f w->kW b w.node i->↑f.S=pA w.node->a2.a0=0->rj b h a1 a4 a3 a2 a8->yV h a1 a4 a3 a9->pC i [.K a3.K,.K f.a0] a6 a8 a9
structure aqU:Prop where
 K:Za aAF aAG aAC aAK cL
 S:PZ aAC
 a0:fA aAy "NUMBER" 0
 a4:fA aAy "FUNCTION" 1
 a1:fA aAy "PAIR" 2
 a2:fA aAy "REFERENCE" 3
 a6:fA aAy "MODULUS" 100
 a7:fA aAy "MOST_SITES" 3
 R:eD bH 2 aAF "give" ["self","value"] Rj
 a8:eD bH 1 aAF "note" ["self","event","frame","value"] Rh
 a5:eD (fr aAw aAx) 3 aAF "enter" ["self","label","string","bound"] Rg
 a3:eD (fr aAw aAx) 4 aAF "enter_part" ["self","frame","place","bound"] Rk
 X:cX (fr aAw aAx) 1 "need" ["value","what"] Rl
 bind:cX bH 1 "bind" ["bound","binder","value"] Rm
 a9:cX bH 1 "string_within" ["site","string","most"] Qh
theorem dB.R{x st br}(d:dB x st gT)(ai:fu br gT<|dh st)(i:O)
 (b:∀z H Q au e k bo aj cT an c az ai f r aD eA,
   fz 5 (z.R.deeper<|z.K x<|dh st)->iC e k bo aj->gl e k aj cT an H c az ai->ai.K=f::r->kp e k aj an az ai.R f (aD,eA)->kW e aD i->↑f.S=pA aD->ai.a0=0->rj e k aj cT c ai Q->yV k aj cT c au->
   yk (iy (fr aAw aAx) br x (dh st) z H au) (nx st) br [.K c.K,.K f.a0] Q H):cX (fr aAw aAx) 6 x gT<|pC i:=by
 show d.S br (ai:=ai) λz H vs Q au g d _=>?_
 cases d with
 |@mk e k bo aj cT an H c az ai f r w _ _ bw x h j kd l gn m o=>
  let(aD,eA):=w;show b z H Q au e k bo aj cT an c az ai f r aD eA g bw x h j kd l gn m o
def qz{i}(d:autoParam (fu gT gT (dh<|cr i)) r_7):fu gT gT<|dh<|cr i:=d
def cz[ci]:aqU:=(aAU,aAR,HI,aBf,aBg,aBh,aBs,aBt,aqP,acp,aco,aqT,aqR,aqS,ZB)
def aqV[ci]:cX (fr aAw aAx) 6 "run_number" gT<|pC 0:=by
 show aDD.R qz 0 λz H Q aW e k bo aj cT an c az ai f r aD eA i bw x j b kd T gn m U=>?_
 cases kd with
 |@K l n=>
  show(_,a_<|cw<|eX cz.R (ao 0) i bm<|ak (es<|ak (cH cz.a0)<|ak cm<|ak (fT (bV (cz.S.K,cz.S.a0)<|bV cz.K.S<|ao 0)<|bV cz.K.R<|ao 1) aF) aF,?_);let(ax,p):=x.X;let g:=(p.K x.S).K x.K.K;let q:(dr e).a5[f.K]? =Y (Y (n:N)):=by
   rw[<- b.R];change((bR e).map abi)[_]? =_;rw[cV,bw.K.S<|kV b.K];rfl
  show(x.K.X 0,.K c.X,x.K.S 0,.K ax.a0,(_,g.R,aa),.R f.K,(_,(let(aG,o):=b.a0;(aG,x.K.K _ _ o)),aa),_,.R n,bZ g.a3,lU<|by rw[cV,q];rfl,hc,λt h=>?_);let(al,V,w,A):=x.a5 (cf h);show .mk bw.K (w.b0 (v:=hg) (n,A _ _ bG h)) j (hg,(cp _),b.R▸bw.R _ b.K _ b.S _ .R) m
section
variable{k:O}{aj:fe->Prop}{cT:ap}{c:ov}{az:#[L×eT]}{ai:py}{f:iU}{r:#[iU]}{w:kA}{n:O}
theorem kp.X(b:kp e k aj an az n f w)(s:bA an H):lX aAG H f.a0<|Bl f:=let(aG,o):=b.a0;(aG,s _ _ o)
theorem kp.a5(b:kp e k aj an az n f w)(d:↑f.S=1):∃a,f.S=[a]/\ma aj az (su w.node 0) (f.R.take k) a:=by
 match q:f.S,d with|[a],_=>show(a,aa,b.a4 0 a<|by rw[q];rfl)
theorem kp.a7(b:kp e k aj an az n f w)(d:↑f.S=2):∃a B,f.S=[a,B]/\ma aj az (su w.node 0) (f.R.take k) a/\ma aj az (su w.node 1) (f.R.take k) B:=by
 let(a,B,q):=qq d;show(a,B,q,b.a4 0 a<|by rw[q];rfl,b.a4 1 B<|by rw[q];rfl)
theorem gl.a9(x:gl e k aj cT an H c az ai){a v}(d:(a,v)>az):∃z,H a=Y (.R [.R (di v).1,.R (di v).2.1,z]):=let(z,q):=acn<|x.R _ d;(z,x.K.K _ _ q)
end
def aqW[ci]:cX (fr aAw aAx) 6 "run_pair" gT<|pC 7:=by
 show aDR.R qz 7 λz H Q aW e k bo aj cT an c az ai f r aD eA a1 bw x o b kd a2 gn a3 b2=>?_
 cases kd with
 |@a3 l y B=>
  show(_,a_<|cw<|eX cz.R (ao 0) a1 bm<|ak (es<|ak (cH cz.a1)<|ak (bV cz.K.R<|ao 1)<|ak (es<|ak (fT (bV cz.K.K<|ao 1) cm)<|ak (fT (bV cz.K.K<|ao 1) cm) aF) aF) aF,?_);let g:=b.X x.K.K;let(gc,w,a4,kZ,ef):=b.a7 a2;let h:=x.a1 o;rw[a4]at h;show(x.K.X 0,.R f.K,(_,g,aa),.K f.X,(_,g,aa),_,.K gc,bZ h,aa,.K f.X,(_,g,aa),_,.K w,bZ h,aa,mX,λt A=>(hc,λu T=>?_));exists a5;let(al,b3,a6,a7):=x.a5 (cf A);let(aH,a8,a9,b0):=a6.a5 (cf T);let i:l=f.K:=b.R;let U:∀{p V a0},ma aj az p V a0->ma aj ((u,kx f.K<|f.R.take k)::az) p V a0:=λd=>d.K λq b1=>el _ b1;let ax:=bw.R _ b.K _ b.S;show a5<|.mk bw.K (a9.b0 (v:=kx f.K<|f.R.take k) (t,gc,w,b0 _ _ bG T,a8 _ _<|a7 _ _ bG A,U ?_,U ?_)) o (kx f.K<|f.R.take k,(cp _),?_) a3;.let(j,m,hW):=kZ;show(j,m,i▸ax _ (.a8 hW))
  .let(j,m,hW):=ef;show(j,m,i▸ax _ (.a9 hW))
  .rw[<- i];show ax _ .a7
def vi(v:eT):((di v).1=0->v=hg)/\((di v).1=1->∃l c,v=kh l c)/\((di v).1=2->∃l c,v=kx l c)/\((di v).1=3->∃l c,v=le l c):=by
 cases v with|num=>show(λ_=>rfl,λd=>bB d ⋯,λd=>bB d ⋯,λd=>bB d ⋯)|fn l c=>show(λd=>bB (show(1:N)=0 from d) ⋯,λ_=>(l,c,aa),λd=>bB (show(1:N)=2 from d) ⋯,λd=>bB (show(1:N)=3 from d) ⋯)|pair l c=>show(λd=>bB (show(2:N)=0 from d) ⋯,λd=>bB (show(2:N)=1 from d) ⋯,λ_=>(l,c,aa),λd=>bB (show(2:N)=3 from d) ⋯)|ref l c=>show(λd=>bB (show(3:N)=0 from d) ⋯,λd=>bB (show(3:N)=1 from d) ⋯,λd=>bB (show(3:N)=2 from d) ⋯,λ_=>(l,c,aa))
def aqX[ci]:cX (fr aAw aAx) 6 "run_add" gT<|pC 13:=by
 show aDX.R qz 13 λz H Q aW e k bo aj cT an c az ai f r aD eA m bw x w b kd a2 gn a3 A=>?_
 cases kd with
 |@a9 l p q=>
  show(_,ba (cw<|dT cz.X m g_<|ak (fT (bV cz.K.K<|ao 1) cm)<|ak (cH cz.a0) aF)<|ba (cw<|dT cz.X m g_<|ak (fT (bV cz.K.K<|ao 1) cm)<|ak (cH cz.a0) aF)
  <|a_<|cw<|eX cz.R (ao 0) m bm<|ak (es<|ak (cH cz.a0)<|ak cm<|ak (Am (aiQ λi j _ _ _ _ _ T q=>mod_int' (mT<|Int.ne_of_lt T)<|by rwa [Int.fmod_eq_emod_of_nonneg i<|Int.le_of_lt T]) (Gb KG (ow (fT (bV cz.K.K<|ao 1) cm) cm)<|ow (fT (bV cz.K.K<|ao 1) cm) cm)<|cH cz.a6) aF) aF,?_);exists o;let h:=b.X x.K.K;let(gc,U,a4,(a5,V,hW),a6,a0,cb):=b.a7 a2;let g:=x.a1 w;rw[a4]at g;let(z,hz):=x.a9 V;let(b1,a7):=x.a9 a0;show o (.K f.X,(_,h,aa),_,.K gc,bZ g,aa,.mk hz (λq=>(.K f.X,(_,h,aa),_,.K U,bZ g,aa,.mk a7 (λa8=>?_) λ_=>A aAK H (aQ aa) x.fin)) λ_=>A aAK H (aQ aa) x.fin);obtain rfl:=(vi a5).1 q;obtain rfl:=(vi a6).1 a8;let(i,ab):=x.R _ V;let(j,ag):=x.R _ a0;show(x.K.X 0,.K f.X,(_,h,aa),_,.K gc,bZ g,aa,_,.R i,fb<|x.K.K _ _ ab,aa,.K f.X,(_,h,aa),_,.K U,bZ g,aa,_,.R j,fb<|x.K.K _ _ ag,aa,_,_,aa,aa,(⋯:(0:Int)<100),hc,λt a1=>?_);exists o;let(al,b2,a9,b0):=x.a5 (cf a1);show o<|.mk bw.K (a9.b0 (v:=hg) (_,b0 _ _ bG a1)) w (hg,(cp _),b.R▸bw.R _ b.K _ b.S _ .b7) a3
def aqZ[ci]:cX (fr aAw aAx) 6 "run_get" gT<|pC 11:=by
 show aDV.R qz 11 λz H Q aW e k bo aj cT an c az ai f r aD eA h bw x i b kd w gn A T=>?_
 cases kd with
 |@a7 l ae=>
  show(_,ba (cw<|dT cz.X h g_<|ak (fT (bV cz.K.K<|ao 1) cm)<|ak (cH cz.a2) aF)<|a_<|cw<|eX cz.R (ao 0) h bm<|ak (fT (ow (fT (bV cz.K.K<|ao 1) cm) cm) cm) aF,?_);exists U;let j:=b.X x.K.K;let(gc,V,a0,o,hW):=b.a5 w;let g:=x.a1 i;rw[V]at g;let(z,hz):=x.a9 o;show U (.K f.X,(_,j,aa),_,.K gc,bZ g,aa,.mk hz (λq=>?_) λ_=>T aAK H (aQ aa) x.fin);exists a1;let(m,a5,rfl):=(vi a0).2.2.2 q;let(t,ab,ag):=x.R _ o;obtain⟨⟨cZ,a2,aT,p⟩,v,⟨⟩⟩:=bx.1 ag;let(a3,a4,cb):=x.a6 _ v;show a1 (x.K.X 0,.K f.X,(_,j,aa),_,.K gc,bZ g,aa,_,.K cZ,fb<|x.K.K _ _ ab,aa,_,.K p,bZ<|x.K.a1 (yR (cZ,a2,aT,p))<|eo _<|eo _<|eo _<|cG _<|bx.2 (_,v,aa),aa,.mk bw.K x i (a3,a4,b.R▸bw.R _ b.K _ b.S _ (.b4 hW cb)) A)
section
variable{k:O}{aj:fe->Prop}{cT:ap}{c:ov}{az:#[L×eT]}{ai:py}{f:iU}{r:#[iU]}{n:O}
theorem nB.S{cv:#[O]}{c:vh}{ae b:L}{y:O}{aP:#[N×V]}(d:an ae=Y (hX.K aP))(h:↑aP<=n)(a1:∀z∈cv,z=y∨∃a,fq aP (z:N)=Y (.K a)/\ma aj az (gd z) c a)(a2:ma aj az (gd y) c a)(bg:af b=Y (hX.K<|gS aP (y:N)<|.K a)):nB aj af az (n+1) cv c b:=by
 show(_,bg,?_,λz hz=>?_);.show db (yp aP _ _)<|ut h
 .rw[Pq];by_cases q:z=y;.simp_all
  .rw[be λ(w:(z:N)=(y:N))=>q<|mo w];show(a1 z hz).resolve_left q
end
def ara[ci]:cX (fr aAw aAx) 6 "run_if" gT<|pC 6:=by
 show aDQ.R qz 6 λz H Q aW e k bo aj cT an c az ai f r aD eA w bw x m b kd g gn A o=>?_
 cases kd with
 |@a2 l q a B=>
  show(_,ba (cw<|dT cz.X w g_<|ak (fT (bV cz.K.K<|ao 1) cm)<|ak (cH cz.a0) aF)<|a_<|cw<|eX cz.a3 (ao 0) w g_<|ak (ao 1)<|ak (aip (jm mb (ow (fT (bV cz.K.K<|ao 1) cm) cm) cm) cm cm)<|ak (bV cz.K.a0<|ao 1) aF,?_);exists V;let h:=b.X x.K.K;let(gc,a0,a1,T,hW):=b.a5 g;let p:=x.a1 m;rw[a0]at p;let ax:=bw.R _ b.K _ b.S;let(z,hz):=x.a9 T;show V (.K f.X,(_,h,aa),_,.K gc,bZ p,aa,.mk hz (λq=>?_) λ_=>o aAK H (aQ aa) x.fin);obtain rfl:=(vi a1).1 q;let(i,ab):=x.R _ T;let U:∀j y,(gD<|ni l _ a B)[j]? =Y y->nB aj an az (ai.R+1) (nA e y) (f.R.take k) f.a1:=λj y a2=>(b.a1.K (λ_ _ d=>d) (λ_ d=>d)<|ll _).R λz hz=>(Bq bw.K (kV b.K) a2 hz).resolve_right λq=>q.2;show(x.K.X 0,.K f.X,(_,h,aa),_,.K gc,bZ p,aa,_,.R i,fb<|x.K.K _ _ ab,aa,dH (λ_=>(.K f.a1,(_,h,aa),?_)) λ_=>(.K f.a1,(_,h,aa),?_));.show .mk bw.K x m b aa (λ_ _ _ d=>(by cases d)) (U 1 a aa) (g▸dw) (λa3 v=>by rw[g];show ax _<|.a5 v) A o
  .show .mk bw.K x m b aa (λ_ _ _ d=>(by cases d)) (U 2 B aa) (g▸dw) (λa3 v=>by rw[g];show ax _<|.a6 v) A o
def arb[ci]:cX (fr aAw aAx) 6 "run_new" gT<|pC 10:=by
 show aDU.R qz 10 λz H Q aW e k bo aj cT an c az ai f r aD eA p bw x h b kd w gn A a5=>?_
 cases kd with
 |@a6 l ae=>
  show(_,a_<|cw<|eX cz.R (ao 0) p bm<|ak (es<|ak (cH cz.a2)<|ak (bV cz.K.R<|ao 1)<|ak (eP<|ak (fT (bV cz.K.K<|ao 1) cm) aF) aF) aF,?_);let i:=b.X x.K.K;let(gc,T,U,V,hW):=b.a5 w;let j:=x.a1 h;rw[T]at j;let m:l=f.K:=b.R;let ax:=bw.R _ b.K _ b.S;show(x.K.X 0,.R f.K,(_,i,aa),.K f.X,(_,i,aa),_,.K gc,bZ j,aa,hZ,λt a0=>(hc,λu o=>?_));let y:=x.K.a3 a0<|.K [.K gc];let a1:=y.a5<|uv (l₁:=_::_::_::ai.K.map Bm);let a2:gl e k aj cT an (a' H t<|.K [.K gc]) c az {ai with X:=(t,f.K,f.R.take k,gc)::ai.X}:=(x.S,a1,x.X,λq g=>(x.R q g).K (λ_ _ d=>d) (λ_ d=>d) (λ_ d=>el _ d) dw,λq g=>?_,x.a0,x.a7,x.a2,x.a4,x.a8,x.a3);.let(aH,a6,a3,a4):=a2.a5 (cf o);show .mk bw.K (a3.b0 (v:=le f.K<|f.R.take k) (t,a4 _ _ bG o,(cp _))) h (le f.K<|f.R.take k,(cp _),m▸ax _ .b2) A
  .let z||z:=cc.1 g;.rw[z];show(U,V,m▸ax _ (.b3 hW))
   .show x.a6 q z
section
variable{k:O}{aj:fe->Prop}{cT:ap}{c:ov}{az:#[L×eT]}{ai:py}{f:iU}{r:#[iU]}{n:O}
set_option tactic.hygienic true in
def gl.b5(x:gl e k aj cT an H c az ai){t h a b}(d:(t,m,h,a)>ai.X)(ev:ma aj az (lf m) h b):∃b6,gl e k aj cT an (a' H t<|.K [.K b]) c az b6/\b6.K=ai.K/\b6.R=ai.R/\b6.a0=ai.a0:=by
 let(i,aR):=uu d;let f:(gF c ai)[↑ai.K+i+1+1+1]? =Y (t,bF.K [.K a]):=by
  change(ai.K.map Bm++ai.X.map yR)[↑ai.K+i]? =_;rw[pb<|by rw[aV];show nq _ _,aV,xK,cV,aR];rfl
 let y:=x.K.a0 _ f<|.K [.K b];let aB:(gF c ai).set (↑ai.K+i+1+1+1) (t,bF.K [.K b])=gF c {ai with X:=ai.X.set i (t,m,h,b)}:=by
  change _::_::_::(ai.K.map Bm++ai.X.map yR).set (↑ai.K+i) _=_::_::_::(ai.K.map Bm++(ai.X.set i (t,m,h,b)).map yR);rw[List.set_append_right _ _<|by rw[aV];show nq _ _,aV,xK,ahh];rfl
 rw[aB]at y;let g:Bn {ai with X:=ai.X.set i (t,m,h,b)}=Bn ai:=by
  delta Bn;rw[ahh];show o_ λj=>?_;rw[vV];split;.rename_i q;subst q;rw[aV,bK (ff.1 aR).1,cV,aR];rfl
  .rfl
 show({ai with X:=ai.X.set i (t,m,h,b)},(x.S,y,x.X,g▸x.R,λq l=>?_,x.a0,x.a7,x.a2,x.a4,x.a8,x.a3),aa,aa,aa);let z||z:=ayq l;.show x.a6 q z
 .rwa [z]
end
def Rn(l:O)(s:#[O])(k:O):(l::s.take k).take k=(l::s).take k:=by
 cases k with|zero=>rfl|succ k=>grind
def act:fu ["run","frame","contents"] gT<|dh<|cr 41:=∅
def Gk:fu ["run","frame","function","fun","inner"] gT<|dh<|cr 33:=∅
def arc[ci]:cX (fr aAw aAx) 6 "run_set" gT<|pC 12:=by
 show aDW.R act 12 λz H Q aW e k bo aj cT an c az ai f r aD eA o bw x p b kd a3 gn a4 a5=>?_
 cases kd with
 |@a8 l ae B=>
  show(_,ba (cw<|dT cz.X o g_<|ak (fT (bV cz.K.K<|ao 1) cm)<|ak (cH cz.a2) aF)<|ba (ey 2 act.K<|ow (fT (bV cz.K.K<|ao 1) cm) cm)
  <|ba (Dl (fT (bV cz.K.K<|ao 1) cm)<|Dk (ao 2) cm DA)<|a_<|cw<|eX cz.R (ao 0) o bm<|ak (fT (bV cz.K.K<|ao 1) cm) aF,?_);exists a6;let i:=b.X x.K.K;let(gc,v,w,(a7,A,hW),T,U,cb):=b.a7 a3;let g:=x.a1 p;rw[w]at g;let ax:=bw.R _ b.K _ b.S;let(z,hz):=x.a9 A;show a6 (.K f.X,(_,i,aa),_,.K gc,bZ g,aa,.mk hz (λq=>?_) λ_=>a5 aAK H (aQ aa) x.fin);exists a8;let(m,b8,rfl):=(vi a7).2.2.2 q;let(t,ab,ag):=x.R _ A;obtain⟨⟨cZ,a9,aT,b0⟩,V,⟨⟩⟩:=bx.1 ag;let(b9,h,a0,b1,c0):=x.b5 V (T,U,ax _<|.b6 hW cb);show a8 (.K f.X,(_,i,aa),_,.K gc,bZ g,aa,_,.K cZ,fb<|x.K.K _ _ ab,aa,.K f.X,(_,i,aa),_,.K v,bZ g,aa,cZ,_,0,0,aa,aa,(x.K.a1 (yR (cZ,a9,aT,b0))<|eo _<|eo _<|eo _<|cG _<|bx.2 (_,V,aa)),aa,?_);let a1:=a0.trans p;let a2:=h.a1 a1;rw[w]at a2;show(h.K.X 0,.K f.X,(_,(b.X h.K.K),aa),_,.K v,bZ a2,aa,.mk bw.K h a1 (T,U,b.R▸ax _ (.b5 cb)) λb2 b3 b4 b5 b6 j b7=>a4 b2 b3 b4 b5 b6 ?_ b7);unfold nc at j⊢;rw[a0,b1]at j;show j
def ard[ci]:cX (fr aAw aAx) 6 "run_call" gT<|pC 4:=by
 show aDK.R Gk 4 λz H Q aW e k bo aj cT an c az ai f r aD eA m bw x T b kd U gn b8 a4=>?_
 cases kd with
 |@a0 l ae B=>
  show(_,ba (ey 2 Gk.K<|fT (bV cz.K.K<|ao 1) cm)<|ba (cw<|dT cz.X m g_<|ak (ao 2)<|ak (cH cz.a4) aF)<|ba (cw<|eX cz.a8 (ao 0) m bm<|ak (cH cz.K.a9)<|ak (ao 1)<|ak (ao 2) aF)
  <|ba (ey 3 Gk.K<|ow (ao 2) cm)<|ba (ey 4 Gk.K<|dT cz.a9 m bm<|ak (bV cz.K.R<|ao 1)<|ak (bV cz.K.a1<|ao 1)<|ak (cH cz.a7) aF)
  <|a_<|cw<|eX cz.a5 (ao 0) m g_<|ak (fT (fT (bV (cz.S.K,cz.S.S)<|bV cz.K.S<|ao 0)<|ao 3) cm)<|ak (ao 4)<|ak (dT cz.bind m bm<|ak (ow (ao 2) cm)<|ak (ao 3)<|ak (fT (bV cz.K.K<|ao 1) cm) aF) aF,?_);exists b9;let c0:=b.X x.K.K;let(gc,c1,a5,(c2,a0,hW),c3,c4,cb):=b.a7 U;let a6:=x.a1 T;rw[a5]at a6;let a1:l=f.K:=b.R;let ax:=bw.R _ b.K _ b.S;let(z,hz):=x.a9 a0;show b9 (.K f.X,(_,c0,aa),_,.K gc,bZ a6,aa,.mk hz (λq=>?_) λ_=>a4 aAK H (aQ aa) x.fin);let(g,g2,rfl):=(vi c2).2.1 q;let ee:=Rn l f.R k;let a7:=by
   have:=ax _<|.K hW;rw[ee,a1]at this;show this
  let a8:yT k aj (1,(f.K:N),cu f.R,1,(g:N)):=(f.K,f.R,aa,aa,b.a3,bl (aa,aa,g,aa,a7));let g3:=x.a3;let g4:=x.a4;show(x.K.X 0,.mk x b.a0 b.a2 a0 a8 (by omega) λal aH w y=>?_);exists c5;let o:=x.b1 w a8 1 (kD _) (by omega) y;let(c6,ab,aP,ag,a9,c7):=o.R _ a0;let b0:=b.X<|w.K o.K.K;show c5 (_,.R g,fb<|o.K.K _ _ ab,aa,.R f.K,(_,b0,aa),.K f.a2,(_,b0,aa),f.K,f.a2,3,cu f.R,aa,o.K.K _ _<|w _ _ b.a2,by rw[aV];show kF b.a3 ⋯,λg5 g6 c8 b1=>?_);exists c9;let(g7,b2,h,g8,d0):=o.b4 c8;let d1:((f.K:N)::cu f.R).take 3=cu ((f.K::f.R).take 3):=by
   change Co 3 ((f.K::f.R).map _)=_;rw[<- tb]
  rw[d1]at b1;let a2:((f.K::f.R).take 3).take k=(f.K::f.R).take k:=by rw[ahj,zz<|db bw.a2 ⋯]
  let(b3,j,i):=bw.X hW;let(d2,d3):=x.X;let a3:=((d3.K h.S).K h.K.K);let(d4,d5,d6):=qo a3.a0 (bw.K.a2 i);let d7:=T;let b4:=h.a1 d7;rw[a5]at b4;let d8:=b.X<|(w.K b2).K h.K.K;let b5:=b2.K h.K.K;show c9 (h.K.X 0,.K c.X,h.K.S 0,.K d2.R,(_,a3.R,aa),_,.K d4,bZ a3.X,lU<|by rw[cV];show dP (Option.map V.K) d5,_,.R<|bi j,bZ d6,aa,_,.K c6,fb<|b5 _ _ ab,aa,.K f.X,(_,d8,aa),_,.K c1,bZ b4,aa,
   .mk (b5 _ _ ag) (kF (db a9 x.a2) ⋯) λp g9 d9 e0 e1=>?_);exists e2;let(h0,e3,e4,e5):=h.a5 d9;obtain⟨A,e6,aB⟩:∃A∈gq M e,A.node=fy g b3 j:=by
   let i:=i;rw[<- tG e M]at i;let(A,d,q):=bx.1 i;show(A,d,q)
  let e7:=by
   have:=Gi e6 j (by rw[aB];show ig);rw[aB]at this;show this
  let b6:∀{q v},aj (cP q ((l::f.R.take k).take k) v)->aj (cP q (((f.K::f.R).take 3).take k) v):=λd=>by rw[ee,a1]at d;rw[a2];show d
  show e2<|.mk bw.K e4 (e7,aa,by rw[a2];show a7,e3 _ _<|d0 _ _ b1,ayp _ _,?_,λe8 e9 q=>?_) (λf0 f1 f2 f3 f4 f5 f6=>b8 f0 f1 f2 f3 f4 f5 f6) a4
  .show nB.S ag a9 (λz hz=>?_) (c3,c4,b6<|ax _<|.a1 hW cb)<|e5 _ _ e1 e0;let q||q:=(Gj bw.K i).1 z hz;.show aQ q
   .let(f7,f8,f9,g0,g1):=c7 z q;show bl (f7,f8,f9,g0,b6<|ax _<|.b8 hW (by rw[Bd i];show q) g1)
  .let q:ai.K=e8::e9:=q;rw[T]at q;cases q;show((iq l ae B,eA),b.K,b.R,by rw[U];show kD _,λh1 b7=>?_);rw[U];show ax _<|.a2 (B:=j) hW ?_ ?_;.change j>oQ e g;delta oQ;rw[show sP e g=Y (fy g b3 j)from bw.K.a1 i];show ig
   .rw[ee,a1];rw[a2]at b7;show b7
def are(e x:aW):∃i,kW e x i:=by
 cases x with
 |var l x=>
  cases q:eV e l with|none=>show(1,.R q)|some B=>show(2,.S q)
 |num=>show(_,.K)
 |fn=>show(_,.X)
 |app=>show(_,.a0)
 |letE=>show(_,.a1)
 |ifz=>show(_,.a2)
 |pair=>show(_,.a3)
 |fst=>show(_,.a4)
 |snd=>show(_,.a5)
 |new=>show(_,.a6)
 |get=>show(_,.a7)
 |set=>show(_,.a8)
 |add=>show(_,.a9)
def arf(x:aW):pA x<=↑(gD x):=by cases x<;>show oe aa
structure arh:Prop where
 K:∃a aj,aAy "PARTS_AHEAD"=Y (I a)/\mv aAv a aj/\∀e x,jv (gW e x) aj=Y (.R<|pA x)
 R:∃a aj,aAy "KINDS"=Y (I a)/\mv aAv a aj/\∀e x i,kW e x i->∃f,jv (gW e x) aj=Y (.K f)/\ly aAw aAx aAv aAy aAB (fr aAw aAx) 6 f gT (pC i)
inductive acu:cq
 |mk{a3 b a8 h a4 a9 a5 a1 b0 a2 a6 a7}:
  iC a3 b a8 h->gl a3 b h a4 a9 a5 a1 b0 a2->a2.K≠[]->a2.a0=0->rj a3 b h a4 a1 a2 a6->yV b h a4 a1 a7->acu [.K a1.K] a5 a6 a7
def Br:fu ["run","frame","kind","ahead","run_kind"] ["run"]<|dh<|cr 45:=∅
variable{l:#[E×E]} in
def ari(av:tx "KINDS" l)(d:∀e x i,kW e x i->∃ga,(gW e x,ga)>l/\cX (fr aAw aAx) 6 ga gT (pC i)):∃a aj,aAy "KINDS"=Y (I a)/\mv aAv a aj/\∀e x i,kW e x i->∃f,jv (gW e x) aj=Y (.K f)/\ly aAw aAx aAv aAy aAB (fr aAw aAx) 6 f gT (pC i):=by
 let(a,aj,ab,ag,b):=av.K;show(a,aj,ab,ag,λe x i q=>?_);let(ga,g,h):=d e x i q;show b _ ga g h
def acv[ci]:arh:=(aBQ.imp λa d=>(P_,d.1,d.2,(λe x=>by
  cases x with
  |var l n=>
   change jv (if(eV e l).isSome then("name":E)else "in") P_=_;split<;>rfl
  |_=>rfl)),ari aBP λe x i d=>by
 cases d with
 |K=>show("run_number",(⋯:(("number":Str),("run_number":Str))>pr),aqV)
 |R q=>show("run_in",by rw[show gW e _="in" by change(if _ then _ else _)=_;rw[q];rfl];decide,(by
   show aDF.R qz 1 λz H Q aW e k bo aj cT an c az ai f r aD eA g bw x o b kd A gn w V=>?_
   cases kd with
   |@R l y a1=>
    show(_,a_<|cw<|eX cz.R (ao 0) g bm<|ak (es<|ak (cH cz.a0)<|ak cm<|ak (bV cz.K.a6<|ao 0) aF) aF,(x.K.X 0,.R c.a1,x.K.S 0,hc,λt a2=>?_));let(al,a8,a3,a4):=x.a5 (cf a2);show .mk bw.K (a3.b0 (v:=hg) (c.a1,a4 _ _ bG a2)) o (hg,(cp _),b.R▸bw.R _ b.K _ b.S _ (.S a1)) w))
 |S q=>show("run_name",by rw[show gW e _="name" by change(if _ then _ else _)=_;rw[q];rfl];decide,(by
   show aDG.R qz 2 λz H Q aW e k bo aj cT an c az ai f r aD eA g bw x o b kd A gn w V=>?_
   cases kd with
   |@S l B y a1=>
    show(_,a_<|cw<|eX cz.R (ao 0) g bm<|ak (yq (lw g) (bV cz.K.a0<|ao 1) (fT (bV (cz.S.K,cz.S.X)<|bV cz.K.S<|ao 0)<|bV cz.K.R<|ao 1)<|λ_ _=>rfl) aF,?_);exists U;let(ax,b8):=x.X;let b4:=(b8.K x.S).K x.K.K;let h:=b.X x.K.K;let b9:(dr e).a4[f.K]? =Y (Y (B:N)):=by
     rw[<- b.R,bw.K.b4<|kV b.K];show dP (λz:bs O=>Y<|z.map λB:O=>(B:N)) a1
    let c0:=λq=>by
     let ab:=acs bw.K (kV b.K) a1;show ab q
    let(aP,ab,_,a9):=b.a1;let(a,c1,b5,c2,c3):=a9 B (ww.2 ((l,(cp _),a1),by change B∉[l];simpa using c0));show U (x.K.X 0,.K f.a1,(_,h,aa),.K c.X,x.K.S 0,.K ax.S,(_,b4.R,aa),.R f.K,(_,h,aa),_,.R B,bZ b4.a2,lU<|by rw[cV,b9];rfl,f.a1,.K a,aa,c1▸hX.S (x.K.K _ _ ab) aa,
     .mk bw.K x o (b5,c2,b.R▸bw.R _ b.K _ b.S _ (.X a1 c3)) w)))
 |X=>show("run_fun",(⋯:(("fun":Str),("run_fun":Str))>pr),(by
   show aDH.R qz 3 λz H Q aW e k bo aj cT an c az ai f r aD eA g bw x o b kd A gn w V=>?_
   cases kd with
   |@X l y B=>
    show(_,a_<|cw<|eX cz.R (ao 0) g bm<|ak (es<|ak (cH cz.a4)<|ak (bV cz.K.R<|ao 1)<|ak (bV cz.K.a0<|ao 1) aF) aF,?_);let h:=b.X x.K.K;show(x.K.X 0,.R f.K,(_,h,aa),.K f.a1,(_,h,aa),hc,λt a2=>?_);exists U;let(al,a8,a3,a4):=x.a5 (cf a2);let a5:l=f.K:=b.R;show U<|.mk bw.K (a3.b0 (v:=kh f.K<|f.R.take k) (f.a1,a4 _ _ bG a2,?_)) o (kh f.K<|f.R.take k,(cp _),?_) w;.show(b.a1.K a8 (λq c4=>el _ c4) dw).R ?_;rw[<- a5];show(Gj bw.K<|kV b.K).2
    .rw[<- a5];show bw.R _ b.K _ b.S _ .a0))
 |a0=>show("run_call",(⋯:(("call":Str),("run_call":Str))>pr),ard)
 |a1=>show("run_let",(⋯:(("let":Str),("run_let":Str))>pr),(by
   show aDP.R qz 5 λz H Q aW e k bo aj cT an c az ai f r aD eA g bw x o b kd A gn w V=>?_
   cases kd with
   |@a1 l y ae B=>
    show(_,a_<|cw<|eX cz.a3 (ao 0) g g_<|ak (ao 1)<|ak cm<|ak (dT cz.bind g bm<|ak (bV cz.K.a0<|ao 1)<|ak (bV cz.K.R<|ao 1)<|ak (fT (bV cz.K.K<|ao 1) cm) aF) aF,?_);exists U;let h:=b.X x.K.K;let(gc,a6,a7,a0,hW):=b.a5 A;let T:=x.a1 o;rw[a6]at T;let a5:=b.R;let ax:=bw.R _ b.K _ b.S;let(aP,ab,ag,a9):=b.a1;show U (x.K.X 0,.K f.a1,(_,h,aa),.R f.K,(_,h,aa),.K f.X,(_,h,aa),_,.K gc,bZ T,aa,.mk (x.K.K _ _ ab) (kF (db ag x.a2) ⋯) λp af b0 c5 c6=>?_);let(al,a8,a3,a4):=x.a5 b0;show .mk bw.K a3 o (b.a6 a8 (λ_ d=>d) dw) aa (λ_ _ _ d=>(by cases d)) ?_ (A▸dw) (λb5 c7=>?_) w V
    .show nB.S ab ag (λz hz=>?_) (a7,a0,a5▸ax _ (.a3 hW))<|a4 _ _ c6 c5;let q||q:=Bq (j:=1) bw.K (kV b.K) aa hz;.show bl<|a9 z q
     .show aQ<|q.1.trans a5
    .rw[A];show ax _<|.a4 c7))
 |a2=>show("run_if",(⋯:(("if":Str),("run_if":Str))>pr),ara)
 |a3=>show("run_pair",(⋯:(("pair":Str),("run_pair":Str))>pr),aqW)
 |a4=>show("run_fst",(⋯:(("fst":Str),("run_fst":Str))>pr),(by
   show aDS.R qz 8 λz H Q aW e k bo aj cT an c az ai f r aD eA g bw x o b kd A gn w V=>?_
   cases kd with
   |@a4 l ae=>
    show(_,ba (cw<|dT cz.X g g_<|ak (fT (bV cz.K.K<|ao 1) cm)<|ak (cH cz.a1) aF)<|a_<|cw<|eX cz.R (ao 0) g bm<|ak (ow (ow (fT (bV cz.K.K<|ao 1) cm) cm) cm) aF,?_);exists U;let h:=b.X x.K.K;let(gc,a6,a7,a0,hW):=b.a5 A;let T:=x.a1 o;rw[a6]at T;let(z,hz):=x.a9 a0;show U (.K f.X,(_,h,aa),_,.K gc,bZ T,aa,.mk hz (λq=>?_) λ_=>V aAK H (aQ aa) x.fin);exists b1;let(m,b0,rfl):=(vi a7).2.2.1 q;let(t,b6,b7,ab,ag,(b2,b3,cb),_):=x.R _ a0;show b1 (x.K.X 0,.K f.X,(_,h,aa),_,.K gc,bZ T,aa,_,.K t,fb<|x.K.K _ _ ab,aa,_,.K b6,fb<|x.K.K _ _ ag,aa,.mk bw.K x o (b2,b3,b.R▸bw.R _ b.K _ b.S _ (.b0 hW cb)) w)))
 |a5=>show("run_snd",(⋯:(("snd":Str),("run_snd":Str))>pr),(by
   show aDT.R qz 9 λz H Q aW e k bo aj cT an c az ai f r aD eA g bw x o b kd A gn w V=>?_
   cases kd with
   |@a5 l ae=>
    show(_,ba (cw<|dT cz.X g g_<|ak (fT (bV cz.K.K<|ao 1) cm)<|ak (cH cz.a1) aF)<|a_<|cw<|eX cz.R (ao 0) g bm<|ak (ow (ow (fT (bV cz.K.K<|ao 1) cm) cm) cm) aF,?_);exists U;let h:=b.X x.K.K;let(gc,a6,a7,a0,hW):=b.a5 A;let T:=x.a1 o;rw[a6]at T;let(z,hz):=x.a9 a0;show U (.K f.X,(_,h,aa),_,.K gc,bZ T,aa,.mk hz (λq=>?_) λ_=>V aAK H (aQ aa) x.fin);exists b1;let(m,b0,rfl):=(vi a7).2.2.1 q;let(t,b6,b7,ab,ag,_,(b2,b3,cb)):=x.R _ a0;show b1 (x.K.X 0,.K f.X,(_,h,aa),_,.K gc,bZ T,aa,_,.K t,fb<|x.K.K _ _ ab,aa,_,.K b7,fb<|x.K.K _ _ ag,aa,.mk bw.K x o (b2,b3,b.R▸bw.R _ b.K _ b.S _ (.b1 hW cb)) w)))
 |a6=>show("run_new",(⋯:(("new":Str),("run_new":Str))>pr),arb)
 |a7=>show("run_get",(⋯:(("get":Str),("run_get":Str))>pr),aqZ)
 |a8=>show("run_set",(⋯:(("set":Str),("run_set":Str))>pr),arc)
 |a9=>show("run_add",(⋯:(("add":Str),("run_add":Str))>pr),aqX))
def arj[ci]:cX (fr aAw aAx) 7 "go_on" ["run"] acu:=by
 show aDZ.S _ (ai:=Br) λz H vs Q aW m d _=>?_
 induction d with
 |@mk e k bo aj cT an H c az ai _ _ bw x a4 gn o w=>
  exists a5;let(a6,a7,a8,a9,b0):=acv.K;let(b1,b2,b3,b4,b5):=acv.R;show a5 (_,ba (ey 1 Br.K<|fT (bV cz.K.X<|ao 0)<|Dm Dn cm)<|ba (ey 2 Br.K<|fT (bV (cz.S.K,cz.S.R)<|bV cz.K.S<|ao 0)<|bV cz.K.R<|ao 1)<|ba (ey 3 Br.K<|AD (tv a8) (ao 2)<|λ_ _=>rfl)
  <|a_<|dF (jm KH (na aAV<|bV cz.K.K<|ao 1)<|ao 3) (a_<|cw<|eX cz.a3 (ao 0) m g_<|ak (ao 1)<|ak (na aAV<|bV cz.K.K<|ao 1)<|ak (bV cz.K.a0<|ao 1) aF)
   <|a_<|dF (jm mb (na aAV<|bV cz.K.K<|ao 1)<|ao 3) (ba (ey 4 Br.K<|AD (tv b3) (ao 2)<|λ_ _=>rfl)<|a_<|cw<|PK (i:=4) aa (aQ aa) g_<|ak (ao 0)<|ak (ao 1) aF)
    <|a_<|cw<|eX cz.R (ao 0) m bm<|ak (fT (bV cz.K.K<|ao 1)<|ao 3) aF,?_)
  obtain⟨f,r,h⟩:∃f r,ai.K=f::r:=by
   cases q:ai.K with|nil=>show bB q a4|cons f r=>show(f,r,aa)
  let((aD,eA),b):=(show pB e k aj an az ai.R (f::r) by rw[<- h];show x.a0).a0.1;let b6:ai.K.reverse.map (λf=>V.K f.a0)=r.reverse.map (λf=>V.K f.a0)++[.K f.a0]:=by rw[h,uw,cs];rfl
  let A:=x.K.R 1 aa;rw[b6]at A;let l:=x.a1 h;let j:=b.X x.K.K;let(ax,b7):=x.X;let T:=(b7.K x.S).K x.K.K;let U:=bw.K.a9<|kV b.K;rw[b.R]at U;show(.K c.R,x.K.S 0,1,aa,_,.K f.a0,bZ A,Dz _ _,.K c.X,x.K.S 0,.K ax.K,(_,T.R,aa),.R f.K,(_,j,aa),_,.S<|gW e aD,bZ T.S,lU<|by rw[cV,U];rfl,
   a6,a7,gW e aD,.R<|pA aD,aa,aa,a9,b0 e aD,.K f.X,(_,j,aa),_,bZ l,?_);rw[aV];show dH (λab=>?_) λab=>?_
  .let ab:=xP.1<|eH ab;obtain⟨y,p⟩:∃y,(gD aD)[↑f.S]? =Y y:=(_,gi<|ia ab<|arf aD);let a0:∀g x z,aD≠fy g x z:=λg x z q=>by subst q;show bB ab<|ays _
   let co:¬Bp aD ↑f.S:=λq=>by
    cases aD<;>first|show q|skip
    .show a0 _ _ _ aa
    .rw[q]at ab;show bB ab<|q_ 1
   show(x.K.X 0,.K f.X,(_,j,aa),_,bZ l,.K f.a1,(_,j,aa),?_);rw[aV];show .mk bw.K x h b p a0 ((b.a1.K (λ_ _ d=>d) (λ_ d=>d)<|ll _).R λz hz=>(Bq bw.K (kV b.K) p hz).resolve_right λq=>co q.2) (sT ab) (λa1 a2=>?_) o w;delta su;rwa [bK ab,List.getD_eq_getElem?_getD,cV,p]
  .show(.K f.X,(_,j,aa),_,bZ l,?_);rw[aV];show dH (λag=>?_) λag=>?_;.let ag:=eH ag;let(i,kd):=are e aD;let(g,b8,(dv,b9,c0),c1):=b5 e aD i kd;show(b1,b2,gW e aD,.K g,aa,aa,b4,b8,g,_,aa,((6,dv,_,b9,m,c0),c1),.mk bw x h b kd (mo ag) gn o w)
   .obtain⟨a,a3⟩:∃a,f.S[pA aD]? =Y a:=(_,gi<|by lia);let(a1,a2,v):=b.a4 _ a a3;show(x.K.X 0,.K f.X,(_,j,aa),_,.K a,bZ l,lU<|by rw[cV,a3];rfl,.mk bw.K x h (a1,a2,?_) o);delta su at v;rw[be<|q_ _]at v;show b.R▸v
noncomputable def Ro:py:=(0,[],[],[],0)
inductive acw:cq|mk{a1 b h}{p:L}{g:N}{a2 a3}:a1 b=M->a1 h=M->h≠b->(∀af aC A,df a1 af (gF (b,h,p,aC,A,g) Ro)->a2 .a0 af)->acw [.K b,.K p,.R g] (a' (a' a1 h<|.a2 b) b<|.S aAF h []) a2 a3
inductive Rp:cq|mk{a1 a2 a6 a3 h a4 b a5 a7}:iC a1 a2 a6 a3->lZ h b.X (dr a1)->df h a4 (gF b Ro)->(∀i af,Gf a2 a3 h af b->a5 (.R i) af)->Rp [.K b.K] a4 a5 a7
def ark:fu ["self","program","given"] ["self","program","given"]<|dh<|sj 0:=∅
def arl(d:y>nA e e):fC:=by
 let((l,_,b),f):=ww.1 d;delta eV at b
 cases q:(ho e).find? λz=>z.1==l with
 |none=>simp_all
 |some z=>
  rw[q]at b;let(g,h):=z;subst b;show(FT e [] g y<|qd q).elim (λw=>(by cases w)) f
def arm[ci]:qt bH 1 aAF "Run" ["self","program","given"] acw:=by
 show aCQ.K _ (ai:=ark) λz H vs Q au o d _=>?_
 induction d with
 |@mk H x aG p g Q _ ab ag i j=>
  show(_,ba (ib aAU.S (ao 0)<|ao 1)<|ba (ib aAU.a6 (ao 0)<|ao 2)<|ba (ib aAU.a4 (ao 0) cm)<|ba (ib aAU.X (ao 0)<|eP aF)<|a_<|ib aAU.a5 (ao 0) pl,?_);let y:=df.a6 (ar:=aAF) ab ag i;let b:=y.a0 0 aa<|.S aAF aG [("program",.K p)];let e:=b.a0 0 aa<|.S aAF aG [("program",.K p),("given",.R g)];show(aG,_,y.R 0 aa,(⋯:0<1000),aG,_,b.R 0 aa,(⋯:1<1000),aG,_,e.R 0 aa,(⋯:2<1000),kT,λaC l=>?_);let f:=(e.a0 0 aa<|.S aAF aG [("program",.K p),("given",.R g),("steps",.R 0)]).a3 l<|.K [];show(aG,_,f.R 1 aa,(⋯:3<1000),λav m=>?_);let h:=(f.a0 1 aa<|.S aAF aG [("program",.K p),("given",.R g),("steps",.R 0),("frames",.K aC)]).a3 m<|.X [];show(aG,_,h.R 2 aa,(⋯:4<1000),j _ aC av<|(h.a0 2 aa<|.S aAF aG<|Ge (x,aG,p,aC,av,g) 0).a5<|(vC _ _ _).trans (List.Perm.trans (HB _<|vC _ _ _)<|vC _ _ _)|>.symm.symm)
set_option tactic.hygienic true in
def arn[ci]:cX bH 8 "finish" ["run"] Rp:=by
 show aFa.K ["run"] λz H vs Q aW p d aD=>?_
 induction d with
 |@mk e k bo aj cT H c Q _ bw a1 aw g=>
  let v:∀h i j l a2 a3 a4 a5,tr (iy bH ["run"] "finish" (dh<|cr 46) z H aW).b1 [Tk (Y<|ge "WrongRun" h) M [Hi (Y<|ge "WRONG" i) j] l,Tk (Y<|ge "LongRun" a2) M [Hi (Y<|ge "LONG" a3) a4] a5] [(aAK,r_<|gA<|.R 1),(cL,r_<|gA<|.R 2)]:=
   λ_ _ _ _ _ _ _ _=>.K aa cz.K.a2.1 cz.K.a2.2 ⋯ (λ_=>a_<|cy<|cH aBv)<|.K aa cz.K.a3.1 cz.K.a3.2 ⋯ (λ_=>a_<|cy<|cH aBw) .R;let a6:∀am b aw a7 eG,kj (bW.b3 (iy bH ["run"] "finish" (dh<|cr 46) z H aW).b1 am b aw) (hU (ge "run" a7) "frames" eG) (λD H Q=>m' aAF "frames" (fH 0) D H λx af=>∃k,Dq aAv x af k/\Q k af):=λ_ _ _ _ _=>uG (bV cz.K.X<|ao 0)<|λ_=>rfl;show(_,ba (Xa λam b=>(by show ba (cw<|eX cz.a5 (ao 0) p (PH (v _ _ _ _ _ _ _ _) aa aa)<|ak cm<|ak (es aF)<|ak yr aF)<|a_<|x_ PassesOwn.looking (a6 _ _ _ _ _)<|a_<|cw<|dT arj p (PH (v _ _ _ _ _ _ _ _) aa aa)<|ak (ao 0) aF))<|a_<|cy<|cH aBu,?_)
  let A:∀{b},b.R=Q->yV k aj cT c (W' 1 b [(aAK,r_<|gA<|.R 1),(cL,r_<|gA<|.R 2)]):=λT Z af a8 fin=>by
   show(Z,aa,?_);unfold ts;split;.change gQ.R _ _ _;rw[T];show g 1 af fin
   .dsimp only[ts];split;.change gQ.R _ _ _;rw[T];show g 2 af fin
    .rename_i a9 b0;show(a8.elim a9 b0).elim
  let bU:∀{α q Z},q>([]:#[α])->Z:=λd=>nomatch d;let gn:gl e k aj cT cT H c [] Ro:=(λ_ _ d=>d,aw,a1,λq d=>bU d,λq d=>bU d,.S,λq d=>bU d,ex _,(⋯:0+2*(2*(300 - 0)+0)<=2000+0),ex _,ex _);show(aw.X 0,kT,λt U ae V=>?_);exists b1;let(al,d3,b2,b3):=gn.a5 (cf U);let(aH,b4,b5,b6):=b2.a5 (cf (o:=.a1 []) V);let b7:bi e=0:=bw.K.a4 (by cases e<;>rfl);show b1<|.mk (w:=(e,M)) bw.K b5 (by cases e<;>show ig,b7,by change[].take k=[];rw[ahk],b4 _ _<|b3 _ _ bG U,ex _,([],b6 _ _ bG V,ex _,λy b8=>(arl b8).elim),λ_ _ q=>nomatch q) (λen d4 d5 d6 b9 _ c0=>(λm D af=>D=[Y<|.K c.K]/\∃an az ai,gl e k aj cT an af c az ai/\ai.a0=0/\m=nc ai,(_,aa,_,_,_,b9,c0,aa),?_))<|A aa;rintro m D c1 ⟨rfl,d7,d8,c2,f,c3,rfl⟩;show(.K c.R,f.K.S 0,_,aQ (_,bZ<|f.K.R 1 aa,aa),dH (λa0=>(λaU af=>aU=[Y<|.K c.K]/\∃an az ai,gl e k aj cT an af c az ai/\ai.a0=0/\nc ai<nc c2,λaU af z=>by let(h,i,j,l,c4,c5,c6):=z;show(_,c6,h,i,j,l,c4,c5,aa),?_)) λ_=>g 0 c1 f.fin);show .mk bw f (λq=>?_) c3 (λc7 d9 c8 c9 d0 d1 d2=>(aa,c7,c8,c9,d0,d2,d1))<|A aa;rw[q]at a0;cases a0
inductive acx:cq
 |mk{cT H:ap}{t:L}{T:cn}{av:dV}{k:O}{aj:fe->Prop}{c:ov}{Q:ca}{au:fQ}:nz cT t T av->T.a2=k->Gf k aj cT H c->(∀f,aj f->qy T f)->↑T.K<ch->(∀f,↑(dG T.R f)<2∨∀u∈dG T.R f,u≠[])->
  (∀af,bA cT af->Q .a0 af)->acx [.K t,.K c.K] H Q au
def aro{l w s}(d:eK H q<|pz (h,l,s,w,a1)):∃b p,H q=Y (.R [.R h,.R l,.K b,.K p])/\hl H b s/\hl H p [w,a1]:=by
 let(vs,ab,r):=d
 cases r with
 |cons e r=>
  cases r with
  |cons f r=>
   cases r with
   |cons g r=>
    cases r with
    |cons i r=>
     exists j;cases r;cases e;cases f;let(b,rfl,ag):=g;let(p,rfl,m):=i;rw[dX]at ag;show j (b,p,ab,ag,m)
def arp(t:L)(c:ov)(an:ap)(b:#[N×N×#[N]×N×N])(ei:hn)(i:O)(D:ck)(af:ap):Prop:=(∃e f g h j,D=[Y<|.K t,Y<|.K c.K,e,f,g,h,j])/\bA an af/\af c.S=Y (.a0 ei<|.X<|b.map λq=>(pz q,V.X J))
def arq[ci]:cX bH 6 "find_missing" ["table","run"] acx:=by
 show aDA.K ["table","run","event","label","string","value","found"] λz H vs Q au a5 d aD=>?_
 induction d with
 |@mk cT H t T av k aj c _ _ b6 a6 fin sub b7 b8 b9=>
  show(_,ba (Ps<|jA jg aa (Pz<|bV aAU.a5<|ao 1) (tg aa<|kk (fB (i:=2) aD aa<|aQ aa)<|kk (fB (i:=3) aD aa<|aQ aa)<|kk (fB (i:=4) aD aa<|aQ aa)<|kk (fB (i:=5) aD aa<|aQ aa) tf)
  <|ba (dF (jm mb (ao 2)<|cH aAU.a7) (a_<|ey 6 aD<|dT apU a5 bm<|ak (ao 0)<|ak (ao 3)<|ak (ao 4)<|ak (ao 5) aF)<|a_<|ey 6 aD<|dT apS a5 bm<|ak (ao 0)<|ak (ao 3)<|ak (ao 4)<|ak (ao 5) aF)
   <|a_<|dF (nt<|ik<|ao 6) (a_<|cy<|ao 3) d_)<|a_<|cy uC,?_);let(an,n,a2,a7,aw,c0,bw):=fin;show(c.S,.X<|a2.map λq=>(pz q,V.X J),aw.R 1 aa,ahd,λei=>?_);let a8:=aw.a0 1 aa<|.a0 ei<|.X<|a2.map λq=>(pz q,V.X J);show(.K c.S,a8.S 0,c.S,ei,aa,bl (_,bG,Ql (arp t c an a2 ei) ((_,_,_,_,_,aa),a8.K,bG) (λi D af d=>d.2.2) (λi c5 c6 q D af a9 c1 d=>?_)<|λD af d=>?_))
  .exists c2;let((c7,c8,c9,d0,d1,rfl),w,a0):=d;rw[cV]at a9;let((d2,l,st,a1,v),c3,aB):=e_.1 a9;injection aB with aB d3;subst aB;let(b0,p,ab,ag,b1):=aro c1;let(h,e,a3,a4,c4,b2):=c0 _ (gs c3);let a3:=a3;let a4:st=cu e:=a4;subst a3 a4;let b3:=b6.K<|a7.K w;let d4:∀{B:dq}{aH:ap}{b4:Prop},B=J->(B=J->b4)->b4:=λd f=>f d;show c2 (q,_,aa,fb ab,aa,_,_,aa,_,_,aa,_,_,aa,_,_,aa,aa,dH (λj=>?_) λj=>?_)
   .let j:=eH j;show(t,b0,p,T,av,k,h,cu e,[a1,v],aa,b3,a6,ag,b1,b7,λaH A=>?_);have:bp ([a1,v]>(dG T.K (0,(h:N),(cu e).take k)).map λx=>[x.1,x.2.1])=J:=by
     let (_,z,ae,b,m)||(b,_):=b2;.let b:a1=(di z).1:=b;let m:v=(di z).2.1:=m;have:=sub _ ae;let this:=this;show hp<|bx.2 (di z,iB.2 ?_,by rw[b,m]);rw[(tb ..).symm];show this
     .show bB (j.symm.trans b) ⋯
    show dH (λU=>?_) λ_=>((_,_,_,_,_,aa),w.K A,A _ _ a0);rw[this]at U;cases U
   .let j:=hj j;let (b,_)||(_,b,g,m,ae):=b2;.show bB b j
    .let b:=b;let m:v=(g:N):=m;show(t,b0,p,T,av,k,h,a1,v,cu e,aa,b3,a6,ag,by rw[aV];show kF c4 ⋯,b1,b8 _,λaH A=>?_);have:bp (((h:N)::cu e).take k>dG T.R v)=J:=by
      let this:=sub _ ae;show hp<|iB.2 ?_;rw[m,show((h:N)::cu e).take k=cu ((h::e).take k)from(tb (l:=h::e)).symm];show this
     show dH (λU=>?_) λ_=>((_,_,_,_,_,aa),w.K A,A _ _ a0);rw[this]at U;cases U
  .let(_,w,a0):=d;show(a0,b9 _ λB o q=>?_);let b5:=a7 _ _ q;rw[bS λz=>by have:=aw.a2 (c.S,_)<|el _ ig;rw[<- z,b5]at this;cases this];show w _ _ b5
abbrev Rq:=#[lb×O]
def Gl(az:#[eT]):vD->eT->Prop|.num _,a=>a=hg|.clo i,a=>az[i]? =Y a/\∃l c,a=kh l c|.pair i,a=>az[i]? =Y a/\∃l c,a=kx l c|.ref i,a=>az[i]? =Y a/\∃l c,a=le l c
noncomputable def vj(s:Rq)(x:lb):bs O:=(s.find? λz=>z.1==x).map λz=>z.2
section
variable(e:aW)(k:O)(aj:fe->Prop)
def pD(az:#[eT])(p:jb)(c:fh)(v:vD):Prop:=∃a,Gl az v a/\aj (cP p c a)
structure rp(az:#[eT])(c:fh)(s:Rq)(x:aW)(dp:ayt):Prop where
 K:∀p∈gZ s x,p>ho e
 R:∀z,vj s z=M->∃n,HC dp z=.num n
 S:∀z B,vj s z=Y B->B>nA e x->pD aj az (gd B) c (HC dp z)
 X:∀z B,vj s z=Y B->B<bi x
def wx(az:#[eT])(o:ahl):eT->Prop|hg=>fC|kh l c=>∃dp y B s,o=.clo l dp/\fy l y B>bR e/\rp e aj az c s (fy l y B) dp|kx l c=>∃v w,o=.pair l v w/\pD aj az (nQ l) c v/\pD aj az (nR l) c w|le l c=>∃v,o=.ref l v/\pD aj az (lf l) c v
structure Gm(m:rH):Prop where
 K:∀x∈m.flows,∃a,aj (cP (cg x.label) (x.ctx.take k) a)/\rK a=x.abs
 R:∀x∈m.calls,aj (lc x.fn<|(x.site::x.ctx).take k)
structure oy(az:#[eT])(m:rH):Prop where
 R:↑az=↑m.heap
 S:∀(i:O) o a,m.heap[i]? =Y o->az[i]? =Y a->wx e aj az o a
 K:Gm k aj m
def gG(az:#[eT])(l:O)(c:fh):Out->Prop|.ok v m=>∃r,oy e k aj (az++r) m/\pD aj (az++r) (cg l) c v|.wrong _ m=>Gm k aj m|.long m=>Gm k aj m
end
section
variable{k:O}{aj:fe->Prop}{az:#[eT]}
def Rr{r:#[eT]}{i:O}{a:eT}(d:az[i]? =Y a):(az++r)[i]? =Y a:=(oc (ff.1 d).1)▸d
theorem pD.K{p:jb}{c:fh}{v:vD}(d:pD aj az p c v)(r:#[eT]):pD aj (az++r) p c v:=by
 let(a,d,ae):=d;show(a,?_,ae)
 cases v with|num n=>show d|clo i=>show(Rr d.1,d.2)|pair i=>show(Rr d.1,d.2)|ref i=>show(Rr d.1,d.2)
theorem rp.a0{c s x dp}(d:rp e aj az c s x dp)(r:#[eT]):rp e aj (az++r) c s x dp:=(d.K,d.R,λz B f n=>(d.S z B f n).K r,d.X)
theorem wx.K{o a}(d:wx e aj az o a)(r:#[eT]):wx e aj (az++r) o a:=by
 cases a with|num=>show d|fn l c=>let(v,y,B,s,ab,ag,b):=d;show(v,y,B,s,ab,ag,b.a0 r)|pair l c=>let(v,w,ab,ag,b):=d;show(v,w,ab,ag.K r,b.K r)|ref l c=>show d.imp λ_ d=>(d.1,d.2.K r)
theorem gG.R{l h:O}{c a1:fh}{o:Out}{f:vD->rH->Out}(d:gG e k aj az h a1 o)(n:∀r v m,oy e k aj (az++r) m->pD aj (az++r) (cg h) a1 v->gG e k aj (az++r) l c (f v m)):gG e k aj az l c<|andThen o f:=by
 cases o with
 |ok v m=>
  let(r,ab,ag):=d;let b:=n r v m ab ag;change gG e k aj az l c<|f v m
  cases q:f v m with
  |ok x g=>
   rw[q]at b;let(p,i,j):=b;rw[fi]at i j;show(r++p,i,j)
  |wrong w g=>rw[q]at b;show b
  |long g=>rw[q]at b;show b
 |wrong w m=>show d
 |long m=>show d
def acy{A:Type}[BEq A]{l:#[A]}{x y:A}(d:y>addTo l x):y>l∨y=x:=by
 delta addTo at d;grind
def arr{m:rH}(d:oy e k aj az m){v:vD}{a:eT}(t:Gl az v a):rK a=absOf m.heap v:=by
 let b:∀{i:O},az[i]? =Y a->∃o,m.heap[i]? =Y o/\wx e aj az o a:=λ{i} q=>by
  let aR:i<↑m.heap:=by rw[<- d.R];show(ff.1 q).1
  show(_,gi aR,d.S i _ a (gi aR) q)
 cases v with
 |num n=>rw[t];rfl
 |clo i=>
  let(t,l,c,rfl):=t;let(o,q,_,_,_,_,rfl,_):=b t;change nV l=nV (((m.heap[i]?).map _).getD 0);rw[q];rfl
 |pair i=>
  let(t,l,c,rfl):=t;let(o,q,_,_,rfl,_):=b t;change uh l=uh (((m.heap[i]?).map _).getD 0);rw[q];rfl
 |ref i=>
  let(t,l,c,rfl):=t;let(o,q,_,rfl,_):=b t;change ui l=ui (((m.heap[i]?).map _).getD 0);rw[q];rfl
theorem gG.K{m:rH}(d:oy e k aj az m){l:O}{b:fh}{v:vD}(t:pD aj az (cg l) (b.take k) v):gG e k aj az l (b.take k)<|gives l b v m:=by
 show([],?_,t.K []);rw[e'];show(d.R,d.S,λx f=>?_,d.K.R);let q||q:=acy f;.show d.K.K x q
 .subst q;let(a,ab,ag):=t;show(a,ag,arr d ab)
theorem oy.X{m:rH}(d:oy e k aj az m){o:ahl}{a:eT}(h:wx e aj (az++[a]) o a):oy e k aj (az++[a]) {m with heap:=m.heap++[o]}:=by
 show(by rw[cW,cW,d.R];rfl,λi c' g b f=>?_,d.K.K,d.K.R);by_cases aR:i<↑m.heap;.rw[oc aR]at b;rw[oc<|d.R▸aR]at f;show(d.S i c' g b f).K _
 .obtain rfl:i=↑m.heap:=by
   have:=(ff.1 b).1;rw[cW]at this;have:i<↑m.heap+1:=this;lia
  rw[pb dw,xH]at b;rw[<- d.R,pb dw,xH]at f;cases b;cases f;show h
theorem gG.S{m:rH}(d:oy e k aj az m){l:O}{b:fh}{o:ahl}{g:O->vD}{a:eT}(h:wx e aj (az++[a]) o a)(a1:Gl (az++[a]) (g ↑m.heap) a)(ae:aj<|cP (cg l) (b.take k) a):gG e k aj az l (b.take k)<|made l b o g m:=by
 let(r,ag,f):=(gG.K (d.X h) (a,a1,ae));rw[fi]at ag f;show([a]++r,ag,f)
def Rs{m:rH}(d:oy e k aj az m){a:eT}:(az++[a])[↑m.heap]? =Y a:=by
 rw[<- d.R,pb dw,xH];rfl
theorem cR.b0{e}(aq:cR e){l}(d:(l,q)>ho e):eV e l=q:=by
 let aD:((ho e).map ek).Nodup:=by
  delta ho;rw[Bk];show Ac (Ad bi vT) aq.a0
 delta eV
 cases b:(ho e).find? λz=>z.1==l with
 |none=>show bB (s'.1 b _ d)<|by simp
 |some z=>
  rw[ach aD (qd b) d<|oV<|us (p:=λz:O×bs O=>z.1==l) b];rfl
theorem Rt{s x z l}:vj ((x,l)::s) z=if x==z then Y l else vj s z:=by
 delta vj;rw[TD];cases x==z<;>rfl
theorem Ru{dp x z v}:HC ((x,v)::dp) z=if x==z then v else HC dp z:=by
 delta HC;rw[TD];cases x==z<;>rfl
theorem rq{x n}(d:eC n x):bi x=n:=by
 cases x<;>first|show d|show d.1
def ars(e:aW):∀n,eC n e->∀x∈bR e,eC (bi x) x:=by
 induction e with
 |num l n=>intro n d x b;rw[dj.1 b];rwa [rq d]
 |var l n=>intro n d x b;rw[dj.1 b];rwa [rq d]
 |fn l z ae i|fst l ae i|snd l ae i|new l ae i|get l ae i=>
  intro n d x b;let q||q:=cc.1 b;.rwa [q,rq d]
  .show i _ d.2 x q
 |app l ae B g h|letE l z ae B g h|pair l ae B g h|set l ae B g h|add l ae B g h=>
  intro n d x b;let q||q:=cc.1 b;.rwa [q,rq d]
  .show(du.1 q).elim (g _ d.2.1 x)<|h _ d.2.2 x
 |ifz l ae B f g h j=>
  intro n d x b;let q||q:=cc.1 b;.rwa [q,rq d]
  .show(du.1 q).elim (g _ d.2.1 x) λq=>(du.1 q).elim (h _ d.2.2.1 x)<|j _ d.2.2.2 x
def cR.b6{x y:aW}(aq:cR e)(h:x>bR e)(b:y>gD x):bi x<bi y:=by
 let d:=ars e 0 aq.a8 x h;let g:∀{a B:aW},a>[B]->a=B:=λd=>dj.1 d
 cases x with
 |num l n=>cases b
 |var l n=>cases b
 |fn l z ae|fst l ae|snd l ae|new l ae|get l ae=>rw[g b,rq d.2];show pa l
 |app l ae B|letE l z ae B|pair l ae B|set l ae B|add l ae B=>
  change l<_;let ab:l<bi ae:=by rw[rq d.2.1];show pa l
  let q||q:=cc.1 b;.rwa [q]
  .rw[g q,rq d.2.2];show ia (pa l)<|nq _ _
 |ifz l ae B f=>
  change l<_;let q||q:=cc.1 b;.rw[q,rq d.2.1];show pa l
  let q||q:=cc.1 q;.rw[q,rq d.2.2.1];show ia (pa l)<|nq _ _
  .rw[g q,rq d.2.2.2,mq];show ia (pa l)<|nq _ _
theorem rp.a1{c s x dp z v}(aq:cR e)(a3:x>bR e)(a4:y>gD x)(d:rp e aj az c s x dp)(sub:∀p∈gZ ((z,bi x)::s) y,p>ho e)(hv:pD aj az (gd<|bi x) h v)(n:∀B∈nA e y,B=bi x∨(B>nA e x/\∀a,aj (cP (gd B) c a)->aj (cP (gd B) h a))):rp e aj az h ((z,bi x)::s) y<|(z,v)::dp:=by
 let f:=aq.b6 a3 a4;show(sub,λq b=>?_,λq B b g=>?_,λq B b=>?_)
 .rw[Rt]at b;rw[Ru]
  cases w:z==q with|true=>rw[w]at b;cases b|false=>rw[w]at b;show d.R q b
 .rw[Rt]at b;rw[Ru]
  cases w:z==q with
  |true=>rw[w]at b;cases b;show hv
  |false=>
   rw[w]at b;let u||(i,j):=n B g;.show bB u<|ie<|d.X q B b
   .let(a,ab,ag):=d.S q B b i;show(a,ab,j a ag)
 .rw[Rt]at b
  cases w:z==q with|true=>rw[w]at b;cases b;show f|false=>rw[w]at b;show s_ (d.X q B b) f
theorem rp.a2{c s x dp j}(d:rp e aj az c s x dp)(aq:cR e)(b:x>bR e)(h:(gD x)[j]? =Y y)(co:¬Bp x j)(a3:∀p∈gZ s y,p>gZ s x):rp e aj az c s y dp:=
 (λp g=>d.K p<|a3 p g,d.R,λz B f n=>d.S z B f<|(Bq aq b h n).resolve_right λq=>co q.2,λz B f=>s_ (d.X z B f)<|aq.b6 b<|gs h)
def art{k l}(b:k<=2)(c:fh):((l::c).take 3).take k=(l::c.take k).take k:=by
 rw[ahj,zz<|db b ⋯]
 cases k with
 |zero=>rfl
 |succ j=>
  show eW<|Rn l c<|j+1
theorem acz{k l}(c:fh):(l::c).take k=(l::c.take k).take k:=by
 cases k with
 |zero=>rfl
 |succ j=>
  show eW<|Rn l c<|j+1
def aru{bo:#[b_]}(ar:iC e k bo aj):∀(f:O)(h:fh)(dp:ayt)(x:aW)(m:rH)(s:Rq)(az:#[eT])(eA:bs O),((x,eA):kA)>gq M e->jd aj eA (h.take k)->rp e aj az (h.take k) s x dp->oy e k aj az m->gG e k aj az (bi x) (h.take k) (TF e f h dp x m):=by
 intro f
 induction f with
 |zero=>intro h dp x m s az eA _ _ _ A;show A.K
 |succ f b3=>
  intro h dp x b8 s az eA b4 b5 a6 a9;dsimp only[TF];split;.show a9.K
  let ax:=ar.R _ b4 _ b5;let aq:=ar.K;let a7:=kV b4;let kd:=Gi b4;let A:oy e k aj az {b8 with steps:=b8.steps+1}:=(a9.R,a9.S,a9.K.K,a9.K.R);let fin:∀{az:#[eT]}{m:rH}{l:O}{v:vD},oy e k aj az m->(∀a,Gl az v a->aj (cP (cg l) (h.take k) a)->aj (cP (cg<|bi x) (h.take k) a))->pD aj az (cg l) (h.take k) v->gG e k aj az (bi x) (h.take k) (gives (bi x) h v m):=λd n t=>gG.K d<|let(a,u,ae):=t;(a,u,n a u ae)
  let U:∀{k':#[eT]}{m:rH}{y:aW}{l:O}{g:vD->rH->Out}(j:O),(∃r,k'=az++r)->oy e k aj k' m->(gD x)[j]? =Y y->¬Bp x j->(∀l z B,x≠fy l z B)->(∀p∈gZ s y,p>gZ s x)->(∀r v m,oy e k aj (k'++r) m->pD aj (k'++r) (cg<|bi y) (h.take k) v->gG e k aj (k'++r) l (h.take k) (g v m))->gG e k aj k' l (h.take k) (andThen (TF e f h dp y m) g):=λ{k' m y l g} j c7 d b9 co c8 c9 n=>by
   let(r,rfl):=c7;show gG.R (b3 h dp y m s _ eA ?_ b5 ((a6.a0 r).a2 aq a7 b9 co c9) d) n;have:=kd y<|gs b9
   cases x with|fn l z B=>show bB aa<|c8 l z B|_=>show this
  cases x with
  |num l n=>show fin A (λ_ _ d=>d) (hg,aa,ax _ .R)
  |var l z=>
   let a0:=aq.b0<|a6.K (l,vj s z) ig
   cases q:vj s z with
   |none=>
    rw[q]at a0;let(n,aB):=a6.R z q;show fin A (λ_ _ d=>d) (hg,?_,ax _<|.S a0);rw[aB];rfl
   |some B=>
    exists d0;rw[q]at a0;let(a,ab,ag):=a6.S z B q (ww.2 ((l,ig,a0),λw=>acs aq a7 a0<|dj.1 w));show d0<|fin A (λ_ _ d=>d) (a,ab,ax _<|.X a0 ag)
  |fn l z B=>show gG.S (a:=kh l<|h.take k) A (dp,z,B,s,aa,a7,a6.a0 _) (Rs A,_,_,aa)<|ax _ .a0
  |app l g a=>
   show U 0 ([],(e' _).symm) A aa id (λ_ _ _ d=>nomatch d) (λp b=>dQ _ b) λr v T ab ef=>U 1 (_,aa) ab aa id (λ_ _ _ d=>nomatch d) (λp b=>cG _ b) λa4 w a1 ag a2=>?_
   cases v with
   |clo i=>
    change gG e k aj _ l (h.take k)<|match a1.heap[i]? with|Y (.clo k c0)=>_|_=>_;let ef:=ef.K a4;let(b1,(V,a3,b2,rfl),cb):=ef;let aR:i<↑a1.heap:=by rw[<- ag.R];show(ff.1 V).1
    let(c0,y,B,d1,a5,a0,c1):=ag.S i _ _ (gi aR) V;rw[gi aR,a5];change gG e k aj _ l (h.take k)<|match sP e a3 with|Y (fy _ x B)=>_|_=>_;let c2:sP e a3=Y (fy a3 y B):=aq.a1 a0;rw[c2];let b6:=art (l:=l) ar.a2 h;obtain⟨c3,d2,aB⟩:∃c3∈gq M e,c3.node=fy a3 y B:=by
     rw[<- tG e M]at a0;let(w,ab,ag):=bx.1 a0;show(w,ab,ag)
    let d3:=by
     have:=Gi d2 B (by rw[aB];show ig);rw[aB]at this;show this
    show gG.R (b3 ((l::h).take 3) ((y,w)::c0) B _ ((y,a3)::d1) _ (Y a3) d3 (by rw[b6];show ax _<|.K cb) ?_ (ag.R,ag.S,ag.K.K,λx a7=>?_)) λd8 d9 e0 d4 c4=>?_
    .rw[b6];show c1.a1 aq a0 ig (λp b=>c1.K p b) (let(a,u,ae):=a2;(a,u,ax _<|.a1 cb ae)) λz hz=>?_;let u||u:=(Gj aq a0).1 z hz;.show aQ u
     .show bl ((Gj aq a0).2 z u,λa d5=>ax _<|.b8 cb (by rw[Bd a0];show u) d5)
    .let u||u:=acy a7;.show ag.K.R x u
     .rw[u];change aj<|lc a3<|(l::h).take k;rw[acz];show ax _<|.K cb
    .rw[b6]at c4;show gG.K d4<|let(a,u,ae):=c4;(a,u,ax _<|.a2 cb ?_ ae);change B>oQ e a3;delta oQ;rw[c2];show ig
   |_=>show ag.K
  |letE l z ae B=>
   show U 0 ([],(e' _).symm) A aa (λd=>nomatch d) (λ_ _ _ d=>nomatch d) (λp b=>dQ _ b) λr v T ab ef=>gG.R (b3 h ((z,v)::dp) B T ((z,l)::s) _ eA (kd B<|el _ ig) b5 ((a6.a0 r).a1 aq a7 (el _ ig) (λp b=>a6.K p<|cG _ b) (let(a,u,ae):=ef;(a,u,ax _<|.a3 ae)) λy d6=>?_) ab) λa4 w a1 ag a2=>fin ag (λa _ d=>ax _<|.a4 d) a2;let u||u:=Bq (j:=1) aq a7 aa d6;.show bl (u,λ_ d=>d)
   .show aQ u.1
  |ifz l c t ae=>
   show U 0 ([],(e' _).symm) A aa id (λ_ _ _ d=>nomatch d) (λp b=>dQ _ b) λr v T ab ef=>?_
   cases v with
   |num n=>
    change gG e k aj _ l (h.take k)<|andThen (TF e f h dp (if n=0 then t else ae) T) _;split;.show U 1 (_,aa) ab aa id (λ_ _ _ d=>nomatch d) (λp b=>cG _<|dQ _ b) λa4 w a1 ag a2=>fin ag (λa _ d=>ax _<|.a5 d) a2
    .show U 2 (_,aa) ab aa id (λ_ _ _ d=>nomatch d) (λp b=>cG _<|cG _ b) λa4 w a1 ag a2=>fin ag (λa _ d=>ax _<|.a6 d) a2
   |_=>show ab.K
  |pair l a B=>
   show U 0 ([],(e' _).symm) A aa id (λ_ _ _ d=>nomatch d) (λp b=>dQ _ b) λr v T ab ef=>U 1 (_,aa) ab aa id (λ_ _ _ d=>nomatch d) (λp b=>cG _ b) λa4 w a1 ag a2=>?_;show gG.S (a:=kx l<|h.take k) ag (v,w,aa,?_,?_) (Rs ag,_,_,aa)<|ax _ .a7;.show let(a,u,ae):=(ef.K a4).K _;(a,u,ax _<|.a8 ae)
   .show let(a,u,ae):=a2.K _;(a,u,ax _<|.a9 ae)
  |fst l ae=>
   show U 0 ([],(e' _).symm) A aa id (λ_ _ _ d=>nomatch d) (λp b=>b) λr v T ab ef=>?_
   cases v with
   |pair i=>
    change gG e k aj _ l (h.take k)<|match T.heap[i]? with|Y (.pair _ a _)=>_|_=>_;let(b1,(V,a3,b2,rfl),cb):=ef;let aR:i<↑T.heap:=by rw[<- ab.R];show(ff.1 V).1
    let(b7,d7,a5,b0,c5):=ab.S i _ _ (gi aR) V;rw[gi aR,a5];show gG.K ab<|let(a,u,ae):=b0;(a,u,ax _<|.b0 cb ae)
   |_=>show ab.K
  |snd l ae=>
   show U 0 ([],(e' _).symm) A aa id (λ_ _ _ d=>nomatch d) (λp b=>b) λr v T ab ef=>?_
   cases v with
   |pair i=>
    change gG e k aj _ l (h.take k)<|match T.heap[i]? with|Y (.pair _ _ B)=>_|_=>_;let(b1,(V,a3,b2,rfl),cb):=ef;let aR:i<↑T.heap:=by rw[<- ab.R];show(ff.1 V).1
    let(b7,d7,a5,b0,c5):=ab.S i _ _ (gi aR) V;rw[gi aR,a5];show gG.K ab<|let(a,u,ae):=c5;(a,u,ax _<|.b1 cb ae)
   |_=>show ab.K
  |new l ae=>
   show U 0 ([],(e' _).symm) A aa id (λ_ _ _ d=>nomatch d) (λp b=>b) λr v T ab ef=>gG.S (a:=le l<|h.take k) ab (v,aa,let(a,u,ae):=ef.K _;(a,u,ax _<|.b3 ae)) (Rs ab,_,_,aa)<|ax _ .b2
  |get l ae=>
   show U 0 ([],(e' _).symm) A aa id (λ_ _ _ d=>nomatch d) (λp b=>b) λr v T ab ef=>?_
   cases v with
   |ref i=>
    change gG e k aj _ l (h.take k)<|match T.heap[i]? with|Y (.ref _ w)=>_|_=>_;let(b1,(V,a3,b2,rfl),cb):=ef;let aR:i<↑T.heap:=by rw[<- ab.R];show(ff.1 V).1
    let(b7,a5,b0):=ab.S i _ _ (gi aR) V;rw[gi aR,a5];show gG.K ab<|let(a,u,ae):=b0;(a,u,ax _<|.b4 cb ae)
   |_=>show ab.K
  |set l ae B=>
   show U 0 ([],(e' _).symm) A aa id (λ_ _ _ d=>nomatch d) (λp b=>dQ _ b) λr v T ab ef=>U 1 (_,aa) ab aa id (λ_ _ _ d=>nomatch d) (λp b=>cG _ b) λa4 w a1 ag a2=>?_
   cases v with
   |ref i=>
    change gG e k aj _ l (h.take k)<|match a1.heap[i]? with|Y (.ref k _)=>_|_=>_;let(b1,(V,a3,b2,rfl),cb):=ef.K a4;let aR:i<↑a1.heap:=by rw[<- ag.R];show(ff.1 V).1
    let(b7,a5,b0):=ag.S i _ _ (gi aR) V;rw[gi aR,a5];show gG.K (m:={a1 with heap:=a1.heap.set i<|.ref a3 w}) (by change _=↑(a1.heap.set i _);rw[Tc];show ag.R,λj o a a8 eG=>?_,ag.K.K,ag.K.R)<|let(a,u,ae):=a2;(a,u,ax _<|.b5 ae);let a8:=a8;by_cases c6:i=j;.subst c6;rw[CA aR]at a8;rw[V]at eG;cases a8;cases eG;show(w,aa,let(a,u,ae):=a2;(a,u,ax _<|.b6 cb ae))
    .rw[xt c6]at a8;show ag.S j o a a8 eG
   |_=>show ag.K
  |add l a B=>
   show U 0 ([],(e' _).symm) A aa id (λ_ _ _ d=>nomatch d) (λp b=>dQ _ b) λr v T ab ef=>U 1 (_,aa) ab aa id (λ_ _ _ d=>nomatch d) (λp b=>cG _ b) λa4 w a1 ag a2=>?_
   cases v with
   |num i=>
    cases w with|num j=>show gG.K ag (hg,aa,ax _ .b7)|_=>show ag.K
   |_=>cases w<;>show ag.K
theorem arv{bo}(ar:iC e k bo aj){t}(h:∀f,aj f->f>t)(i:O):TG k t (Cp e i)=M:=by
 let d:=aru ar (STEPS+1) [] [(oP,.num i)] e Vacfaa.nothing [] [] M (by cases e<;>show(cp _)) (ahk) (λp g=>g,λz _=>?_,λz B q=>(nomatch q),λz B q=>(nomatch q)) (aa,λi o a q=>((by cases q)),λx b=>(nomatch b),λx b=>(nomatch b))
 .let f:Gm k aj<|Vacfaa.madeOf<|Cp e i:=by
   let d:gG e k aj [] (bi e) _<|Cp e i:=d
   cases q:Cp e i with|ok v m=>rw[q]at d;let(r,d,_):=d;show d.K|wrong l m=>rw[q]at d;show d|long m=>rw[q]at d;show d
  delta TG;rw[s'.2 λx b=>?_]
  .rw[s'.2 λx b=>?_];.rfl
   .have:=h _<|f.R x b;simp[this]
  .let(a,ab,ag):=f.K x b;rw[SA,Bool.not_eq_false,agB];show(a,(oZ.2<|h _ ab),rQ.2 ag)
 .rw[Ru];split;.show(_,aa)
  .show(0,aa)
end
theorem Bs{α:Type}{b:α->α->dq}:∀{l m:#[α]},l.Nodup->m.Nodup->(∀x,x>l↔x>m)->l.Pairwise (λx y=>b y x=aX)->m.Pairwise (λx y=>b y x=aX)->(∀x∈l,∀y∈l,b x y=aX->b y x=aX->x=y)->l=m
 |[],m,_,_,d,_,_,_=>by
  cases m with|nil=>rfl|cons B r=>show nomatch (d B).mpr (cp _)
 |a::l,[],_,_,d,_,_,_=>nomatch (d a).mp (cp _)
 |a::l,B::m,e,f,d,g,eG,t=>by
  let(T,h):=f_.1 e;let(U,i):=f_.1 f;let(j,o):=vW.1 g;let(p,q):=vW.1 eG;obtain rfl:a=B:=by
   let z||z:=cc.1 ((d a).mp (cp _));.show z
   let w||w:=cc.1 ((d B).mpr (cp _));.show w.symm
   show t a (cp _) B (eo _ w) (p a z) (j B w)
  show dP (a::·) (Bs h i (λx=>?_) o q λx v y A=>t x (eo _ v) y (eo _ A));grind
theorem Rv{la:α->α->dq}{x}:∀{l},(Cq la x l).Perm (x::l)
 |[]=>agP _
 |y::r=>by
  dsimp only[Cq];split;.show agP<|x::y::r
  .show(Rv.cons y).trans<|vC x y r
def acA{α la}(l:#[α]):(ordered la l).Perm l:=by
 let b:∀(l r:#[α]),(l.foldl (λr x=>Cq la x r) r).Perm (l++r):=by
  intro l
  induction l with|nil=>simp_all|cons x l e=>intro r;show(e _).trans<|((Rv).append_left l).trans<|uv
 show(b l []).trans<|by simp_all
set_option tactic.hygienic true in
def acB{α la}(h:∀x y,la x y=J->la y x=aX)(nf:∀x y z,la x y=J->la z y=aX->la z x=aX)(l:#[α]):(ordered la l).Pairwise λx y=>la y x=aX:=by
 let e:∀(x:α)(r:#[α]),r.Pairwise (λx y=>la y x=aX)->(Cq la x r).Pairwise λx y=>la y x=aX:=by
  intro x r
  induction r with
  |nil=>intro _;show vW.2 (λ_ d=>(nomatch d),mP)
  |cons y r b=>
   intro d;let(ab,ag):=vW.1 d;dsimp only[Cq];split
   .rename_i q;show vW.2 (λz hz=>?_,d);let w||w:=cc.1 hz;.rw[w];show h _ _ q
    .show nf x y z q<|ab z w
   .rename_i q;show vW.2 (λz hz=>?_,b ag);let w||w:=cc.1 (Rv.mem_iff.1 hz);.simp_all
    .show ab z w
 let f:∀(l r:#[α]),r.Pairwise (λx y=>la y x=aX)->(l.foldl (λr x=>Cq la x r) r).Pairwise λx y=>la y x=aX:=by
  intro l
  induction l with|nil=>intro r d;show d|cons x l b=>intro r d;show b _ (e x r d)
 show f l [] mP
theorem Bt:∀c ae:fh,TH c ae=hH (cu c) (cu ae)
 |[],[]=>rfl
 |[],_::_=>rfl
 |_::_,[]=>rfl
 |a::r,B::q=>by
  change(bp (a<B)||(a==B&&TH r q))=hH ((a:N)::cu r) ((B:N)::cu q);rw[wg,Bt r q];by_cases e:a=B;.simp_all
  .rw[be<|show¬(a:N)=B from λz=>e<|mo z];simp_all
noncomputable def jn:nW->N×N|rP=>(0,0)|nV l=>(1,l)|uh l=>(2,l)|ui l=>(3,l)
def Rw{a B}(d:jn a=jn B):a=B:=by
 cases a<;>cases B<;>first|rfl|(injection d with ab ag;first|(show bB ab ⋯)|(rw[mo ag]))
theorem Bu(a:eT):jn (rK a)=((di a).1,(di a).2.1):=by cases a<;>rfl
noncomputable def wy:aW->bs nW|fy l _ _=>Y<|nV l|jP l _ _=>Y<|uh l|kv l _=>Y<|ui l|_=>M
theorem yW(e:aW):jc e=rP::(bR e).filterMap wy:=by
 rfl
def arw(e:aW):fe->Prop|cP _ _ a=>rK a>jc e|lc _ _=>kz
def Gn{k p c a}(d:gy (oR e) k<|cP p c a):rK a>jc e:=by
 show gy.K (ai:=arw e) (λo i c _ f r=>?_) d;let b:=kV i;let g:rP>jc e:=(cp _);let h:∀{x B},x>bR e->wy x=Y B->B>jc e:=λd q=>by
  rw[yW];show el _<|ln.2 (_,d,q)
 generalize o.node=x at b r
 cases r with|R=>show g|S _=>show g|a0=>show h b aa|K _=>show⟨⟩|a7=>show h b aa|b2=>show h b aa|b7=>show g|X _ d|a1 _ d|b8 _ _ d|a2 _ _ d|a3 d|a4 d|a5 d|a6 d|a8 d|a9 d|b0 _ d|b1 _ d|b3 d|b4 _ d|b5 d|b6 _ d=>show d
noncomputable def wz:nW->O|rP=>0|nV l=>l+1|uh l=>l+1|ui l=>l+1
theorem wA{x B}(d:wy x=Y B):wz B=bi x+1:=by
 cases x<;>first|(cases d;rfl)|cases d
theorem Go(a B:nW):(gB ((jn a).1,(jn a).2,[])).K (gB ((jn B).1,(jn B).2,[]))=bp (wz a<wz B):=by
 let b:∀l m:O,(g'.K (J,(l:N),[]) (J,(m:N),[]))=bp (l+1<m+1):=λl m=>by
  change(if J=J then(if(l:N)=m then hH [] []else bp ((l:N)<m))else _)=_;rw[bK aa];by_cases q:l=m;.subst q;rw[bK aa,show hH [] []=aX from aa];simp
  .rw[be<|show¬(l:N)=m from λz=>q<|mo z];by_cases w:l<m;.rw[hp<|xP.2 w,hp<|Nat.succ_lt_succ w]
   .rw[iv λz=>w<|xP.1 z,iv λz=>w<|ayu z]
 cases a<;>cases B<;>first|rfl|show b _ _|(symm;show hp<|Nat.succ_pos _)|(symm;show iv<|Nat.not_lt_zero _)
def cR.b1(aq:cR e):(jc e).Pairwise λa B=>wz a<wz B:=by
 rw[yW];show vW.2 (λB b=>?_,?_);.let(x,_,q):=ln.1 b;rw[wA q];show ahm _
 .show Dd wy ?_<|rU.1<|aq.X▸List.pairwise_lt_range;intro x y f a g B b;rw[wA g,wA b];show Nat.add_lt_add_right f 1
def cR.b7(aq:cR e):(jc e).Nodup:=aq.b1.imp λd q=>by simp_all
theorem cR.b2(aq:cR e){a B}(b:a>jc e)(h:B>jc e)(d:wz a=wz B):a=B:=by
 rw[yW]at b h;let z||z:=cc.1 b<;>let w||w:=cc.1 h;.rw[z,w]
 .let(x,_,q):=ln.1 w;rw[z,wA q]at d;cases d
 .let(x,_,q):=ln.1 z;rw[w,wA q]at d;cases d
 .let(x,g,q):=ln.1 z;let(y,i,f):=ln.1 w;rw[wA q,wA f]at d;rw[aq.inj g i<|Hz d,f]at q;simp_all
section
variable{k:O}{T:cn}{t:ua}
def Gp(x:l' e k T t){p B}:B>lj e t p↔∃c a,cP p c a>t/\rK a=B:=by
 change B>ayv _ _↔_;rw[je,qf,ln];show(λ(_,f,b,q)=>?_,λ(c,a,d,q)=>(q▸Gn ((x.S _).mp d),_,d,?_));.grind
 grind
theorem wB(aq:cR e)(x:l' e k T t){p ay}(d:rm T.K (ds p []).1 (ds p []).2.1 ay):ay=(lj e t p).map jn:=by
 let l:(lj e t p).Sublist<|jc e:=vT;show Bs d.R ?_ (λq=>?_) d.S ?_ ?_;.show tc jn (λa B h q=>h<|Rw q)<|l.nodup aq.b7
 .rw[d.K,bx];show(λ(s,aT,m)=>?_,λ(B,i,q)=>?_)
  .let(b,c,a,z):=x.X _ m;injection z with f g;let aB:=by
    have:ds b c=ds p (gV s):=by
     let ag:s=cu c:=by cases b<;>show dP (λy:b_=>y.2.2) f
     rw[<- f,ag,sq];cases p<;>rfl
    show(va this).1
   subst aB;show(rK a,(Gp x).mpr (c,a,(x.R _).mpr ?_,aa),?_);.change(ds b c,di a)>T.K;rwa [<- f,<- g]
   .rw[Bu,<- g]
  .let(c,a,j,rfl):=(Gp x).mp i;let j:=(x.R _).mp j;rw[Bu]at q;show((ds p c).2.2,(di a).2.2,?_);rw[<- q];cases p<;>show j
 .show rU.2<|(ayw l aq.b1).imp λ{a B} h=>?_;rw[Go];show iv<|ayx h
 .intro a v B i ab ag;let o:∀q∈ay,∃B∈jc e,q=jn B:=λq w=>by
   let(s,aT,m):=(d.K q).mp w;let(b,c,a,z):=x.X _ m;injection z with f g;show(rK a,Gn (p:=b) (c:=c)<|(x.S _).mp<|(x.R _).mpr ?_,?_);.change(ds b c,di a)>T.K;rwa [<- f,<- g]
   .rw[Bu,<- g]
  let(V,A,rfl):=o a v;let(a0,U,rfl):=o B i;rw[Go]at ab ag;rw[aq.b2 A U<|v_ (np.1<|hj ag)<|np.1<|hj ab]
theorem Rx(a B:eT):sortBefore a B=(gB<|di a).K (gB<|di B):=by
 let b:∀(l m:O)(c ae:fh),(bp (l+1<m+1)||(l+1==m+1&&TH c ae))=g'.K (J,(l:N),cu c) (J,(m:N),cu ae):=λl m c ae=>by
  change _=(if J=J then(if(l:N)=m then hH (cu c) (cu ae)else bp ((l:N)<m))else _);rw[bK aa,Bt];by_cases q:l=m;.subst q;rw[bK aa];simp
  .rw[be<|show¬(l:N)=m from λz=>q<|mo z];have:(l+1==m+1)=aX:=‹q›
   rw[this];simp
 cases a<;>cases B<;>first|rfl|show b _ _ _ _|show z _ _
def arx{x:l' e k T t}{f:O}{bv:#[#[N]]}(b:bv.Perm<|dG T.R (f:N))(a1:bv.Pairwise λp q=>hH q p=aX):bv=(TK t f).map cu:=by
 let eF:=acA (la:=TH)<|wS t<|Y f;let h:∀c,c>TK t f↔lc f c>t:=λc=>(eF.mem_iff).trans Cy;let j:=by
  let m:∀l:#[fe],l.Nodup->(wS l<|Y f).Nodup:=λl d=>by
   show Dd _ (λa w A B U V a0=>?_) d;grind
  show m t x.a1
 show Bs (b.nodup_iff.2<|ws x.a2 _) ?_ (λu=>?_) a1 ?_ λa _ B _=>AK a B;.show tc cu (λa B o q=>o<|QK q)<|eF.nodup_iff.2 j
 .rw[b.mem_iff,iB,bx];show(λd=>?_,λ(c,v,q)=>?_);.let(g,c,q,_):=x.a0 _ d;injection q with a2 i;show(c,(h c).mpr<|(x.R _).mpr<|by change(((f:O):N),cu c)>T.R;rwa [<- i],i.symm)
  .rw[<- q];show(x.R _).mp<|(h c).mp v
 .show rU.2<|(acB (λa B d=>?_) (λa B c ab ag=>?_) _).imp λ{a B} d=>by rwa [<- Bt]
  .rw[Bt]at d⊢
   cases q:hH (cu B) (cu a)with
   |false=>rfl
   |true=>
    have:=yu _ _ _ d q;rw[Fa]at this;cases this
  .rw[Bt]at ab ag⊢
   cases q:hH (cu c) (cu a)with
   |false=>rfl
   |true=>
    rw[yu _ _ _ q ab]at ag;cases ag
set_option tactic.hygienic true in
def ary(aq:cR e)(x:l' e k T t){p:jb}{c:fh}{bv:#[b_]}(h:bv.Perm<|dG T.K<|ds p c)(a1:bv.Pairwise λp q=>(gB q).K (gB p)=aX):bv=(HD t p c).map di:=by
 let eF:=acA (la:=sortBefore)<|setAt t p c;let o:∀a,a>HD t p c↔cP p c a>t:=λc=>(eF.mem_iff).trans oZ
 let A:(setAt t p c).Nodup:=by
  show Dd _ (λa U V B g a0 j=>?_) x.a1
  cases a with
  |come _ _=>cases g
  |here q ae s=>
   cases U with
   |come _ _=>cases j
   |here a2 a3 aT=>
    let ab:(if q=p/\ae=c then Y s else M)=Y B:=g;let ag:(if a2=p/\a3=c then Y aT else M)=Y a0:=j;clear g j;split at ab
    .split at ag;.rename_i z w;intro q;cases ab;cases ag;show V<|by rw[z.1,z.2,w.1,w.2,q]
     .cases ag
    .cases ab
 let l:∀u,u>dG T.K (ds p c)↔∃a,cP p c a>t/\di a=u:=λu=>by
  rw[iB];show(λd=>?_,(by rintro⟨a,m,q⟩;show by rw[<- q];show(x.R _).mp m));let(a8,a9,a,q):=x.X _ d;injection q with i b;let(rfl,rfl):=va i;show(a,(x.R _).mpr<|by change(ds p c,di a)>T.K;rwa [<- b],b.symm)
 show Bs (h.nodup_iff.2<|ws x.a5 _) ?_ (λu=>?_) a1 ?_ λu a4 v a5 ab ag=>?_;.show tc di (λa B a6 q=>a6<|QQ q)<|eF.nodup_iff.2 A
 .rw[h.mem_iff,l,bx];show((by rintro⟨a,d,q⟩;show(a,(o a).mpr d,q)),(by rintro⟨a,d,q⟩;show(a,(o a).mp d,q)))
 .show rU.2<|(acB (λa B d=>?_) (λa B c ab ag=>?_) _).imp λ{a B} d=>by rwa [<- Rx]
  .rw[Rx]at d⊢
   cases q:(gB<|di B).K (gB (di a))with
   |false=>rfl
   |true=>
    have:=g'.a0 d q;rw[g'.a1]at this;cases this
  .rw[Rx]at ab ag⊢
   cases q:(gB (di c)).K (gB (di a))with
   |false=>rfl
   |true=>
    rw[g'.a0 q ab]at ag;cases ag
 .let(a,m,rfl):=(l u).mp (h.mem_iff.1 a4);let(B,g,rfl):=(l v).mp (h.mem_iff.1 a5);let q:=g'.a2 ab ag;let f:=aq.b2 (Gn ((x.S _).mp m)) (Gn ((x.S _).mp g));cases a<;>cases B<;>first|rfl|(injection q with i b a7;first|(show bB (show aX=J from i) ⋯)|(show bB (show J=aX from i) ⋯)|(let b:=mo b;subst b;let f:=f aa;cases f;rw[QK a7])|(let b:=mo b;subst b;let f:=f aa;cases f))
end
section
open PySem (Paired)
section
variable{k:O}{T U:cn}{t u:ua}
theorem acC{p:bs N->dq}{q:kA->dq}(b:∀w:kA,p (w.owner.map λn:O=>(n:N))=q w):∀(l:#[kA])(n:O),(∀(i:O) w,l[i]? =Y w->bi w.node=n+i)->kU p n (l.map λo=>o.owner.map λn:O=>(n:N))=cu ((l.filter q).map λo=>bi o.node)
 |[],n,_=>rfl
 |w::r,n,d=>by
  let e:bi w.node=n:=d 0 w aa;let f:=acC b r (n+1) λi v g=>by rw[d (i+1) v g];show eW<|rX n i
  change(if p _=J then(n:N)::kU p (n+1) _ else kU p (n+1) _)=_;rw[b,f,pe];split;.rw[<- e];rfl
  .rfl
theorem arz(aq:cR e)(x:l' e k T t):kU (so T.R) 0 (dr e).K=cu (zp e t):=by
 show acC (λw=>?_) (gq M e) 0 λi w d=>by rw[(aq.a5 d).2,od]
 let(aD,eA):=w
 cases eA with
 |none=>rfl
 |some f=>
  change(dG T.R (f:N)).isEmpty=(wS t<|Y f).isEmpty;let ab:(∃c,c>dG T.R (f:N))↔∃c,c>wS t (Y f):=by
   show(λj=>?_,(by rintro⟨c,b⟩;show(cu c,iB.2<|(x.R _).mp<|Cy.1 b)));let(c,b):=j;let(g,ae,q,_):=x.a0 _ (iB.1 b);injection q with h l;let h:=mo h;show(ae,Cy.2<|(x.R _).mpr ?_);change((f:N),cu ae)>T.R;rw[<- l];show iB.1 b
  cases q:dG T.R (f:N)with
  |nil=>
   cases m:wS t (Y f)with
   |nil=>rfl
   |cons a r=>
    simp_all
  |cons a r=>
   let(c,b):=ab.1 (a,by rw[q];show(cp _));grind
theorem acD{bu:#[E]}{q:aW->dq}(b:∀x,gW e x>bu↔q x=J):∀(l:#[aW])(n:O),(∀(i:O) x,l[i]? =Y x->bi x=n+i)->jB bu n (l.map<|gW e)=cu ((l.filter q).map bi)
 |[],n,_=>rfl
 |w::r,n,d=>by
  let g:bi w=n:=d 0 w aa;let h:=acD b r (n+1) λi v f=>by rw[d (i+1) v f];show eW<|rX n i
  change(if gW e w>bu then(n:N)::jB bu (n+1) _ else jB bu (n+1) _)=_;grind
theorem cR.a3(aq:cR e)(b:∀x,gW e x>bu↔q x=J):(dr e).S bu=cu (((bR e).filter q).map bi):=acD b (bR e) 0 λi x d=>by rw[aq.a4 d,od]
def Bv{x:aW}{bu:#[E]}{q:dq}(d:bp (gW e x>bu)=q):gW e x>bu↔q=J:=by rw[<- d,rR]
def Bw(x:aW):gW e x>(["call"]:#[E])↔Cr x=J:=by
 show Bv ?_
 cases x with|var l y=>change bp ((if _ then _ else _)>_)=_;split<;>rfl|_=>rfl
noncomputable def tQ(a:Arrow):N×N:=(a.site,a.fn)
def acF(l:O)(vs:#[nW]):lB l (vs.map jn)=(vs.filterMap λv=>(match v with|nV k=>Y (l,k)|_=>M:Option Arrow)).map tQ:=by
 induction vs with|nil=>rfl|cons v r b=>cases v<;>first|show b|show dP _ b
theorem Gq(aq:cR e)(x:l' e k T t){ay:#[N×N]}(d:FF (dr e) T.K ay):ay=(uj e t).map tQ:=by
 let(b,h,rfl):=d.K;rw[aq.a3<|λx=>Bw x]at h⊢
 let w:∀(co:#[aW])(b:#[#[N×N]]),(∀x∈co,x>bR e)->eq (FD (dr e) T.K) (cu<|(co.filter Cr).map bi) b->((cu<|(co.filter Cr).map bi).zip b).flatMap (λe=>lB e.1 e.2)=(co.flatMap λx=>match x with
   |iq l f _=>(lj e t<|cg<|bi f).filterMap λv=>(match v with|nV k=>Y (l,k)|_=>M)
   |_=>[]).map tQ:=by
  intro co
  induction co with
  |nil=>intro b _ d;rfl
  |cons y co j=>
   intro b m d;let o:=λx A=>m x<|eo _ A;rw[rc,cs]
   cases y with
   |app l f a=>
    cases d with
    |@cons _ U _ b ab ag=>
     let V:lB (l:N) U=((lj e t<|cg<|bi f).filterMap λv=>(match v with|nV k=>Y (l,k)|_=>M:Option Arrow)).map tQ:=by
      let(i,q,r,aB,a0,a1):=ab;obtain rfl:l=i:=mo aB;let g:=aq.a2<|m (iq l f a)<|cp _;rw[show bi (iq l f a)=l from aa,a0]at g;let g:=hq g;injection g with g _;subst g;rw[wB aq x (p:=cg<|bi f) a1];show acF l _
     rw[<- j b o ag,<- V];rfl
   |_=>show j b o d
 show w _ _ (λ_ d=>d) h
noncomputable def arA(j:O):eT->eT|hg=>hg|kh l c=>kh l<|c.take j|kx l c=>kx l<|c.take j|le l c=>le l<|c.take j
noncomputable def Ry(j:O):fe->fe|cP p c a=>cP p (c.take j)<|arA j a|lc f c=>lc f<|c.take j
def arB{j k l}(d:j<=k)(c:fh):((l::c).take k).take j=(l::c.take j).take j:=by
 rw[ahj,zz d];show acz c
def arC{w j k}(d:j<=k){ai c x f}(r:fX w k (λf=>ai<|Ry j f) c x f):fX w j ai (c.take j) x<|Ry j f:=by
 let mF:=λl=>arB (l:=l) d c
 cases r with|R=>show .R|S a=>show .S a|X a B=>show .X a B|a0=>show .a0|@K l _ _ g ae a=>change fX _ _ _ _ _<|lc _<|((l::c).take k).take j;rw[mF];show .K a|@a1 l _ _ g ae v a B=>change fX _ _ _ _ _<|cP _ (((l::c).take k).take j) _;rw[mF];show .a1 a B|@b8 l _ _ g ae y v a B b=>change fX _ _ _ _ _<|cP _ (((l::c).take k).take j) _;rw[mF];show .b8 a B b|@a2 l _ _ g ae y v a B b=>show .a2 a B<|by let b:ai<|cP _ (((l::c).take k).take j) _:=b;simp_all|a3 a=>show .a3 a|a4 a=>show .a4 a|a5 a=>show .a5 a|a6 a=>show .a6 a|a7=>show .a7|a8 a=>show .a8 a|a9 a=>show .a9 a|b0 a B=>show .b0 a B|b1 a B=>show .b1 a B|b2=>show .b2|b3 a=>show .b3 a|b4 a B=>show .b4 a B|b5 a=>show .b5 a|b6 a B=>show .b6 a B|b7=>show .b7
def arD{w j k}(d:j<=k){f}(ae:gy w k f):gy w j<|Ry j f:=by
 show gy.K (λo e c b f r=>gy.R e ?_<|arC d r) ae
 cases q:o.owner with|none=>rw[q]at b;rw[b];show ahk|some g=>rw[q]at b;show b
def arF{j}(d:j<=k)(x:l' e j T t)(y:l' e k U u){p B}(b:B>lj e u p):B>lj e t p:=by
 let(c,a,f,rfl):=(Gp y).mp b;show(Gp x).mpr (_,_,(x.S _).mpr<|arD d<|(y.S _).mp f,(by cases a<;>rfl))
noncomputable def tR(p:jb):N×N:=((ds p []).1,(ds p []).2.1)
def arG{l m:#[nW]}(d:l.map jn=m.map jn):l=m:=(List.map_inj_right λ_ _=>Rw).mp d
def arH(aq:cR e){j:O}(d:j<=k)(x:l' e j T t)(y:l' e k U u):∀{ay:#[jb]}{o:bs<|N×N},sp T.K U.K (ay.map tR) o->o=(ay.find? λp=>(lj e t p).any λa=>!(lj e u p).contains a).map tR:=by
 intro ay
 induction ay with
 |nil=>intro o d;cases d;rfl
 |cons p ay h=>
  intro o i
  let g:(lj e t p).any (λa=>!(lj e u p).contains a)=aX↔lj e t p=lj e u p:=by
   show(λq=>?_,λq=>?_)
   .let sub:∀B,B>lj e t p↔B>lj e u p:=λB=>(λb=>by
     have:=afX.1 q B b;simpa using this,arF d x y);show C_ λB b=>oa.2 (λz=>(je.1<|(sub B).mp<|je.2 (b,z)).2,λz=>(je.1<|(sub B).mpr<|je.2 (b,z)).2)
   .rw[q,afX];intro B b;simpa using b
  rw[TD]
  cases i with
  |K ab ag f=>
   rw[g.2<|arG<|(wB aq x ab).symm.trans<|wB aq y ag];show h f
  |R ab ag f=>
   cases q:(lj e t p).any λa=>!(lj e u p).contains a with
   |true=>rfl
   |false=>
    show bB ?_ f;rw[wB aq x ab,wB aq y ag,g.1 q]
noncomputable def Bx:aW->dq|fy _ _ _=>J|ku _ _ _ _=>J|_=>aX
noncomputable def arK:aW->dq|jP _ _ _=>J|_=>aX
noncomputable def Rz:aW->dq|kv _ _=>J|_=>aX
def RA(x:aW):gW e x>(["fun","let"]:#[E])↔Bx x=J:=by
 show Bv ?_
 cases x with|var l y=>change bp ((if _ then _ else _)>_)=_;split<;>rfl|_=>rfl
def arP(x:aW):gW e x>(["pair"]:#[E])↔arK x=J:=by
 show Bv ?_
 cases x with|var l y=>change bp ((if _ then _ else _)>_)=_;split<;>rfl|_=>rfl
def arQ(x:aW):gW e x>(["new"]:#[E])↔Rz x=J:=by
 show Bv ?_
 cases x with|var l y=>change bp ((if _ then _ else _)>_)=_;split<;>rfl|_=>rfl
theorem Gr{q:aW->dq}{f g}(d:∀x,(f x).map tR=if q x=J then g (bi x:O)else[]):∀co:#[aW],(cu<|(co.filter q).map bi).flatMap g=(co.flatMap f).map tR
 |[]=>rfl
 |x::r=>by
  rw[rc,cs,d x,pe,<- Gr d r];split<;>rfl
theorem arR(aq:cR e):(dr e).a2=(nX e).map tR:=by
 delta dV.a2 nX;rw[aq.a3 λx=>RA x,aq.a3 λx=>arP x,aq.a3 λx=>arQ x,fi,fi,cs,cs,cs];show congr (dP _ ?_)<|congr (dP _ ?_)<|congr (dP _ ?_) ?_
 .let d:(oS ↑(dr e).R).map (λl:O=>(aZ ((0:N))<|(l:N)))=((dC e).map λl:O=>(aZ ((0:N))<|(l:N))):=by
   rw[aq.X];congr 2;change↑((bR e).map _)=_;rw[aV,<- aV bi,show(bR e).map bi=dC e from aa,aq.X,xD]
  rw[d];change(((bR e).map bi).map _)=_
  induction bR e with|nil=>rfl|cons x r b=>show dP (tR (lK x)::·) b
 .rw[<- Gr (q:=Bx) (g:=λl=>[(aZ 1 l)])<|λx=>by cases x<;>rfl]
  induction cu (((bR e).filter Bx).map bi)with|nil=>rfl|cons x r b=>rw[rc,<- b];rfl
 .show Gr (λx=>by cases x<;>rfl) _
 .rw[<- Gr (q:=Rz) (g:=λl=>[(aZ 4 l)]) (λx=>by cases x<;>rfl)]
  induction cu (((bR e).filter Rz).map bi)with|nil=>rfl|cons x r b=>rw[rc,<- b];rfl
def acG(aq:cR e){j}(d:j<=k)(x:l' e j T t)(y:l' e k U u){o}(r:sp T.K U.K (dr e).a2 o):o=(TP e t u).map tR:=by
 rw[arR aq]at r;show arH aq d x y r
end
end
abbrev iV:=Vacfab.Fact
inductive il(e:aW)(ai:jb->nW->Prop):aW->jb->nW->Prop|K{b b0}:il e ai (jK b b0) (cg b) rP|R{b a5}:eV e b=M->il e ai (gK b a5) (cg b) rP|S{b a5 a1 a3}:eV e b=Y a1->ai (gd a1) a3->il e ai (gK b a5) (cg b) a3|X{b a5 a1}:il e ai (fy b a5 a1) (cg b)<|nV b|a0{b a6 a3 a7 h}:ai (lK a6) (nV a7)->ai (lK a3) h->il e ai (iq b a6 a3) (gd a7) h|a1{b a6 a3 a7 a1 h}:ai (lK a6) (nV a7)->ahn e a7=Y a1->ai (cg a1) h->il e ai (iq b a6 a3) (cg b) h|a2{b a5 a2 a1 h}:ai (lK a2) h->il e ai (ku b a5 a2 a1) (gd b) h|a3{b a5 a2 a1 h}:ai (lK a1) h->il e ai (ku b a5 a2 a1) (cg b) h|a4{b a9 a3 a1 h}:ai (lK a3) h->il e ai (ni b a9 a3 a1) (cg b) h|a5{b a9 a3 a1 h}:ai (lK a1) h->il e ai (ni b a9 a3 a1) (cg b) h|a6{b a3 a1}:il e ai (jP b a3 a1) (cg b)<|uh b|a7{b a3 a1 h}:ai (lK a3) h->il e ai (jP b a3 a1) (nQ b) h|a8{b a3 a1 h}:ai (lK a1) h->il e ai (jP b a3 a1) (nR b) h|a9{b a2 a4 h}:ai (lK a2) (uh a4)->ai (nQ a4) h->il e ai (nG b a2) (cg b) h|b0{b a2 a4 h}:ai (lK a2) (uh a4)->ai (nR a4) h->il e ai (nH b a2) (cg b) h|b1{b a2}:il e ai (kv b a2) (cg b)<|ui b|b2{b a2 h}:ai (lK a2) h->il e ai (kv b a2) (lf b) h|b3{b a2 a4 h}:ai (lK a2) (ui a4)->ai (lf a4) h->il e ai (nK b a2) (cg b) h|b4{b a8 a2 h}:ai (lK a2) h->il e ai (mH b a8 a2) (cg b) h|b5{b a8 a2 a4 h}:ai (lK a8) (ui a4)->ai (lK a2) h->il e ai (mH b a8 a2) (lf a4) h|b6{b a3 a1}:il e ai (pQ b a3 a1) (cg b) rP
def pF{t p a}:a>oX t p↔((p,a):iV)>t:=by
 delta oX;rw[bx];show(λb=>?_,λd=>(_,je.2 (d,vR _),aa));let(f,e,q):=b;let(ab,ag):=je.1 e;cases f;grind
def arS{x ai f}(d:f>seedsIn e x):il e ai x f.place f.abs:=by
 let b:∀{g},f>[g]->f=g:=λd=>dj.1 d
 cases x with
 |num l n=>rw[b d];show .K
 |var l x=>
  let d:f>(match eV e l with|M=>[(cg l,rP)]|Y _=>[]:#[iV]):=d
  cases q:eV e l with|none=>rw[q]at d;rw[b d];show .R q|some B=>simp_all
 |fn l x B=>rw[b d];show .X
 |pair l a B=>rw[b d];show .a6
 |new l ae=>rw[b d];show .b1
 |add l a B=>rw[b d];show .b6
 |_=>cases d
def acH{t:#[iV]}{p:jb}{a:nW}:((p,a):iV)>TQ e t↔∃x∈bR e,il e (λp a=>((p,a):iV)>t) x p a:=by
 show(λd=>?_,λ(x,A,r)=>?_)
 .let d||d:=du.1 d;.let(x,A,d):=dZ.1 d;show(x,A,arS d)
  .let(w,U,d):=dZ.1 d;rw[ayy,z']at U;let(x,A,U):=dZ.1 U;let(B,a0,q):=bx.1 d;cases q
   show(x,A,((λd b=>by
     let o:∀{g:Way},w>[g]->w=g:=λd=>dj.1 d
     cases x with
     |var l x=>
      let d:w>(match eV e l with|M=>[]|Y B=>[(gd B,cg l,l)]:#[Way]):=d
      cases q:eV e l with|none=>rw[q]at d;cases d|some B=>rw[q]at d;rw[o d]at b⊢;show .S q b
     |app l f B=>
      let(v,j,d):=dZ.1 d;let j:=pF.1 j
      cases v with
      |fn k=>
       let q||q:=cc.1 d;.rw[q]at b⊢;show .a0 j b
       .let(y,a1,q):=bx.1 q;rw[<- q]at b⊢;show .a1 j (CU.1 a1) b
      |_=>cases d
     |letE l x ae B=>
      let q||q:=cc.1 d;.rw[q]at b⊢;show .a2 b
      .rw[o q]at b⊢;show .a3 b
     |ifz l c ae B=>
      let q||q:=cc.1 d;.rw[q]at b⊢;show .a4 b
      .rw[o q]at b⊢;show .a5 b
     |pair l ae B=>
      let q||q:=cc.1 d;.rw[q]at b⊢;show .a7 b
      .rw[o q]at b⊢;show .a8 b
     |fst l ae=>
      let(v,j,d):=dZ.1 d
      cases v with|pair k=>rw[o d]at b⊢;show .a9 (pF.1 j) b|_=>cases d
     |snd l ae=>
      let(v,j,d):=dZ.1 d
      cases v with|pair k=>rw[o d]at b⊢;show .b0 (pF.1 j) b|_=>cases d
     |new l ae=>rw[o d]at b⊢;show .b2 b
     |get l ae=>
      let(v,j,d):=dZ.1 d
      cases v with|ref k=>rw[o d]at b⊢;show .b3 (pF.1 j) b|_=>cases d
     |set l ae B=>
      let q||q:=cc.1 d;.rw[q]at b⊢;show .b4 b
      let(v,j,d):=dZ.1 q
      cases v with|ref k=>rw[o d]at b⊢;show .b5 (pF.1 j) b|_=>cases d
     |_=>cases d) U<|pF.1 a0))
 .let T:∀{f:iV},f>seedsIn e x->f>TQ e t:=λd=>dQ _<|dZ.2 (x,A,d);let i:∀{w:Way}{a:nW},w>waysIn e t x->((w.src,a):iV)>t->((w.dst,a):iV)>TQ e t:=λd b=>cG _<|dZ.2 (_,by rw[ayy,z'];show dZ.2 (x,A,d),bx.2 (_,pF.2 b,aa));let h:∀{α:Type}{a:α}{r:#[α]},a>a::r:=(cp _);let V:∀{α:Type}{a B:α}{r:#[α]},B>a::B::r:=el _<|cp _
  cases r with
  |K=>show T h
  |@R l y q=>show T ?_;change _>(match eV e l with|M=>[(cg l,rP)]|Y _=>[]:#[iV]);rw[q];show h
  |@S l y B _ q d=>show i (w:=(gd B,cg l,l)) ?_ d;change _>(match eV e l with|M=>[]|Y B=>[(gd B,cg l,l)]:#[Way]);rw[q];show h
  |X=>show T h
  |@a0 l f B g _ ab ag=>show i (dZ.2 (_,pF.2 ab,h)) ag
  |@a1 l f B g y _ ab ag a2=>show i (dZ.2 (_,pF.2 ab,el _<|bx.2 (y,CU.2 ag,aa))) a2
  |@a2 l y ae B _ d=>show i h d
  |@a3 l y ae B _ d=>show i V d
  |@a4 l y ae B _ d=>show i h d
  |@a5 l y ae B _ d=>show i V d
  |a6=>show T h
  |@a7 l ae B _ d=>show i h d
  |@a8 l ae B _ d=>show i V d
  |@a9 l ae m _ ab ag=>show i (dZ.2 (_,pF.2 ab,h)) ag
  |@b0 l ae m _ ab ag=>show i (dZ.2 (_,pF.2 ab,h)) ag
  |b1=>show T h
  |@b2 l ae _ d=>show i h d
  |@b3 l ae m _ ab ag=>show i (dZ.2 (_,pF.2 ab,h)) ag
  |@b4 l ae B _ d=>show i h d
  |@b5 l ae B m _ ab ag=>show i (eo _<|dZ.2 (_,pF.2 ab,h)) ag
  |b6=>show T h
def arT(l:#[iV]):∀t:#[iV],(∀f,f>l.foldl (λu f=>if u.contains f=J then u else u++[f]) t↔f>t∨f>l)/\(t.Nodup->(l.foldl (λu f=>if u.contains f=J then u else u++[f]) t).Nodup)/\∃r,l.foldl (λu f=>if u.contains f=J then u else u++[f]) t=t++r:=by
 induction l with
 |nil=>intro t;show(λf=>(aQ,λd=>d.elim id λz=>(by cases z)),id,[],(e' t).symm)
 |cons g l e=>
  intro t;change(∀f,f>l.foldl _ (if t.contains g=J then t else t++[g])↔_)/\(_->(l.foldl _<|if t.contains g=J then t else t++[g]).Nodup)/\∃r,l.foldl _ (if t.contains g=J then t else t++[g])=_;by_cases q:t.contains g=J;.rw[bK q];let(ab,ag,b):=e t;let q:=qf.1 q;show(λf=>(ab f).trans (λd=>d.imp id<|el _,λd=>d.elim aQ λd=>(cc.1 d).elim (λz=>aQ<|z▸q) bl),ag,b)
  .rw[be q];let(ab,ag,r,b):=e (t++[g]);let q:=λz=>q<|qf.2 z;show(λf=>(ab f).trans (λd=>d.elim (λd=>(lC.1 d).imp id λz=>by rw[z];show(cp _)) λd=>bl<|eo _ d,λd=>d.elim (λd=>aQ<|lC.2<|aQ d) λd=>(cc.1 d).elim (λz=>aQ<|lC.2<|bl z) bl),λn=>ag<|pm n q,[g]++r,by rw[b,fi])
def sv(e:aW)(ai:jb->nW->Prop):Prop:=∀x∈bR e,∀p a,il e ai x p a->ai p a
def il.b7{ai}(m:∀p a,ai p a->b p a){x p a}(d:il e ai x p a):il e b x p a:=by
 cases d with|K=>show .K|R a=>show .R a|S a B=>show .S a<|m _ _ B|X=>show .X|a0 a B=>show .a0 (m _ _ a)<|m _ _ B|a1 a B c=>show .a1 (m _ _ a) B<|m _ _ c|a2 a=>show .a2<|m _ _ a|a3 a=>show .a3<|m _ _ a|a4 a=>show .a4<|m _ _ a|a5 a=>show .a5<|m _ _ a|a6=>show .a6|a7 a=>show .a7<|m _ _ a|a8 a=>show .a8<|m _ _ a|a9 a B=>show .a9 (m _ _ a)<|m _ _ B|b0 a B=>show .b0 (m _ _ a)<|m _ _ B|b1=>show .b1|b2 a=>show .b2<|m _ _ a|b3 a B=>show .b3 (m _ _ a)<|m _ _ B|b4 a=>show .b4<|m _ _ a|b5 a B=>show .b5 (m _ _ a)<|m _ _ B|b6=>show .b6
theorem acK{e:aW}{br}(a1:∀t:#[iV],t.Nodup->(∀ai,sv e ai->∀f∈t,ai f.place f.abs)->↑t<=br):∀n t,t.Nodup->(∀ai,sv e ai->∀f∈t,ai f.place f.abs)->br<↑t+n->(∀ai,sv e ai->∀f∈HF e n t,ai f.place f.abs)/\sv e λp a=>((p,a):iV)>HF e n t
 |0,t,ab,ag,i=>bB (a1 t ab ag)<|Nat.not_le_of_lt i
 |n+1,t,ab,ag,i=>by
  let(j,m,r,b):=arT (TQ e t) t;let o:∀ai,sv e ai->∀f∈xj e t,ai f.place f.abs:=λai g f q=>by
   let z||z:=(j f).mp q;.show ag ai g f z
   .let(x,h,r):=acH.1 z;show g x h _ _<|r.b7 λp a d=>ag ai g _ d
  change(∀ai,sv e ai->∀f∈(if↑(xj e t)=↑t then t else HF e n (xj e t)),_)/\sv e λp a=>((p,a):iV)>(if↑(xj e t)=↑t then t else HF e n (xj e t));let b:xj e t=t++r:=b;by_cases z:↑(xj e t)=↑t
  .rw[bK z];show(ag,λx h p a v=>?_);have:r=[]:=by
    rw[b,cW]at z;show Ke<|eW<|Nat.add_left_cancel<|id<|eW z
   let l:=b;rw[this,e']at l;rw[<- l];show((j (p,a)).mpr<|bl<|acH.2 (x,h,v))
  .rw[be z];show acK a1 n (xj e t) (m ab) o ?_;rw[b,cW]at z⊢;lia
def acP{x}(d:x>bR e):cg (bi x)>nX e:=dQ _<|dZ.2 (x,d,(cp _))
def acQ{l B}(d:jP l ae B>bR e):nQ l>nX e/\nR l>nX e:=(cG _<|cG _<|dQ _<|dZ.2 (_,d,(cp _)),cG _<|cG _<|dQ _<|dZ.2 (_,d,el _<|cp _))
def acR{l}(d:kv l ae>bR e):lf l>nX e:=cG _<|cG _<|cG _<|dZ.2 (_,d,(cp _))
def RB{x B}(d:x>bR e)(q:wy x=Y B):B>jc e:=by
 rw[yW];show el _<|ln.2 (_,d,q)
def RC{B}(d:B>jc e):B=rP∨∃x∈bR e,wy x=Y B:=by
 simp_all [yW]
def By{g}(d:nV g>jc e):∃y B,fy g y B>bR e:=by
 let q||(x,b,q):=RC d;.cases q
 .cases x<;>first|(cases q;show(_,_,b))|cases q
def arU{g}(d:uh g>jc e):∃y B,jP g y B>bR e:=by
 let q||(x,b,q):=RC d;.cases q
 .cases x<;>first|(cases q;show(_,_,b))|cases q
def acS{g}(d:ui g>jc e):∃y,kv g y>bR e:=by
 let q||(x,b,q):=RC d;.cases q
 .cases x<;>first|(cases q;show(_,b))|cases q
def acT:sv e λp a=>p>nX e/\a>jc e:=by
 intro x b p a r;let f:rP>jc e:=(cp _);let aD:=acP b
 cases r with|K=>show(aD,f)|R _=>show(aD,f)|X=>show(aD,RB b aa)|a6=>show(aD,RB b aa)|b1=>show(aD,RB b aa)|b6=>show(aD,f)|S _ d|a1 _ _ d|a3 d|a4 d|a5 d|a9 _ d|b0 _ d|b3 _ d|b4 d=>show(aD,d.2)|a0 ab d=>let(_,_,z):=By ab.2;show((cG _<|dQ _<|dZ.2 (_,z,(cp _))),d.2)|a2 d=>show((cG _<|dQ _<|dZ.2 (_,b,(cp _))),d.2)|a7 d=>show((acQ b).1,d.2)|a8 d=>show((acQ b).2,d.2)|b2 d=>show(acR b,d.2)|b5 ab d=>let(_,z):=acS ab.2;show(acR z,d.2)
noncomputable def tS(e:aW):#[iV]:=HF e (TR e+1) []
def RD(e:aW):(∀ai,sv e ai->∀f∈tS e,ai f.place f.abs)/\sv e λp a=>((p,a):iV)>tS e:=by
 show acK (br:=TR e) (λt aD d=>?_) _ _ mP (λ_ _ _ d=>nomatch d) (by change TR e<0+(TR e+1);omega);let ab:=aD.length_le_of_subset (l₂:=(nX e).flatMap λp=>(jc e).map λa=>((p,a):iV)) λf b=>by
  let(ab,ag):=d _ acT f b;show dZ.2 (f.place,ab,bx.2 (f.abs,ag,aa))
 show db ab (px λp _=>by rw[aV];show kD _)
def Bz{p a}(d:((p,a):iV)>tS e):p>nX e/\a>jc e:=(RD e).1 _ acT _ d
def qw(e:aW):fe->Prop|cP p c a=>c=[]/\vd a=[]/\((p,rK a):iV)>tS e|lc f c=>c=[]/\∃y B,fy f y B>bR e
theorem acU:↑(iz [[]])=150:=by rfl'
def yX(aq:cR e):iC e 0 (iz [[]])<|qw e:=by
 show(aq,⋯,λo w c h f r=>?_,λc=>c=[],aa,λc d=>by rw[d];show ex _,λp c ab ag=>abK ab<|by rw[ag];show(cp _),λp c a d=>?_,λf c d=>?_)
 .let h:=by
   cases q:o.owner with|none=>rw[q]at h;show h|some g=>rw[q]at h;show h.1
  subst h;let aA:=(RD e).2 o.node<|kV w;generalize o.node=x at r aA
  cases r with
  |R=>show(aa,aa,aA _ _ .K)
  |S q=>show(aa,aa,aA _ _<|.R q)
  |X q d=>show(aa,d.2.1,aA _ _<|.S q d.2.2)
  |a0=>show(aa,aa,aA _ _ .X)
  |K d=>show(aa,By (Bz d.2.2).2)
  |a1 ab d=>show(aa,d.2.1,aA _ _<|.a0 ab.2.2 d.2.2)
  |b8 _ _ d=>show(aa,d.2.1,d.2.2)
  |@a2 l f a g ae B v ab i d=>
   show(aa,d.2.1,aA _ _<|.a1 ab.2.2 ?_ d.2.2);let(y,A,z):=By (Bz ab.2.2).2;let i:B>oQ e g:=i;delta oQ at i;delta ahn;rw[show sP e g=Y (fy g y A)from aq.a1 z]at i⊢;rw[dj.1 i]
  |a3 d=>show(aa,d.2.1,aA _ _<|.a2 d.2.2)
  |a4 d=>show(aa,d.2.1,aA _ _<|.a3 d.2.2)
  |a5 d=>show(aa,d.2.1,aA _ _<|.a4 d.2.2)
  |a6 d=>show(aa,d.2.1,aA _ _<|.a5 d.2.2)
  |a7=>show(aa,aa,aA _ _ .a6)
  |a8 d=>show(aa,d.2.1,aA _ _<|.a7 d.2.2)
  |a9 d=>show(aa,d.2.1,aA _ _<|.a8 d.2.2)
  |b0 ab d=>show(aa,d.2.1,aA _ _<|.a9 ab.2.2 d.2.2)
  |b1 ab d=>show(aa,d.2.1,aA _ _<|.b0 ab.2.2 d.2.2)
  |b2=>show(aa,aa,aA _ _ .b1)
  |b3 d=>show(aa,d.2.1,aA _ _<|.b2 d.2.2)
  |b4 ab d=>show(aa,d.2.1,aA _ _<|.b3 ab.2.2 d.2.2)
  |b5 d=>show(aa,d.2.1,aA _ _<|.b4 d.2.2)
  |b6 ab d=>show(ab.2.1,d.2.1,aA _ _<|.b5 ab.2.2 d.2.2)
  |b7=>show(aa,aa,aA _ _ .b6)
 .let(ab,ag,T):=d;let(U,j):=Bz T
  let aw:Bc a<30:=by
   cases a with|num=>show ⋯|fn l c=>let(_,_,z):=By j;show aq.K z|pair l c=>let(_,_,z):=arU j;show aq.K z|ref l c=>let(_,z):=acS j;show aq.K z
  show(?_,((λaq d=>by
    let m:∀{q},p>[q]->p=q:=λd=>dj.1 d;let d||d:=du.1 d;.let(x,b,d):=dZ.1 d;rw[m d];show aq.K b
    let d||d:=du.1 d;.let(x,b,d):=dZ.1 d;have:=aq.K b;cases x<;>first|(rwa [m d])|cases d
    let d||d:=du.1 d;.let(x,b,d):=dZ.1 d;have:=aq.K b;cases x<;>first|(let q||q:=cc.1 d;(rwa [q]);(rwa [m q]))|cases d
    .let(x,b,d):=dZ.1 d;have:=aq.K b;cases x<;>first|(rwa [m d])|cases d) aq U),ab,aw,ag,abP aw<|by rw[ag];show(cp _))
  cases a with|fn l c=>show By j|_=>show⟨⟩
 .let(ab,y,B,z):=d;show(aq.K z,ab)
def RF(aq:cR e):tK (λ_=>150) (iz [[]]) (qw e) e:=by
 show(λ_ _ _=>dw,λT aD d a=>?_);rw[<- acU];show(ws aD a).length_le_of_subset λs aw=>?_;let(p,c,x,_,b,ae):=d _ (iB.1 aw);let b:s=di x:=b;rw[b];show((yX aq).a1 ae).2.1
def qv(aq:cR e){p T c x}(b:iT e 0 (iz [[]]) (qw e) (λ_=>150) p T)(h:T.X=W++[(c,x)]):
  ∃aC,em aC (gf<|my T c x<|(dG T.S c).map λ_=>jC e 0 c x) {T with X:=W}:=by
 let ar:=yX aq;let ab:=abH ar b (b.a8 _ (by rw[h];show lC.2<|bl aa));let ag:↑(dG T.a0 c)<=150:=by
  rw[<- acU];show(ws b.a2 c).length_le_of_subset λs aw=>?_;let(_,_,_,_,_,_,d,_):=(b.R _ (iB.1 aw)).1;show d.2
 let i:tP (iz [[]])=22500:=by rfl'
 let j:=b.b5 ar;rw[i]at j;let o:=by
  have:=b.a4.length_le_of_subset (l₂:=(dC e).map λl:O=>((l:N),([]:#[N]))) λq m=>by
   let(f,c,rfl,(rfl,y,B,z)):=b.a0 q m;show bx.2 (f,bx.2 (_,z,aa),aa)
  rw[aV,aq.X,xD]at this;show db this aq.R
 let g:=b.a9;rw[h,cW]at g;generalize gf (my T c x ((dG T.S c).map λ_=>jC e 0 c x))=n at ab⊢;let v:=by omega
 show(22773,?_,?_,?_,?_,?_);.change ↑T.K+n<=22773;omega
 .change ↑T.a0+n<=16777216;omega
 .change ↑T.S+n<=16777216;lia
 .change ↑T.R+n<=16777216;lia
 .change ↑W+n*22773<=16777216;let g:=g;lia
structure pn(e:aW)(p:L)(T:cn):Prop where
 K:iT e 0 (iz [[]]) (qw e) (λ_=>150) p T
 all:∀(l:O) y B,fy l y B>bR e->((l:N),([]:#[N]))>T.R
def arV(aq:cR e)(p:L):A_ (dr e) p 0 aX (pn e p)<|fD<|tP<|iz [[]]:=by
 let f:=iT.b6 (p:=p) (BQ:=aX) (yX aq) (RF aq) λT W c x h b _=>qv aq h b;show(λT d=>f.K T d.K,λT W c x d b i=>?_);let(as,aC,ab,ag,g):=f.step T W c x d.K b i;show(as,aC,ab,ag,λbd ae=>(((g bd ae).1,λl y B z=>(FS ae).1.K _<|d.all l y B z),(g bd ae).2))
section
open PySem (Paired)
theorem acV:∀{l m T bd},hd (l++m) T bd->∃b,hd l T b/\hd m b bd
 |[],m,T,bd,d=>(T,aa,d)
 |o::l,m,T,bd,(e,ab,ag)=>by
  let(b,f,g):=acV ag;show(b,(e,ab,f),g)
theorem acW:∀{l T bd},hd (l.map dd.K) T bd->gC l T bd
 |[],T,bd,d=>d
 |o::l,T,bd,(b,ab,ag)=>by
  cases ab with|K d=>show(b,d,acW ag)
noncomputable def hP(e:aW)(f:N):O->#[cA]:=mz e (Y f.toNat) []
def Gs(x:aW):gW e x>(["fun"]:#[E])↔Cs x=J:=by
 show Bv ?_
 cases x with|var l y=>change bp ((if _ then _ else _)>_)=_;split<;>rfl|_=>rfl
theorem cR.a7(aq:cR e):(dr e).S ["fun"]=cu (mn e):=aq.a3 λx=>Gs x
def arW{l}(d:l>mn e):∃y B,fy l y B>bR e:=by
 let(x,b,rfl):=bx.1 d;let(ab,ag):=je.1 b;cases x<;>first|show(_,_,ab)|cases ag
def arX(aq:cR e){p T}(d:hd (tF (dr e) (mz e M [])<|hP e) (sn p 0) T):pn e p T:=by
 let(m,ab,ag):=acV d;let i:∀{l},l>mn e->dd.R (l:N) [] (hP e l ↑(dr e).K)>((dr e).S ["fun"]).map λf=>dd.R f []<|hP e f ↑(dr e).K:=λ{l} b=>bx.2 ((l:N),by rw[aq.a7];show bx.2 (l,b,aa),aa);show(hQ.b1 (yX aq) (RF aq) (iT.b4 (yX aq) (RF aq)<|acW ab) (λo h=>(?_,λx j=>?_)) ag,λl y B z=>?_);.let(f,g,rfl):=bx.1 h;rw[aq.a7]at g;let(l,b,rfl):=bx.1 g;show(l,[],aa,aa,aa,aa,arW b)
 .let(f,g,rfl):=bx.1 h;cases j
 .show(FS ag).2 _<|i<|bx.2 (_,je.2 (z,aa),aa)
def arZ(aq:cR e)(p:L):em 2820 (gf<|tF (dr e) (mz e M [])<|hP e)<|sn p 0:=by
 let d:gf (tF (dr e) (mz e M [])<|hP e)<=2820:=by
  delta tF;rw[u_,yD];let ab:↑(mz e M [] ↑(dr e).K)<=90:=yH aq M []
  let ag:∀l:#[N],gf (l.map λf=>dd.R f []<|hP e f ↑(dr e).K)<=↑l*91:=λl=>by
   induction l with
   |nil=>show kD _
   |cons f l b=>
    let g:↑(mz e (Y f.toNat) [] ↑(dr e).K)<=90:=yH aq (Y f.toNat) [];change(1+↑(mz e (Y f.toNat) [] ↑(dr e).K))+gf (l.map λf=>dd.R f []<|hP e f ↑(dr e).K)<=(↑l+1)*91;lia
  let h:↑((dr e).S ["fun"])<=30:=by
   rw[aq.a7,aV];delta mn;rw[aV];show db (qe _ _) ?_;have:↑(dC e)=_:=aV ..;rw[<- this,aq.X,xD];show aq.R
  have:=ag<|(dr e).S ["fun"];lia
 generalize gf (tF (dr e) (mz e M []) (hP e))=n at d⊢;show(?_,?_,?_,?_,?_);.change 0+n<=2820;lia
 .change 0+n<=16777216;lia
 .change 0+n<=16777216;lia
 .change 0+n<=16777216;lia
 .change 0+n*2820<=16777216;lia
noncomputable def tT:nW->eT|rP=>hg|nV l=>kh l []|uh l=>kx l []|ui l=>le l []
theorem asa{s}(d:vd s=[]):tT (rK s)=s:=by
 cases s with|num=>rfl|fn l c|pair l c|ref l c=>rw[show c=[]from d];rfl
theorem asb(a:nW):rK (tT a)=a:=by cases a<;>rfl
def asc{w}(e:aW):∀o,w>gq o e->w.owner=o∨∃l y B,w.owner=Y l/\fy l y B>bR e:=by
 induction e with
 |num l n=>intro o d;rw[dj.1 d];show aQ aa
 |var l n=>intro o d;rw[dj.1 d];show aQ aa
 |fn l z ae i=>
  intro o d;let q||q:=cc.1 d;.rw[q];show aQ aa
  .let u||(b,y,B,u,v):=i _ q;.show bl (l,z,ae,u,(cp _))
   .show bl (b,y,B,u,el _ v)
 |fst l ae i|snd l ae i|new l ae i|get l ae i=>
  intro o d;let q||q:=cc.1 d;.rw[q];show aQ aa
  .show(i _ q).imp id λ(b,y,B,u,v)=>(b,y,B,u,el _ v)
 |app l ae B g h|letE l z ae B g h|pair l ae B g h|set l ae B g h|add l ae B g h=>
  intro o d;let q||q:=cc.1 d;.rw[q];show aQ aa
  .let q||q:=du.1 q;.show(g _ q).imp id λ(b,y,B,u,v)=>(b,y,B,u,el _<|dQ _ v)
   .show(h _ q).imp id λ(b,y,B,u,v)=>(b,y,B,u,el _<|cG _ v)
 |ifz l ae B f g h j=>
  intro o d;let q||q:=cc.1 d;.rw[q];show aQ aa
  .let q||q:=du.1 q;.show(g _ q).imp id λ(b,y,B,u,v)=>(b,y,B,u,el _<|dQ _ v)
   let q||q:=du.1 q;.show(h _ q).imp id λ(b,y,B,u,v)=>(b,y,B,u,el _<|cG _<|dQ _ v)
   .show(j _ q).imp id λ(b,y,B,u,v)=>(b,y,B,u,el _<|cG _<|cG _ v)
set_option tactic.hygienic true in
def asd(aq:cR e){p T}(h:pn e p T)(a1:T.X=[]):∀q a,((q,a):iV)>tS e->qy T (cP q []<|tT a):=by
 intro q a d;show(RD e).1 (λq a=>qy T<|cP q []<|tT a) (λx i q a r=>?_) _ d;rw[<- tG e M]at i;let(w,j,rfl):=bx.1 i;let m:jd (qy T) w.owner []:=by
  let u||(l,y,B,u,v):=asc e M j;.rw[u];rfl
  .rw[u];show h.all l y B v
 let aA:=λ{f} r=>iT.b3 (yX aq) h.K a1 j m (f:=f) r;generalize w.node=x at r aA
 cases r with
 |K=>show aA .R
 |R q=>show aA<|.S q
 |S q d=>show aA<|.X q d
 |X=>show aA .a0
 |a0 ab d=>show aA<|.a1 ab d
 |@a1 l f a g B v ab b d=>
  delta ahn at b;split at b;.rename_i A y o z;let b:=hq b;subst b;show aA<|.a2 ab ?_ d;change o>oQ e g;delta oQ;rw[z];show(cp _)
  .cases b
 |a2 d=>show aA<|.a3 d
 |a3 d=>show aA<|.a4 d
 |a4 d=>show aA<|.a5 d
 |a5 d=>show aA<|.a6 d
 |a6=>show aA .a7
 |a7 d=>show aA<|.a8 d
 |a8 d=>show aA<|.a9 d
 |a9 ab d=>show aA<|.b0 ab d
 |b0 ab d=>show aA<|.b1 ab d
 |b1=>show aA .b2
 |b2 d=>show aA<|.b3 d
 |b3 ab d=>show aA<|.b4 ab d
 |b4 d=>show aA<|.b5 d
 |b5 ab d=>show aA<|.b6 ab d
 |b6=>show aA .b7
end
section
open PySem (Paired)
def ase(aq:cR e){a1:#[b_×b_]}{g l:N}{ay:#[N×N]}{vs:#[nW]}(b:vs.Sublist<|jc e)(d:rm a1 g l ay)(a2:∀q:N×N,(∃s aT,((g,l,s),(q.1,q.2,aT))>a1)↔∃B∈vs,jn B=q):ay=vs.map jn:=by
 let f:∀q,q>ay↔q>vs.map jn:=λq=>by rw[d.K,a2,bx]
 show Bs d.R ?_ f d.S ?_ ?_;.show tc jn (λa B h q=>h<|Rw q)<|b.nodup aq.b7
 .show rU.2<|(ayw b aq.b1).imp λ{a B} h=>?_;rw[Go];show iv<|ayx h
 .intro a i B j ab ag;let(p,m,rfl):=bx.1 ((f a).mp i);let(v,o,rfl):=bx.1 ((f B).mp j);rw[Go]at ab ag;rw[aq.b2 (b.mem m) (b.mem o)<|v_ (np.1<|hj ag)<|np.1<|hj ab]
theorem BA{f:aW->#[jb]}(ab:∀x,(f x).Nodup)(ag:∀x,∀p∈f x,vc p=bi x):∀{co:#[aW]},(co.map bi).Nodup->(co.flatMap f).Nodup
 |[],_=>mP
 |x::r,d=>by
  let(g,h):=f_.1 (d);rw[rc];show lQ.2 (ab x,BA ab ag h,λp i q b e=>?_);let(y,j,b):=dZ.1 b;show g<|bx.2 (y,j,?_);rw[<- ag y q b,<- e,ag x p i]
noncomputable def BB:jb->O|cg _=>0|gd _=>1|nQ _=>2|nR _=>2|lf _=>3
def cR.c3(aq:cR e):(nX e).Nodup:=by
 let aD:=aq.a0;let b:∀{p q:jb},p>[q]->p=q:=λd=>dj.1 d;let h:∀{α:Type}{p:α}{C:Prop},p>([]:#[α])->C:=λd=>(by cases d);let m:∀p:jb,[p].Nodup:=λp=>f_.2 (λd=>((by cases d)),mP);let g:∀{f:aW->#[jb]}{n:O}{p:jb},(∀x,∀p∈f x,BB p=n)->p>(bR e).flatMap f->BB p=n:=λd q=>let(x,_,q):=dZ.1 q;d x _ q;let w:∀x:aW,∀p∈(match x with|fy l _ _=>[gd l]|ku l _ _ _=>[gd l]|_=>[]:#[Vacfab.Place]),BB p=1:=λx p d=>by cases x<;>first|(rw[b d];rfl)|show h d
 let o:∀x:aW,∀p∈(match x with|jP l _ _=>[nQ l,nR l]|_=>[]:#[Vacfab.Place]),BB p=2:=λx p d=>by cases x<;>first|(let q||q:=cc.1 d;(rw[q];rfl);(rw[b q];rfl))|show h d
 let v:∀x:aW,∀p∈(match x with|kv l _=>[lf l]|_=>[]:#[Vacfab.Place]),BB p=3:=λx p d=>by cases x<;>first|(rw[b d];rfl)|show h d
 show lQ.2 (BA (λx=>m _) (λx p d=>by rw[b d];rfl) aD,lQ.2 (BA (λx=>by cases x<;>first|show m _|show mP) (λx p d=>by cases x<;>first|(rw[b d];rfl)|show h d) aD,lQ.2 (BA (λx=>?_) (λx p d=>?_) aD,BA (λx=>by cases x<;>first|show m _|show mP) (λx p d=>by cases x<;>first|(rw[b d];rfl)|show h d) aD,λp i q j z=>?_),λp i q j z=>?_),λp i q j z=>?_);.cases x<;>first|show mP|show f_.2 (λd=>(nomatch b d),m _)
 .cases x<;>first|(let q||q:=cc.1 d;(rw[q];rfl);(rw[b q];rfl))|show h d
 .let ab:=g o i;let ag:=g v j;rw[z,ag]at ab;cases ab
 .let ab:=g w i;rw[z]at ab;let ag||ag:=du.1 j;.rw[g o ag]at ab;cases ab
  .rw[g v ag]at ab;cases ab
 .let ab:=g (λx p d=>by rw[b d];rfl) i;rw[z]at ab;let ag||ag:=du.1 j;.rw[g w ag]at ab;cases ab
  let ag||ag:=du.1 ag;.rw[g o ag]at ab;cases ab
  .rw[g v ag]at ab;cases ab
theorem acX{t:#[iV]}{p:jb}{hA:#[nW]}:∀{ay:#[jb]},ay.Nodup->oX (ay.flatMap λp=>hA.filterMap λa=>if Ct t p a=J then Y ((p,a):iV)else M) p=if p>ay then hA.filter (Ct t p)else[]
 |[],_=>rfl
 |q::r,d=>by
  let(ab,ag):=f_.1 d;let b:=acX (t:=t) (p:=p) (hA:=hA) ag;let g:∀(l m:#[iV]),oX (l++m) p=oX l p++oX m p:=λl m=>by unfold oX;rw[ta,cs]
  rw[rc,g,b];by_cases z:p=q
  .subst z;rw[be ab,bK ig,e'];clear b g d ab ag
   induction hA with
   |nil=>rfl
   |cons a hA b=>
    rw[q',pe];by_cases w:Ct t p a=J;.rw[bK w,bK w];change oX ((p,a)::_) p=_;rw[<- b];unfold oX;rw[pe,bK<|vR p];rfl
    .rw[be w,be w];show b
  .have:oX (hA.filterMap λa=>if Ct t q a=J then Y ((q,a):iV)else M) p=[]:=by
    unfold oX;rw[CT.2 λf h=>?_];.rfl
    .let(a,_,e):=ln.1 h;split at e;.cases e;intro y;show z (oV y).symm
     .cases e
   rw[this,mj];by_cases w:p>r;.rw[bK w,bK<|el _ w]
   .rw[be w,be λy=>(cc.1 y).elim z w]
theorem asf(aq:cR e){p}(d:p>nX e):oX (xk e) p=(jc e).filter (Ct (tS e) p):=by
 have:=acX (t:=tS e) (p:=p) (hA:=jc e) aq.c3;rw[bK d]at this;show this
theorem asg(aq:cR e){p T}(b:pn e p T)(h:T.X=[]){l}(a1:cg l>nX e){ay}(d:rm T.K 0 l ay):ay=(oX (xk e)<|cg l).map jn:=by
 rw[asf aq a1];show ase aq vT d λq=>?_;let f:∀B,Ct (tS e) (cg l) B=J↔((cg l,B):iV)>tS e:=λB=>qf;show(λ(s,aT,m)=>?_,λ(B,i,z)=>?_)
 .let(g,c,a,aB,j,ae):=b.K.K _ m
  obtain rfl:g=cg l:=by
   cases g with
   |node o=>
    injection aB with _ aB;injection aB with aB _;rw[mo aB]
   |_=>injection aB with aB _;show bB aB ⋯
  show(rK a,je.2 ((Bz ae.2.2).2,(f _).mpr ae.2.2),?_);rw[Bu,<- j]
 .let(ab,ag):=je.1 i;let v:=asd aq b h _ _<|(f B).mp ag;show([],(di<|tT B).2.2,?_);rwa [<- z,show jn B=((di<|tT B).1,(di<|tT B).2.1) by rw[<- Bu,asb]]
theorem ash(aq:cR e){p:L}{T:cn}(a1:pn e p T)(a2:T.X=[]){ay:#[N×N]}(d:FF (dr e) T.K ay):ay=(TS e<|xk e).map tQ:=by
 let(b,h,rfl):=d.K;rw[aq.a3<|λx=>Bw x]at h⊢
 let A:∀(co:#[aW])(b:#[#[N×N]]),(∀x∈co,x>bR e)->eq (FD (dr e) T.K) (cu<|(co.filter Cr).map bi) b->((cu<|(co.filter Cr).map bi).zip b).flatMap (λe=>lB e.1 e.2)=(co.flatMap λx=>match x with
   |iq l f _=>(oX (xk e)<|lK f).filterMap λv=>(match v with|nV k=>Y (l,k)|_=>M)
   |_=>[]).map tQ:=by
  intro co
  induction co with
  |nil=>intro b _ d;rfl
  |cons y co j=>
   intro b m d;let o:=λx U=>m x<|eo _ U;rw[rc,cs]
   cases y with
   |app l f a=>
    cases d with
    |@cons _ V _ b ab ag=>
     let a0:lB (l:N) V=((oX (xk e)<|lK f).filterMap λv=>(match v with|nV k=>Y (l,k)|_=>M:Option Arrow)).map tQ:=by
      let(i,q,r,aB,a3,a4):=ab;obtain rfl:l=i:=mo aB;let w:=m (iq l f a)<|cp _;let g:=aq.a2 w;rw[show bi (iq l f a)=l from aa,a3]at g;let g:=hq g;injection g with g _;subst g;rw[asg aq a1 a2 (acP<|jl w<|cp _) a4];show acF l _
     rw[<- j b o ag,<- a0];rfl
   |_=>show j b o d
 show A _ _ (λ_ d=>d) h
end
def asi(l B:L)(xs cv:gv bc)(n m:O)(b:bs L)(dU:gv<|bs bc)(h:¬(!xs.isEmpty&&ago (xs.size+cv.size))=J)(ab:xs.size<=ch)(ag:(xs++cv).size<=ch+1):
  Meets (Builtin.«list.extend» ([I l,I B],[]))<|λ_ ax s=>s.heap.get? l=Y {cls:=cF "list",data:=fp xs n}/\s.heap.get? B=Y {cls:=cF "tuple",dict:=b,data:=fp cv m,slots:=dU}/\ax (mm<|pT go) {s with heap:=s.heap.update l<|sK λx=>x++cv}:=by
 show .of_wp λ_ _ _ _ s d=>?_;let(_,_,_,_,_):=s;let(a,c,d):=d;wp_walk using (wpAny_updateSeq a aa (hz:=ab)),ayz a,ayz c;show(_,aa,d)
inductive RG(H:ap)(l:L)(y:V)(Q:ca):Prop|mk(B:L)(xs fG:#[V]):y=.K B->H l=Y (.K xs)->(H B=Y (.K fG)∨H B=Y (.R fG))->↑xs+↑fG<=ch->Q .a0 (a' H l<|.K<|xs++fG)->RG H l y Q
inductive acZ(bt:bT)(D:ck)(Q:ca)(l:L)(H:ap):Prop|mk(xs:#[V]):H l=Y (.K xs)->(bt D H λy aH=>RG aH l y Q)->acZ bt D Q l H
section
variable{C:bW}{o e:dD}{bt cd:bT}{fm:iK}
def BC(a1:bn C o bt)(a2:bn C e cd)(a3:autoParam (sD o "extend" C.K (dx o C.K)=dx o C.K) r_5)
 (a4:autoParam (((h' bj<|er [e] C.K).all (λx=>!x.1)&&(sF bj<|sG [] C.K).all (λx=>x.1.isSome)&&bp (↑[e]+↑([]:#[ud])+(if([]:#[ud]).isEmpty then 0 else 1)<30))=J) r_5)
 (a5:autoParam ((fm.endLine==bj.line)=J) r_5)(aw:autoParam (er [e] C.K=(aX,dx e C.K)::er [] C.K) r_5)(a6:autoParam ((h' bj<|er [] C.K).any (·.1)=aX) r_5):
  bn C (gw (hU o "extend" fm) [e] [] bj)<|ro bt λl D H Q=>acZ cd D Q l H:=by
 intro am s D H Q V d;show agn a3 a4 a5 aa<|a1.K V d λv a0 x al p g b=>?_
 cases x with
 |K l=>
  let(xs,a7,b):=b;let(ab,ag):=DD p g (ps a7);show("list","list.extend",pf,wa,CW,ab,ag,?_);let q:=ak a2 aF aw bj am a0 D al (λvs aH=>match vs with|[y]=>RG aH l y Q|_=>fC) p b;rw[aw]at q⊢;show up (by change(aX||(h' bj<|er [] C.K).any (·.1))=aX;rw[a6]<;>rfl)<|xw<|fR q λa8 a9 b0=>?_;let(vs,aH,f,w,b1):=b0;let (y,rfl,B,xs,fG,aB,h,i||i,A,T):=aca b1;.show DF am a9 D aH (.K l) [y] v a8 Q f g w (l,B,xs,fG,aa,by rw[aB],h,i,A,T)
  .exists b2;subst aB;cases g;obtain⟨u,rfl,⟨⟩⟩:=w.a2;let(z,bh,n,r,b5,e):=f.b3 h;obtain⟨b6,j,U,⟨c,b3,b7,dU⟩,b4,⟨⟩,m,cl⟩:=f.R B _ i;cases cl;let b8:=U.length.symm;let hsz:bh.toArray.size+j.toArray.size<=ch:=by rw[jw,jw];omega
   show b2<|Hr wa (_,e,aa) awv (aww _ _) (asi l B bh.toArray j.toArray n m b3 dU ?_ (by rw[jw];show Kb hsz)<|by rw[Array.size_append];show awx hsz) (e,b4,?_);.rw[V' hsz,xx];show gh
   .show(.a0,_,f.b4 h e (CC bh j) (r.R U) ?_,aa,T);rw[cW];show Ta A
 |_=>show b.elim
end
noncomputable def vk(ay:#[N×N]):#[N]:=ay.flatMap λp=>[p.1,p.2]
theorem asj(ay:#[N×N]):↑(vk ay)=2*↑ay:=by
 induction ay with
 |nil=>rfl
 |cons p r b=>
  change↑([p.1,p.2]++vk r)=_;rw[cW,b];change 2+2*↑r=2*(↑r+1);lia
inductive ada:cq|mk{b a1 h a2 a3}:hb b a1 h->↑h<=100000->(∀af l,bA b af->b l=M->af l=Y (.K<|((↑h:N)::vk h).map V.R)->a2 (.K l) af)->ada [.K a1] b a2 a3
def asl(H:ap)(r:L)(ay:#[N×N])(aj:L)(i:O)(D:ck)(af:ap):Prop:=(∃b e,D=[Y<|.K r,Y<|.K aj,b,e])/\bA H af/\af aj=Y (.K<|((↑ay:N)::vk (ay.take i)).map V.R)
def RH[ci]:cX bH 1 "tell_pairs" ["pairs"] ada:=by
 show aFu.K ["pairs","told","first","second"] λz H vs Q au a7 d aD=>?_
 induction d with
 |@mk H r ay _ _ U a8 a0=>
  show(_,ba (ey 1 aD<|eP<|ak (na aAV<|ao 0) aF)<|ba (jA jg aa (jz<|ao 0) (tg aa<|kk (fB (i:=2) aD aa<|aQ aa)<|kk (fB (i:=3) aD aa<|aQ aa) tf)<|a_<|cw<|BC (ao 1)<|eP<|ak (ao 2)<|ak (ao 3) aF)<|a_<|cy<|ao 1,?_);let(a1,aB,j):=id U;let g:=j.length.symm;show(_,bZ aB,hZ,λaj h=>?_);let l:bA H<|a' H aj<|.K [.R (↑(a1.map V.K):N)]:=cf h;show(r,aa,(_,bZ<|l _ _ aB),?_);let j':∀n:O,n<=300000->n<=ch:=λn d=>db d ⋯;show nv (asl H r ay aj) ((_,_,aa),l,by rw[bG,aV,g,zW];rfl) (λi D af _ d=>bZ<|d.2.1 _ _ aB) (λi x D af m d=>?_)<|λD af d=>?_
  .exists a2;let((a3,a4,rfl),f,b):=d;rw[cV]at m;let(B,v,rfl):=e_.1 m;let aR:=g▸(ff.1 v).1;obtain⟨p,w⟩:∃p,ay[i]? =Y p:=(_,gi aR);let(a9,A,a5):=qo j w;rw[v]at A;cases A;show a2 (B,_,aa,fb<|f _ _ a5,aa,_,_,aa,_,_,aa,aa,(_,b,mX,λq T=>(q,_,_,aa,(cf T) _ _ b,aQ bG,?_,?_)));.rw[aV,hs,asj,iQ];show j' _<|by change _+2<=_;lia
   .show((_,_,aa),λc o e=>?_,?_);.rw[bS<|fj e h];show(cf T) _ _<|f _ _ e
    .rw[bG];let a6:ay.take (i+1)=ay.take i++[p]:=by rw[hF,w];rfl
     rw[a6];delta vk;rw[vS,fg,fg,cs];rfl
  .let((a3,a4,rfl),f,b):=d;rw[aV,g,jQ]at b;show a0 af aj f h b
def dR.a6{t T}(x:dR an H t T)(ab:∀B∈dt,an B≠M)(ag:∀B∈dt,∀xs,H B≠Y (.R xs)):dR (lD an dt) (lD H dt) t T:=by
 let(cC,cb,cl,cS,de,w,dg,x):=x;let k:∀{B o},cC B≠0->H B=Y o->lD H dt B=Y o:=λ{B o} g e=>(nb λq=>ab B q<|x.K.a1 B g)▸e;let b:∀{κ eg:Type}[i_ κ][i_ eg]{fU:lA κ}{gm:lA eg}{n:O}{ae:L}{l:#[κ×eg]},n≠0->ko fU gm H cC n ae l->ko fU gm (lD H dt) cC n ae l:=λh az=>by
  let(m,az):=az;show(m,k (az.X▸h) az.K,λe f=>k (by rw[az.a0 e f];show Nat.succ_ne_zero _)<|az.S e f,az.R,az.X,az.a0,az.a1,az.a2)
 let(aG,i):=x.K.K;show(cC,cb,cl,cS,de,w,dg,(λB o e=>?_,(aG,k (by rw[x.K.S];decide) i),k (by rw[x.K.X];decide) x.K.R,lp x.K.a0 λ_ _ z=>z.K<|λB xs e=>(nb λq=>ag B q xs e)▸e,x.K.S,x.K.X,λB d=>?_),b ⋯ x.R,b ⋯ x.S,b ⋯ x.X,b ⋯ x.a0)
 .by_cases q:B>dt;.rw[yQ q]at e;cases e
  .rw[nb q]at e⊢;show x.K.a2 _ _ e
 .by_cases q:B>dt;.show yQ q
  .rw[nb q];show x.K.a1 B d
theorem df.a7{m}(x:df an H m)(h:bA H af):df (lD af (m.map (·.1))) af m/\bA an (lD af (m.map (·.1)))/\∀B o,H B=M->af B=Y o->lD af (m.map (·.1)) B=Y o:=by
 show((Gc,x.a4,λq b=>h _ _<|x.a1 q b,λq b=>yQ<|bx.2 (q,b,aa)),λB o d=>?_,λB o ab ag=>?_)
 .rw[nb λz=>?_];.show h _ _<|x.K _ _ d
  .let(q,b,rfl):=bx.1 z;rw[x.a2 q b]at d;cases d
 .rw[nb λz=>?_];.show ag
  .let(q,b,rfl):=bx.1 z;rw[x.a1 q b]at ab;cases ab
noncomputable def qA(p g:L)(k:O):#[E×V]:=[("program",.K p),("most",.R k),("grown",.K g)]
structure vl(e:aW)(H:ap)(n:O)(t:L):Prop where
 R:n<=2
 S:∃T,nz H t T (dr e)/\T.a2=n/\((400<↑T.K+↑T.R/\hT e n=M)∨(↑T.K+↑T.R<=400/\∃u,l' e n T u))
theorem vl.K{e:aW}{H af:ap}{n t}(d:vl e H n t)(s:bA H af):vl e af n t:=by
 let(ab,T,ag,b):=d;show(ab,T,ag.K s,b)
structure fd(aC:#[L×bF])(e:aW)(k:O)(an H:ap)(s aG p g:L)(dc:#[N×V]):Prop where
 R:cR e
 X:k<=2
 K:df an H<|(s,.S aAD aG<|qA p g k)::(g,hX.K dc)::aC
 a2:∀q∈aC,∀xs,q.2≠.R xs
 S:lZ an p<|dr e
 a1:∀n y,fq dc n=Y y->∃(m:O)(t:L),n=m/\y=.K t/\vl e an m t
 a0:↑dc<=3/\(dc.map (·.1)).Nodup/\∀q∈dc,q.1>([0,1,2]:#[N])
inductive Gu:cq|mk{a2 b a3 h a4 a5 a1 a6}{p:L}{g:L}{dc:#[N×V]}{a7 a8}:fd a2 b a3 a4 a5 a1 a6 p g dc->h<=2->(∀en af a9 t,bA a4 en->fd a2 b a3 en af a1 a6 p g a9->vl b en h t->a7 (.K t) af)->Gu [.K a1,.R h] a5 a7 a8
def asm:fu ["self","most"] ["self","most"]<|dh<|uW 3:=∅
set_option tactic.hygienic true in
def Gv[ci]:eD bH 15 aAD "find_table_by" ["self","most"] Gu:=by
 show aCo.K aAW.K.K _ (ai:=asm) λz H vs Q au a1 d _=>?_
 induction d with
 |@mk aC e k n an H s aG p g dc _ _ x h a2=>
  let o:=lw a1;show(_,ba (dF (lS<|AA o (ao 1)<|bV aAW.S<|ao 0) (a_<|sh o (bV aAW.S<|ao 0) (ao 1) (dT apg a1 bm<|ak (bV aAW.K<|ao 0)<|ak (ao 1) aF) aa) d_)<|a_<|cy<|yq o (bV aAW.S<|ao 0) (ao 1)<|λ_ _=>rfl,(.K g,x.K.S 0,g,fq dc n,aa,hX.S (x.K.R 1 aa) aa,_,aa,dH (λi=>?_) λi=>?_))
  .let a3:fq dc (n:N)=M:=by
    cases q:fq dc (n:N)with|none=>rfl|some y=>rw[q]at i;cases i
   let a6:=x.K.R 0 aa;let a7:=x.K.R 1 aa;show(.K p,x.K.S 0,(p,n,dr e,_,_,mz e M [],90,aa,x.S.K x.K.K,aqn x.R h p,x.R.a6 M [],aqo x.R p n,λbd d=>iT.b4 (yK x.R h) abR d,λal t a8 b6 a4 v fin=>?_));let l:=a4.S;let(a9,w,_):=x.K.a7 l;let gV:∀q∈(aZ s<|bF.S aAD aG<|qA p g k)::(aZ g<|hX.K dc)::aC,∀xs,q.2≠.R xs:=λq b xs=>by
    let z||z:=cc.1 b;.rw[z];show λz=>nomatch z
    let z||z:=cc.1 z;.rw[z];show λz=>nomatch z
    .show x.a2 q z xs
   let dW:vl e (lD al (((aZ s<|bF.S aAD aG<|qA p g k)::(aZ g<|hX.K dc)::aC).map (·.1))) n t:=by
    let b0:=a4.a6 (dt:=((aZ s<|bF.S aAD aG<|qA p g k)::(aZ g<|hX.K dc)::aC).map (·.1)) (λB A=>?_)<|λB A xs=>?_;.show(h,a8,(_,b0,?_),v.a1.2,aqq x.R h v fin);rw[v.a1.1];show x.S.K<|(x.K.a7 λ_ _ d=>d).2.1
    .let(q,b,rfl):=bx.1 A;rw[x.K.a1 q b];show λz=>nomatch z
    .let(q,b,rfl):=bx.1 A;rw[l _ _<|x.K.a1 q b];show λz=>gV q b xs<|hq z
   let T:=a9.a0 1 aa<|hX.K<|gS dc (n:N)<|.K t;let a5:∀j:N,fq (gS dc (n:N)<|.K t) j=if j=n then Y (.K t)else fq dc j:=λj=>Pq dc _ j _;let b1:gS dc (n:N) (.K t)=dc++[(aZ ((n:N))<|.K t)]:=Wr _ a3;let b2:=ald a3;let b3:(n:N)>([0,1,2]:#[N]):=by
    let q||q:=HA n 1;.rw[show n=0 by show Nat.lt_one_iff.1 q];decide
    let U||U:=HA n 2;.rw[show n=1 by show Nat.eq_of_le_of_lt_succ q U];decide
    .rw[show n=2 by show eW<|v_ U h];decide
   let a0:((dc++[(aZ ((n:N))<|V.K t)]).map (·.1)).Nodup/\∀q∈dc++[(aZ ((n:N))<|V.K t)],q.1>([0,1,2]:#[N]):=by
    show(?_,λq b=>?_);.rw[cs];show pm x.a0.2.1 b2
    .let z||z:=du.1 b;.show x.a0.2.2 q z
     .rw[dj.1 z];show b3
   let hx:=by
    have:=a0.1.length_le_of_subset λy f=>by
     let(q,b,rfl):=bx.1 f;show a0.2 q b
    rw[aV]at this;show this
   show(.K g,(_,(aG,l _ _ a6),aa),g,_,aa,hX.a0 (l _ _ a7) aa<|kF x.a0.1 ⋯,(.K g,T.S 0,g,.K t,aa,?_,a2 _ _ _ t w (x.R,x.X,T,x.a2,x.S.K w,λj y f=>?_,?_) dW));.have:=hX.S (T.R 1 aa) (k:=(n:N)) aa;rw[a5,bK aa]at this;show this
   .rw[a5]at f;split at f;.rename_i z;cases f;show(n,t,z,aa,dW)
    .let(m,cZ,aB,b4,b5):=x.a1 j y f;show(m,cZ,aB,b4,b5.K w)
   .rw[b1];show(hx,a0)
  .cases q:fq dc (n:N)with
   |none=>rw[q]at i;cases i
   |some y=>
    let(m,t,aB,rfl,dW):=x.a1 _ y q;let aB:=mo aB;subst aB;have:=hX.S (x.K.R 1 aa) (k:=(n:N)) aa;rw[q]at this;show(.K g,x.K.S 0,g,.K t,aa,this,a2 _ _ _ t (λ_ _ d=>d) x dW)
noncomputable def fw(r:Out_):#[N]:=match r with|mm x=>x.2.map λn:O=>(n:N)|pU n=>[-(n:N)]
inductive Gw:cq|mk{a2 b h a3 a4 a1 a5}{p:L}{g:L}{dc:#[N×V]}{a6 a7}:fd a2 b h a3 a4 a1 a5 p g dc->(∀en af a8 t,bA a3 en->fd a2 b h en af a1 a5 p g a8->vl b en h t->a6 (.K t) af)->Gw [.K a1] a4 a6 a7
inductive oz(ask:pZ)(a3:ap->#[V]->Prop):cq|mk{a4 h a1 b a5 a2 a6}{p:L}{g:L}{dc:#[N×V]}{a7 a8 a9}:fd a4 h a1 b a5 a2 a6 p g dc->a3 b a7->(∀en af b0 l,bA b en->fd a4 h a1 en af a2 a6 p g b0->b l=M->en l=Y (.K<|(fw<|hh (h,a1) ask).map V.R)->a8 (.K l) af)->oz ask a3 (.K a2::a7) a5 a8 a9
def asn:fu ["self"] ["self"]<|dh<|uW 2:=∅
theorem fd.a4{aC e k an H s aG p g dc}(x:fd aC e k an H s aG p g dc){B}(b1:H B=M)(o:bF):bA an (a' an B o)/\fd aC e k (a' an B o) (a' H B o) s aG p g dc:=by
 let f:bA an<|a' an B o:=cf<|x.K.K.S b1;let h:∀q∈(s,bF.S aAD aG<|qA p g k)::(g,hX.K dc)::aC,q.1≠B:=λq b z=>by
  have:=x.K.a1 q b;grind
 show(f,x.R,x.X,(λc u d=>?_,x.K.a4,λq b=>by rw[bS<|h q b];show x.K.a1 q b,λq b=>by rw[bS<|h q b];show x.K.a2 q b),x.a2,x.S.K f,λn y d=>?_,x.a0)
 .by_cases z:c=B;.simp_all [bG]
  .rw[bS z]at d⊢;show x.K.K _ _ d
 .let(m,t,aB,i,j):=x.a1 n y d;show(m,t,aB,i,j.K f)
def aso[ci]:eD bH 16 aAD "find_table" ["self"] Gw:=by
 show aCn.K aAW.K.K _ (ai:=asn) λz H vs Q au b d _=>?_
 induction d with
 |@mk aC e k an H s aG p g dc _ _ x f=>
  show(_,a_<|cy<|eX Gv (ao 0) b bm<|ak (bV aAW.R<|ao 0) aF,(x.K.X 0,.R k,x.K.S 0,.mk x x.X f))
structure adb:Prop where
 a2:PX aAA
 R:Zb aAD
 X:eD bH 16 aAD "find_table" ["self"] Gw
 K:eD bH 2 aAA "too_large" ["self"] Qj
 a3:eD bH 1 aAA "count_facts" ["self"] aaa
 S:fA aAy "TOO_LARGE"<|-7
def iW[ci]:adb:=(aAS,aAW,aso,aad,aac,aBx)
def asp[ci]:cX bH 17 "answer_facts" ["subject"]<|oz .facts λ_ vs=>vs=[]:=by
 show aFi.K ["subject","table"] λz H vs Q aW j d aD=>?_
 induction d with
 |@mk aC e k an H s aG p g dc _ _ _ x T A=>
  subst T;show(_,ba (ey 1 aD<|fS iW.X (ao 0) j bm)<|ba (dF (ik<|fS iW.K (ao 1) j bm) (a_<|cy<|eP<|ak (cH iW.S) aF) d_)<|a_<|cy<|eP<|ak (fS iW.a3 (ao 1) j bm)<|ak (bV (iW.a2.K,iW.a2.a1)<|ao 1) aF,(x.K.X 0,.mk x λal af a1 t i y dW=>?_));exists U;let(_,b,a0,a2,fin):=id dW;let(cT,m):=a0.K y.K.K;let(cb,cl,cS,de,mG,o):=m.K.X;show U ((_,o,aa),cT,t,b,aa,m.K,dH (λq=>?_) λq=>?_)
  .show(hZ,λl h=>?_);let(v,z):=y.a4 h (bF.K [V.R<|-7]);show A _ _ _ l (i.K v) z ((i.K y.K.K).S h) ?_;let (_,f)||(f,_):=fin;.rw[bG];change _=Y (bF.K<|(fw<|kB (hT e k) 7 _).map V.R);rw[f];rfl
   .show bB (eH q)<|np.2 f
  .show((_,o,aa),cT,t,b,aa,m.K,.R ↑b.R,(_,o,aa),mX,λl h=>?_);let(v,z):=y.a4 h (bF.K [V.R ((↑b.K+↑b.R:O):N),V.R ↑b.R]);show A _ _ _ l (i.K v) z ((i.K y.K.K).S h) ?_;let (f,_)||(_,u,w):=fin;.show bB f<|hj q
   .rw[bG];change _=Y (bF.K<|(fw<|kB (hT e k) 7 _).map V.R);rw[w.K];change _=Y (bF.K [V.R (↑u:O),V.R (↑(comes u):O)]);rw[w.a3,w.a4]
theorem fd.a3{aC k s aG p g}(x:fd aC e k an H s aG p g dc)(h:bA H af):∃al,bA an al/\fd aC e k al af s aG p g dc/\∀B o,H B=M->af B=Y o->al B=Y o:=by
 let(f,b,i):=x.K.a7 h;show(_,b,(x.R,x.X,f,x.a2,x.S.K b,λn y d=>?_,x.a0),i);let(m,t,aB,j,l):=x.a1 n y d;show(m,t,aB,j,l.K b)
def Gx(aq:cR e):↑(dr e).R<=30:=by
 change↑((bR e).map _)<=30;rw[aV,mS];show aq.R
def adc(i:O)(d:(dr e).R[i]? =Y ("call":E)):∃q r,(dr e).X[i]? =Y (q::r):=by
 let d:((bR e).map<|gW e)[i]? =Y ("call":E):=d;rw[cV]at d;let(x,b,q):=e_.1 d;let g:=(Bw x).mp (by rw[q];show(cp _));change∃q r,((bR e).map _)[i]? =Y (q::r);rw[cV,b]
 cases x with|app l f a=>show(_,_,aa)|_=>cases g
def Gy(aq:cR e):↑(jc e)<=31:=by
 rw[yW,hs];have:=CZ wy<|bR e;rw[mS]at this;have:=aq.R;lia
theorem asq(l:#[Arrow]):((↑(l.map tQ):N)::vk (l.map tQ))=(↑l::l.flatMap λa=>[a.site,a.fn]).map λn:O=>(n:N):=by
 rw[aV];show dP ((↑l:N)::·) ?_
 induction l with|nil=>rfl|cons a r b=>show dP (λz=>(a.site:N)::(a.fn:N)::z) b
def asr[ci]:cX bH 17 "answer_arrows" ["subject"]<|oz .arrows λ_ vs=>vs=[]:=by
 show aFm.K ["subject","table"] λz H vs Q aW b d aD=>?_
 induction d with
 |@mk aC e k an H s aG p g dc _ _ _ x a2 q=>
  subst a2;show(_,ba (ey 1 aD<|fS iW.X (ao 0) b bm)<|ba (dF (ik<|fS iW.K (ao 1) b bm) (a_<|cy<|eP<|ak (cH iW.S) aF) d_)<|a_<|cy<|dT RH b bm<|ak (dT aaU b bm<|ak (ao 1) aF) aF,(x.K.X 0,.mk x λal af b0 t h y dW=>?_));exists a3;let(_,w,a4,b1,fin):=id dW;let A:=a4.K y.K.K;let(cT,T):=id A;let(cb,cl,cS,de,mG,a5):=T.K.X;show a3 ((_,a5,aa),cT,t,w,aa,T.K,dH (λo=>?_) λo=>?_)
  .show(hZ,λl j=>?_);let(m,z):=y.a4 j (bF.K [V.R<|-7]);show q _ _ _ l (h.K m) z ((h.K y.K.K).S j) ?_;let (_,f)||(f,_):=fin;.rw[bG];change _=Y (bF.K<|(fw<|kB (hT e k) 7 _).map V.R);rw[f];rfl
   .show bB (eH o)<|np.2 f
  .let (f,_)||(b2,u,U):=fin;.show bB f<|hj o
   show(t,w,dr e,aa,A,db (Gx x.R) ⋯,by lia,λi d=>adc i d,λaH r ay m b3 a6 dS=>?_);let a0:=Gq x.R U dS;show .mk a6 ?_ λb4 l a7 j a8=>?_
   .rw[a0,aV]
    show db ((by
      let d:=px (l:=bR e) (f:=λx=>match x with
        |iq l f _=>(lj e u<|cg<|bi f).filterMap λv=>(match v with|nV k=>Y ((l,k):Arrow)|_=>M)
        |_=>[]) λx _=>by
       cases x with|app l f a=>show db (CZ _ _)<|db (qe _ _)<|Gy x.R|_=>show CV.1 aa
      rw[mS]at d;show db d<|ayd 31 x.R.R)) ⋯
   .let a1:=m.S j;let(b5,a9,z,fv):=y.a3 (m.K a7);show q _ _ _ l (h.K a9) z ((h.K y.K.K).S a1) ?_;rw[fv l _ a1 a8,a0,asq];change _=Y (bF.K<|(fw<|kB (hT e k) 7 _).map V.R);rw[U.K];rfl
def mA(aC:#[L×bF])(e:aW)(k:O)(an:ap)(s aG p g:L)(fG:#[N])(Q:ca):Prop:=∀en af b l,bA an en->fd aC e k en af s aG p g b->an l=M->en l=Y (.K<|fG.map V.R)->Q (.K l) af
section
variable{aC:#[L×bF]}{k:O}{al:ap}{s aG p g:L}{dc:#[N×V]}{fG:#[N]}{Q:ca}{i:O}{nf:gz}{aj:gQ}{D:ck}{l:N}
theorem mA.R(h:mA aC e k an s aG p g fG Q)(b:bA an al):mA aC e k al s aG p g fG Q:=λ_ _ _ l f i j m=>h _ _ _ l (b.K f) i (b.S j) m
theorem mA.K(h:mA aC e k an s aG p g fG Q)(x:fd aC e k an H s aG p g dc){vs}(hz:fG.map V.R=vs)(b:↑vs<=ch):Du vs H Q:=
 (b,λl b=>by
  let(f,z):=x.a4 b (bF.K vs);show h _ _ _ l f z (x.K.K.S b)<|by rw[bG,hz])
theorem mA.S(h:mA aC e k an s aG p g fG Q)(x:fd aC e k an H s aG p g dc){l}(a1:bA H af)(b:H l=M)(d:af l=Y (.K<|fG.map V.R)):Q (.K l) af:=by
 let(i,f,z,fv):=x.a3 a1;show h _ _ _ l f z (x.K.K.S b)<|fv l _ b d
def yZ(x:fd aC e k an H s aG p g dc)(a2:dU D 0=Y (.K s))(aR:∀v,dU (D.set i<|Y v) i=Y v)(a1:mA aC e k an s aG p g fG Q)(a3:aj.R=Q)(hz:hT e k=M->fG=[-7])
 (n:∀al af b t T u,bA an al->fd aC e k al af s aG p g b->nz af t T (dr e)->T.a2=k->↑T.K+↑T.R<=400->l' e k T u->mA aC e k al s aG p g fG Q->nf aj (D.set i<|Y<|.K t) af):
  ls (sa (vg aAD "find_table" Gw qp<|fH 0)<|r' i) (ls (nu (Bi<|vg aAA "too_large" Qj qp<|fH i) (r_<|yg<|ii (gA<|.R<|-7) kl) ph) nf) aj D H:=by
 subst a3;delta ls sa vg ro fH;rw[a2];show(x.K.X 0,.mk x λal af b t h y dW=>?_);delta r' nu Bi;dsimp only;dsimp only[gQ.S];rw[aR];exists q;let(_,l,w,A,fin):=dW;let m:=w.K y.K.K;let(cT,o):=id m;let(cb,cl,cS,de,mG,U):=o.K.X;show q ((_,U,aa),cT,t,l,aa,o.K,dH (λj=>?_) λj=>?_)
 .let (_,f)||(f,_):=fin;.show(a1.R h).K y (by rw[hz f];rfl) hZ
  .show bB (eH j)<|np.2 f
 .let (f,_)||(V,u,a0):=fin;.show bB f<|hj j
  .show n al af b t l u h y m A V a0<|a1.R h
theorem RK(aq:cR e):(dr e).a0 l=bp (0<=l/\l<(cU e:O)):=by
 delta dV.a0;rw[show↑(dr e).R=cU e by change↑((bR e).map _)=_;rw[aV,mS]];show eW<|TU (0<=l)<|l<((cU e):Int)
def ade(aq:cR e)(d:(dr e).a0 l=J):∃y∈bR e,l=(bi y:O)/\∀f,nZ (e,k) l f=f y:=by
 rw[RK aq]at d;let(ab,ag):=eH d;let h:l.toNat<↑(bR e):=by rw[mS];show(ayg ab).mpr ag
 let b:=gi h;let i:=aq.a4 b;let g:=gs b;show(_,g,by omega,λf=>?_);delta nZ;rw[be<|Int.not_lt_of_ge ab];have:=aq.a1 g;rw[i]at this;rw[this];rfl
def ass(aq:cR e)(d:(dr e).a0 l=aX)(f:aW->Out_):nZ (e,k) l f=pU 3:=by
 rw[RK aq]at d;delta nZ;by_cases ab:l<0;.rw[bK ab]
 .rw[be ab]
  cases q:sP e l.toNat with
  |none=>rfl
  |some y=>
   let(b,g):=abj q;have:=(ff.1<|aq.S b).1;grind [mS]
def Gz(x:fd aC e k an H s aG p g dc)(a1:dU D 0=Y (.K s))(ab:dU D 1=Y (.R l))(a2:mA aC e k an s aG p g fG Q)(a3:aj.R=Q)(hz:(∀f,nZ (e,k) l f=pU 3)->fG=[-3])
 (n:∀y∈bR e,l=(bi y:O)->(∀f,nZ (e,k) l f=f y)->nf aj D H):
  ls (nu (Ag<|Bi<|Bj aAC "has_node" QB qp (m' aAD "program"<|fH 0)<|ii (fH 1) kl) (r_<|yg<|ii (gA<|.R<|-3) kl) ph) nf aj D H:=by
 subst a3;delta ls nu Ag Bi Bj m' ro fH;rw[a1];let(ax,h):=x.S.K x.K.K;show(.K p,x.K.S 0,(_,h.R,aa),?_);delta ii;dsimp only;rw[ab];show(p,dr e,l,aa,(ax,h),dH (λb=>?_) λb=>?_);.show a2.K x (by rw[hz<|ass x.R<|‹b›];rfl) hZ
 .let(y,ag,i,j):=ade x.R ‹b›;show n y ag i j
end
def rr(f:N->pZ):cq:=λvs H Q au=>∃l,oz (f l) (λ_ vs=>vs=[.R l]) vs H Q au
structure ast:Prop extends adb where
 a0:eD bH 1 aAC "has_node" ["self","label"] QB
 a1:fA aAy "NO_NODE"<|-3
theorem adf(l:#[nW]):((↑(l.map jn):N)::vk (l.map jn))=(TV l).map λn:O=>(n:N):=by
 rw[aV];show dP ((↑l:N)::·) ?_
 induction l with
 |nil=>rfl
 |cons a r b=>
  change(jn a).1::(jn a).2::vk (r.map jn)=(toldAbs a++r.flatMap toldAbs).map _;rw[b,cs];cases a<;>rfl
def iF[ci]:ast:=(iW,aaK,aBy)
def asu[ci]:cX bH 17 "answer_values" ["subject","label"]<|rr TW:=by
 show aFj.K ["subject","label","table"] λz H vs Q aW b d aD=>?_;let(l,d):=d
 induction d with
 |@mk aC e k an H s aG p g dc _ _ _ x q f=>
  subst q;show(_,ba (dF (nt<|ik<|eX iF.a0 (bV iF.R.K<|ao 0) b bm<|ak (ao 1) aF) (a_<|cy<|eP<|ak (cH iF.a1) aF) d_)<|ba (ey 2 aD<|fS iF.X (ao 0) b bm)<|ba (dF (ik<|fS iF.K (ao 2) b bm) (a_<|cy<|eP<|ak (cH iF.S) aF) d_)
  <|a_<|cy<|dT RH b bm<|ak (eX AT (ao 2) b bm<|ak (cH aAZ)<|ak (ao 1) aF) aF,Gz x aa aa f aa (λd=>by change fw (nZ (e,k) l _)=_;rw[d];rfl) λy a6 v w=>?_);let aw:∀u,hT e k=u->fw (hh (e,k)<|TW l)=fw (kB u 7 λt=>p_ (e,k)<|TV<|lj e t<|cg<|bi y):=λu A=>by
   change fw (nZ (e,k) l _)=_;rw[w,<- A];rfl
  show yZ x aa (λ_=>rfl) f aa (λd=>aw _ d) λal af a7 t T u a8 z U a9 V h f=>?_;exists a0;let(cT,i):=U;let(cb,cl,cS,de,mG,a1):=i.K.X;show a0 ((_,a1,aa),cT,t,T,0,l,aa,i.K,kF (db (nq _ _) V) ⋯,λaH r ay j b0 a2 m=>?_);let o:=wB x.R h (p:=cg<|bi y) (by rw[v]at m;show m);show .mk a2 ?_ λb1 a a3 a4 a5=>?_;.rw[o,aV];show db (db (qe _ _)<|Gy x.R) ⋯
  .show f.S z (j.K a3) (j.S a4) ?_;rw[a5,o,adf,aw _ h.K];rfl
def asv(k:O):fe->Prop|lc _ c=>k=0∨c≠[]|cP _ _ _=>kz
def asw{w k f}(d:gy w k f):asv k f:=by
 show gy.K (λo b c e f r=>?_) d;let(x,eA):=o
 cases r with
 |K _=>
  cases k with|zero=>show aQ aa|succ n=>show bl λz=>(by cases z)
 |_=>trivial
def RP{k T t}(x:l' e k T t)(f:N):↑(dG T.R f)<2∨∀u∈dG T.R f,u≠[]:=by
 let j:∀u∈dG T.R f,∃(g:O)(c:#[O]),u=cu c/\↑c<=k/\(k=0∨c≠[]):=λu b=>by
  let ab:=iB.1 b;let(g,c,aB,l):=x.a0 _ ab;let(rfl,rfl):=aho aB;show(g,c,aa,l.1,asw<|(x.S<|lc g c).mp<|(x.R _).mpr ab)
 by_cases o:k=0
 .left;show afz λd=>?_;let m:∀i,i<2->(dG T.R f)[i]? =Y []:=λi d=>by
   let aR:i<↑(dG T.R f):=by lia
   let(g,c,aB,l,_):=j _ (agW aR);let h:c=[]:=List.length_eq_zero_iff.1 (by lia);rw[gi aR,aB,h];rfl
  show bB (DV (ws x.a2 f) (m 0 ⋯)<|m 1 ⋯) ⋯
 .right;intro u b z;let(g,c,aB,_,h):=j u b;rw[z]at aB;show(h.resolve_left o)<|ayc.1 aB.symm
def adg:fu ["subject","label","table"] ["subject","label"]<|dh<|cr 116:=∅
def tU(f:α->V){xs:#[α]}{j:O}{a:α}(d:xs[j]? =Y a):oj (xs.map f) (j:N)=Y (f a):=lU<|by simp_all
def asx[ci]:cX bH 17 "answer_name" ["subject","label"]<|rr HG:=by
 show aFs.K _ (ai:=adg) λz H vs Q aW h d _=>?_;let(l,d):=d
 induction d with
 |@mk aC e k an H s aG p g dc _ Q _ x U b=>
  subst U;let aD:=adg.K;show(_,ba (dF (nt<|ik<|eX iF.a0 (bV iF.R.K<|ao 0) h bm<|ak (ao 1) aF) (a_<|cy<|eP<|ak (cH iF.a1) aF) d_)
  <|ba (dF (nw VX (fW kQ (bV (aAR.K,aAR.R)<|bV iF.R.K<|ao 0) (ao 1)<|λ_ _=>rfl) (es<|ak gR<|ak gR aF) aa) (a_<|cy<|eP<|ak (cH aBi) aF) d_)
  <|ba (ey 2 aD<|fS iF.X (ao 0) h bm)<|ba (dF (ik<|fS iF.K (ao 2) h bm) (a_<|cy<|eP<|ak (cH iF.S) aF) d_)
  <|a_<|cy<|dT RH h bm<|ak (eX AT (ao 2) h bm<|ak (cH aBe)<|ak (ao 1) aF) aF,Gz x aa aa b aa (λd=>by change fw (nZ (e,k) l _)=_;rw[d];rfl) λy a0 a1 a2=>?_);subst a1;let(ax,o):=x.S.K x.K.K;let a3:(dr e).R[bi y]? =Y (gW e y):=by
   change((bR e).map _)[_]? =_;rw[cV,x.R.S a0];rfl
  let j:hh (e,k) (HG (bi y:O))=if Bx y=J then onTable (e,k) λt=>p_ (e,k) (TV (lj e t (gd (bi y))))else pU 5:=by
   change nZ (e,k) _ _=_;rw[a2];cases y<;>rfl
  show(.K p,x.K.S 0,.K ax.K,(_,o.R,aa),ax.K,_,_,_,aa,aa,bZ o.S,tU V.S a3,mX,λB i=>?_);let(m,z):=x.a4 i (bF.R [.S "fun",.S "let"]);let b:mA aC e k _ s aG p g _ Q:=b;let b:=b.R m;show(B,_,aa,bl (fb bG),aa,aa,_,aa,dH (λf=>?_) λf=>?_)
  .let i:Bx y≠J:=λq=>by
    let ab:=A' (k:=gW e y) (bu:=["fun","let"]);let ag:=(RA (e:=e) y).mpr q;rw[hp ag]at ab;let f:=f;rw[show uK (V.S (gW e y)) [V.S "fun",V.S "let"]=J from ab]at f;cases f
   rw[be i]at j;show b.K z (by rw[j];rfl) hZ
  .let i:=by
    show(RA (e:=e) y).mp (eH ?_);rw[<- A'];let f:=f
    cases q:uK (V.S (gW e y)) [V.S "fun",V.S "let"]with|true=>show q|false=>rw[q]at f;cases f
   rw[bK i]at j;let aw:∀u,hT e k=u->fw (hh (e,k) (HG (bi y:O)))=fw (kB u 7 λt=>p_ (e,k) (TV (lj e t (gd (bi y))))):=λu a4=>by
    rw[j,<- a4];rfl
   delta ph gQ.S;dsimp only;show yZ z aa (λ_=>rfl) b aa (λd=>aw _ d) λal af b4 t T u b5 z a5 b6 a6 v b=>?_;exists a7;let(cT,w):=a5;let(cb,cl,cS,de,mG,a8):=w.K.X;show a7 ((_,a8,aa),cT,t,T,1,_,aa,w.K,kF (db (nq _ _) a6) ⋯,λaH r ay m b7 a9 b0=>?_);let A:=wB x.R v (p:=gd (bi y)) b0;show .mk a9 ?_ λb8 a b1 b2 b3=>?_;.rw[A,aV];show db (db (qe _ _) (Gy x.R)) ⋯
   .show b.S z (m.K b1) (m.S b2) ?_;rw[b3,A,adf,aw _ v.K];rfl
def asy(aq:cR e)(t:ua):↑(zp e t)<=30:=by
 delta zp;rw[aV];show db (qe _ _) ?_;have:=dP mR<|tG e M;rw[aV,mS]at this;show this▸aq.R
def asz[ci]:cX bH 17 "answer_dead" ["subject"]<|oz .dead λ_ vs=>vs=[]:=by
 show aFq.K ["subject","table","dead"] λz H vs Q aW b d aD=>?_
 induction d with
 |@mk aC e k an H s aG p g dc _ Q _ x q f=>
  subst q;show(_,ba (ey 1 aD<|fS iW.X (ao 0) b bm)<|ba (dF (ik<|fS iW.K (ao 1) b bm) (a_<|cy<|eP<|ak (cH iW.S) aF) d_)<|ba (ey 2 aD<|dT apx b bm<|ak (ao 1) aF)<|a_<|cy<|Am Wd (eP<|ak (na aAV<|ao 2) aF)<|ao 2,?_);let aw:∀u,hT e k=u->fw (hh (e,k) .dead)=fw (kB u 7 λt=>p_ (e,k)<|HH<|zp e t):=λu v=>by
   rw[<- v];rfl
  show yZ x aa (λ_=>rfl) f aa (λd=>aw _ d) λal af a0 t T u a1 z w a2 a3 h f=>?_;let A:↑(dr e).K<=1000:=by
   change↑((gq M e).map _)<=1000;have:=dP mR<|tG e M;rw[aV,mS]at this;rw[aV,this];show db x.R.R ⋯
  show(t,T,_,aa,w,A,RP h,λaH r l a4 i=>?_);rw[arz x.R h]at i;show(_,bZ i,hZ,λa U=>?_);let j:=cf (o:=bF.K [V.R (↑((cu<|zp e u).map V.R):O)]) U;show(a,r,_,_,aa,aa,bG,j _ _ i,?_,λB m=>?_);.rw[aV,aV];have:=asy x.R u;show db (show 1+_<=31 by lia) ⋯
  .show f.S z (l.K<|j.K<|cf (o:=bF.K<|[V.R (↑((cu<|zp e u).map V.R):O)]++(cu<|zp e u).map V.R) m) (l.S<|j.S m) ?_;rw[bG,aw _ h.K,aV,aV];rfl
theorem adh(e:aW){kd}(d:∀x,gW e x>([kd]:#[E])↔q x=J):(dr e).R.countP (λk=>k==kd)=↑((bR e).filter q):=by
 change((bR e).map _).countP _=_;rw[ayh,List.countP_eq_length_filter];congr 1;show C_ λx _=>?_;rw[oa,<- d,dj];show rQ
def asA[ci]:cX bH 17 "answer_size" ["subject"]<|oz .size λ_ vs=>vs=[]:=by
 show aFt.K ["subject","program"] λz H vs Q aW i d aD=>?_
 induction d with
 |@mk aC e k an H s aG p g dc _ Q _ x j f=>
  subst j;show(_,ba (ey 1 aD<|bV iW.R.K<|ao 0)<|a_<|cy<|eP<|ak (na aAV<|bV (aAR.K,aAR.R)<|ao 1)<|ak (bV iW.R.R<|ao 0)<|ak (eX aaQ (ao 1) i bm<|ak gR aF)<|ak (eX aaQ (ao 1) i bm<|ak gR aF) aF,?_);let h:=x.S.K x.K.K;let(ax,b):=id h;show(.K p,x.K.S 0,.K ax.K,(_,b.R,aa),_,bZ b.S,.R k,x.K.S 0,(_,b.R,aa),p,_,_,aa,h,(_,b.R,aa),p,_,_,aa,h,?_);let f:mA aC e k _ s aG p g _ Q:=f;show f.K x ?_ (show 4<=ch by decide);rw[adh e λx=>Bw x,adh e λx=>Gs x];change([_,_,_,_]:#[V])=[_,_,_,_];let ab:(↑((dr e).R.map V.S):N)=(↑(dC e):O):=by
   rw[aV];change(↑((bR e).map _):N)=(↑((bR e).map _):N);rw[aV,aV]
  rw[ab];delta TX mn;rw[aV,aV]
theorem asB(aq:cR e)(b:y>bR e):(dr e).R[bi y]? =Y (gW e y):=by
 change((bR e).map _)[_]? =_;rw[cV,aq.S b];rfl
theorem adi(aq:cR e)(b:y>bR e):(dr e).a0 (bi y:O)=J:=by
 rw[RK aq];have:=(ff.1<|aq.S b).1;simp_all [mS]
theorem RQ(aq:cR e){kd:E}{q:aW->dq}(d:∀x,gW e x>([kd]:#[E])↔q x=J){y:aW}(b:y>bR e):(dr e).a3 (bi y:O) kd=q y:=by
 delta dV.a3;rw[adi aq b,rV,pd,asB aq b,oa,<- d,rR,dj,Option.some.injEq]
noncomputable def vm(hA:#[#[N]]):#[N]:=hA.flatMap λs=>(↑s:Int)::s
theorem asC(l:#[#[O]]):((↑(l.map cu):N)::vm (l.map cu))=(↑l::l.flatMap HH).map λn:O=>(n:N):=by
 rw[aV];show dP ((↑l:N)::·) ?_
 induction l with
 |nil=>rfl
 |cons a r b=>
  change(↑(cu a):N)::(cu a++vm (r.map cu))=((↑a::a)++r.flatMap HH).map _;simp_all
theorem adj(n:O):∀hA:#[#[N]],(∀s∈hA,↑s<=n)->↑(vm hA)<=(n+1)*↑hA
 |[],_=>ex _
 |s::r,d=>by
  change↑(((↑s:N)::s)++vm r)<=_;let ab:=d s<|cp _;let ag:=adj n r λx b=>d x<|eo _ b;rw[cW,hs,hs,TC];lia
def j'{n}(d:n<=100000):n<=ch:=db d ⋯
def nd{n}(d:n<=100000):n<ch:=kF d ⋯
def asD(s:L)(y:nh)(t:L)(aH:ap)(r:L)(bv:#[#[N]×L])(a:L)(i:O)(D:ck)(b:ap):Prop:=(∃e,D=[Y<|.K s,Y<|.R (bi y:O),Y<|.K t,Y<|.K r,Y<|.K a,e])/\bA aH b/\b a=Y (.K<|((↑(bv.map ek):N)::vm ((bv.map ek).take i)).map V.R)
def asF[ci]:cX bH 17 "answer_bodies" ["subject","label"]<|rr HK:=by
 show aFn.K ["subject","label","table","strings","told","string"] λz H vs Q aW j d aD=>?_;let(l,d):=d
 induction d with
 |@mk aC e k an H s aG p g dc _ Q _ x a0 b=>
  subst a0;show(_,ba (dF (nt<|ik<|eX iF.a0 (bV iF.R.K<|ao 0) j bm<|ak (ao 1) aF) (a_<|cy<|eP<|ak (cH iF.a1) aF) d_)
  <|ba (dF (nt<|ik<|eX aaP (bV iF.R.K<|ao 0) j bm<|ak (ao 1)<|ak gR aF) (a_<|cy<|eP<|ak (cH aBi) aF) d_)
  <|ba (ey 2 aD<|fS iF.X (ao 0) j bm)<|ba (dF (ik<|fS iF.K (ao 2) j bm) (a_<|cy<|eP<|ak (cH iF.S) aF) d_)
  <|ba (ey 3 aD<|eX Qk (ao 2) j bm<|ak (ao 1) aF)<|ba (ey 4 aD<|eP<|ak (na aAV<|ao 3) aF)
  <|ba (jA jg aa (jz<|ao 3) (fB (i:=5) aD aa<|aQ aa)<|ba (cw<|ox (ao 4)<|mW Aw aa aAV aa<|ak (ao 5) aF)<|a_<|cw<|BC (ao 4)<|ao 5)<|a_<|cy<|ao 4,Gz x aa aa b aa (λd=>by change fw (nZ (e,k) l _)=_;rw[d];rfl) λy a6 b4 b5=>?_);subst b4;let a7:=x.S.K x.K.K;let(ax,b6):=id a7;let a1:hh (e,k) (HK (bi y:O))=if Cs y=aX then pU 5 else onTable (e,k) λt=>(let l:=TK t<|bi y;p_ (e,k) (↑l::l.flatMap HH)):=by
   change nZ (e,k) _ _=_;rw[b5]
  let b:mA aC e k _ s aG p g _ Q:=b;show(.K p,x.K.S 0,(_,b6.R,aa),p,_,_,_,aa,a7,dH (λw=>?_) λw=>?_);.rw[RQ x.R (λz=>Gs z) a6]at w;rw[bK<|‹w›]at a1;show b.K x (by rw[a1];rfl) hZ
  .rw[RQ x.R (λz=>Gs z) a6]at w;rw[be<|‹w›]at a1;let aw:∀u,hT e k=u->fw (hh (e,k)<|HK (bi y:O))=fw (kB u 7 λt=>(let l:=TK t<|bi y;p_ (e,k) (↑l::l.flatMap HH))):=λu b7=>by
    rw[a1,<- b7];rfl
   delta ph gQ.S;dsimp only;show yZ x aa (λ_=>rfl) b aa (λd=>aw _ d) λal af c8 t T u c9 z b8 d0 b9 a2 b=>?_;exists c0;let(cT,a8):=b8;let(cb,cl,cS,de,mG,c1):=a8.K.X;show c0 ((_,c1,aa),cT,t,T,_,aa,a8.K,RP a2 _,λaH r bv a9 d1 A c2 eF ei=>?_);let c3:=arx (x:=a2) eF<|rU.2 ei;let fc:∀q∈bv,↑q.1<=2:=λq h=>by
    let ab:=eF.mem_iff.1<|bx.2 (q,h,aa);let(f,c,aB,A):=a2.a0 _ (iB.1 ab);let(_,c4):=aho aB;rw[c4,aV];show db A.1 x.X
   let d2:↑bv<=400:=by
    let ab:=eF.length_eq;rw[aV]at ab;rw[ab];show db (wr _ _)<|db (ayo _ _) b9
   let c5:∀i,↑(vm<|(bv.map ek).take i)<=1200:=λi=>by
    let ab:=adj 2 ((bv.map ek).take i) λs aw=>by
     let(q,h,rfl):=bx.1 (zZ aw);show fc q h
    rw[iQ,aV]at ab;omega
   show(_,bZ A,hZ,λa a4=>?_);let b0:=cf (o:=bF.K [V.R (↑(bv.map λp=>V.K p.2):N)]) a4;show(r,aa,(_,bZ<|b0 _ _ A),nv (xs:=bv.map λp=>V.K p.2) (asD s y t aH r bv a) ((_,aa),b0,by rw[bG,aV,aV];rfl) (λi D b1 _ d=>bZ<|d.2.1 _ _ A) (λi v D b1 a0 d=>?_)<|λD b1 d=>?_)
   .let((c6,rfl),a3,U):=d;rw[cV]at a0;let(q,h,rfl):=e_.1 a0;let a5:=gs h;let st:=a3 _ _<|c2 q a5;let b2:∀m,m<=3->↑(Tx V.R<|(↑(bv.map ek):N)::vm ((bv.map ek).take i))+m<ch:=λm a5=>by
     have:=c5 i;rw[aV,hs];show nd<|by omega
    show(_,U,q.2,_,aa,bl<|fb st,_,U,b2 0 ⋯,?_);let c7:q.2≠a:=qi st U λz=>nomatch z;show(_,bG,q.2,_,_,aa,bG,bl<|by rw[bS c7];show st,?_,(_,aa),λB o e=>?_,?_);.have:=fc q a5;rw[cW,aV (f:=V.R) (as:=q.1)];let d:=b2 (1+↑q.1) (by omega);show sT<|kF (o'<|mq _ _ _) d
    .let b3:=fj e a4;rw[bS b3,bS b3];show a3 _ _ e
    .rw[bG,hF,cV,h];delta vm;rw[vS,fg,fg,cs,aV];change Y (bF.K<|_::_++_++_)=_;simp
   .let((c6,rfl),a3,U):=d;show b.S z (a9.K a3) (a9.S a4) ?_;have:(bv.map ek).take ↑(bv.map λp=>V.K p.2)=bv.map ek:=by rw[aV];show xA<|by rw[aV];show kD _
    rw[U,this,c3,asC,aw _ a2.K];rfl
def asG(aq:cR e)(z:N):(dr e).a3 z "call"=(bp (0<=z)&&(TX e).contains z.toNat):=by
 let g:∀y∈bR e,bi y>TX e↔Cr y=J:=λy b=>by
  constructor;.intro q;let(j,ab,ag):=bx.1 q;let(f,l):=je.1 ab;rwa [<- aq.inj f b ag]
  .show λq=>bx.2 (y,je.2 (b,q),aa)
 cases d:(dr e).a0 z with
 |true=>
  let(y,b,rfl,_):=ade (k:=0) aq d;rw[RQ aq (λz=>Bw z) b,pd,hp<|Int.natCast_nonneg _,rV,oa,qf,g y b]
 |false=>
  delta dV.a3;rw[d,xC];symm;rw[ayA];intro q;let(h,i):=(fV _ _).mp q;let(y,ab,ag):=bx.1 (qf.1 i);let f:=adi aq (je.1 ab).1;rw[ag,Ka<|eH h,d]at f;cases f
set_option tactic.hygienic true in
theorem asH(aq:cR e)(k:O)(c:#[N]):(xl (e,k) c).isSome=(bp (↑c<=k)&&(c.map λz=>(dr e).a3 z "call").all id):=by
 delta xl;rw[Hs];have:(c.all λz=>bp (0<=z)&&(TX e).contains z.toNat)=c.all (id∘λz=>(dr e).a3 z "call"):=by
  congr 1;funext z;show(asG aq z).symm
 rw[<- this];split;.rename_i d;show d.symm
 .rename_i d;show(ayA.2 d).symm
inductive adk:cq|mk{a6 a1 a2 a7 b a3 a8}{p:L}{g:L}{a4}{dc:#[N×V]}{h a5 a9}:fd a6 a1 a2 a7 b a3 a8 p g dc->b a4=Y (.K<|h.map V.R)->↑h<=4->(∀af,bA b af->a5 (.X (xl (a1,a2) h).isSome) af)->adk [.K a3,.K a4] b a5 a9
def asK:pk ["subject","string","label"] (dh<|cr 109) (tz [(".0",gp),("label",gp),("subject",gX)]) [("label",2)]:=(aa,by rfl',by rfl',by rfl',by rfl')
def adl:cq:=λvs H Q au=>∃l c,oz (.at_ l c) (λan vs=>∃B,vs=[.R l,.K B]/\an B=Y (.K<|c.map V.R)/\↑c<=4) vs H Q au
noncomputable def vn(hA:#[b_]):#[N]:=hA.flatMap λs=>[s.1,s.2.1,(↑s.2.2:Int)]++s.2.2
theorem asP(l:#[eT]):((↑(l.map di):N)::vn (l.map di))=(↑l::l.flatMap HP).map λn:O=>(n:N):=by
 rw[aV];show dP ((↑l:N)::·) ?_
 induction l with
 |nil=>rfl
 |cons a r b=>
  change([(di a).1,(di a).2.1,(↑(di a).2.2:N)]++(di a).2.2)++vn (r.map di)=(HP a++r.flatMap HP).map _;rw[b,cs];congr 1
  cases a with
  |num=>rfl
  |_ l c=>
   change[_,_,(↑(cu c):N)]++_=_;rw[aV];rfl
theorem adm(n:O):∀hA:#[b_],(∀s∈hA,↑s.2.2<=n)->↑(vn hA)<=(n+3)*↑hA
 |[],_=>ex _
 |s::r,d=>by
  change↑(([s.1,s.2.1,(↑s.2.2:N)]++s.2.2)++vn r)<=_;let ab:=d s<|cp _;let ag:=adm n r λx b=>d x<|eo _ b;rw[cW,cW,hs (as:=r),TC];change 3+↑s.2.2+_<=_;lia
def asQ(e:aW)(H:ap)(c:#[N])(aj:L)(i:O)(b:ap):Prop:=bA H b/\b aj=Y (.K<|((c.take i).map λz=>(dr e).a3 z "call").map V.X)
def asR[ci]:cX bH 3 "is_string" ["subject","string"] adk:=by
 show aFl.K ["subject","string","label"] λz H vs Q aW U d aD=>?_
 induction d with
 |@mk aC e k an H s aG p g B dc c Q _ x aw a0 b=>
  show(_,ba (dF (jm KP (na aAV<|ao 1)<|bV aAW.R<|ao 0) (a_<|cy td) d_)<|a_<|cy<|mW (ajX aa) aa aBk aa<|ak (tl aa aD (jz<|ao 1) asK (λs H m bw q=>fB (i:=2) aD aa<|aQ aa) (λs H m bw q=>sf)
  <|λs H m bw q=>eX aaP (bV aAW.K<|ao 0) U bm<|ak (ao 2)<|ak gR aF) aF,?_);rw[asH x.R]at b;show(_,bZ aw,.R k,x.K.S 0,dH (λj=>?_) λj=>?_);.rw[aV]at j;have:=b H λ_ _ d=>d;rw[iv<|by lia,xC]at this;show this
  .rw[aV]at j;rw[hp<|by lia,rV]at b;show(B,aa,(_,bZ aw),λaj v=>wj (asQ e H c aj) (cf v,bG) (λi l _ d=>bZ<|d.1 _ _ aw) (λi y l w d=>?_)<|λl d=>?_)
   .let(f,h):=d;rw[cV]at w;let(z,hz,rfl):=e_.1 w;show(aa,?_);delta qn;let A:=x.K.a8 f;let T:=x.S.K A.K;let(ax,V):=id T;show lx (.K p,A.S 0,(_,V.R,aa),p,_,_,_,aa,T,_,h,?_,λa o e=>?_,?_);.rw[aV,aV,iQ];show nd<|by lia
    .rw[bS<|fj e v];show f _ _ e
    .rw[bG,hF,hz,cs,cs];rfl
   .let(f,h):=d;rw[aV,jQ]at h;show(aj,_,aa,bZ h,b l f)
def asS(s B:L)(y:nh)(t:L)(h:ap)(r:L)(bv:#[b_×L])(a:L)(i:O)(D:ck)(b:ap):Prop:=(∃e f g,D=[Y<|.K s,Y<|.R (bi y:O),Y<|.K B,Y<|.K t,Y<|.K r,Y<|.K a,e,f,g])/\bA h b/\b a=Y (.K<|((↑(bv.map ek):N)::vn ((bv.map ek).take i)).map V.R)
set_option tactic.hygienic true in
def asT[ci]:cX bH 17 "answer_at" ["subject","label","string"] adl:=by
 show aFk.K ["subject","label","string","table","sorts","told","what","maker","made"] (λz H vs Q aW w d aD=>?_) (hx:=λvs H Q au d=>by let(l,c,d):=d;cases d;rename_i d _ _;let(B,rfl,_):=d;rfl);let(l,c,d):=d
 induction d with
 |@mk aC e k an H s aG p g dc _ Q _ x a4 b=>
  let(B,rfl,b1,a5):=a4;show(_,ba (dF (nt<|ik<|eX iF.a0 (bV iF.R.K<|ao 0) w bm<|ak (ao 1) aF) (a_<|cy<|eP<|ak (cH iF.a1) aF) d_)
  <|ba (dF (nt<|ik<|dT asR w bm<|ak (ao 0)<|ak (ao 2) aF) (a_<|cy<|eP<|ak (cH aBz) aF) d_)
  <|ba (ey 3 aD<|fS iF.X (ao 0) w bm)<|ba (dF (ik<|fS iF.K (ao 3) w bm) (a_<|cy<|eP<|ak (cH iF.S) aF) d_)
  <|ba (ey 4 aD<|eX Qi (ao 3) w bm<|ak (es<|ak (cH aAZ)<|ak (ao 1)<|ak (Ar ajH aa aBm aa<|ak (ao 2) aF) aF) aF)<|ba (ey 5 aD<|eP<|ak (na aAV<|ao 4) aF)
  <|ba (jA jg aa (jz<|ao 4) (tg aa<|kk (fB (i:=6) aD aa<|aQ aa)<|kk (fB (i:=7) aD aa<|aQ aa)<|kk (fB (i:=8) aD aa<|aQ aa) tf)
   <|ba (cw<|BC (ao 5)<|eP<|ak (ao 6)<|ak (ao 7)<|ak (mW Aw aa aAV aa<|ak (ao 8) aF) aF)<|a_<|cw<|BC (ao 5)<|ao 8)<|a_<|cy<|ao 5,Gz x aa aa b aa (λd=>by change fw (nZ (e,k) l _)=_;rw[d];rfl) λy f0 c3 c4=>?_);subst c3;let b2:hh (e,k) (.at_ (bi y:O) c)=kB (xl (e,k) c) 4 λae=>onTable (e,k) λt=>(let l:=HD t (cg<|bi y) ae;p_ (e,k) (↑l::l.flatMap HP)):=by
   change nZ (e,k) _ _=_;rw[c4]
  let b:mA aC e k _ s aG p g _ Q:=b;show .mk x (x.K.K _ _ b1) a5 λaf aT=>?_;exists c5;let(al,b3,z,_):=x.a3 aT;let b:=b.R b3;show c5<|dH (λA=>?_) λA=>?_
  .show b.K z ?_ hZ
   cases q:xl (e,k) c with|some ae=>rw[q]at A;cases A|none=>rw[b2,q];rfl
  .obtain⟨ae,U⟩:∃ae,xl (e,k) c=Y ae:=by
    cases q:xl (e,k) c with|some ae=>show(ae,aa)|none=>rw[q]at A;cases A
   let c6:c=cu ae:=by
    delta xl at U;split at U;.rename_i d;let(_,d):=(fV _ _).mp d;cases U;change c=(c.map Int.toNat).map _;rw[dX];show(rb (g:=id) λz hz=>?_).trans (TZ _)|>.symm;have:=eH ((fV _ _).mp<|jS.1 d z hz).1;show Ka this
    .cases U
   let aw:∀u,hT e k=u->fw (hh (e,k)<|.at_ (bi y:O) c)=fw (kB u 7 λt=>(let l:=HD t (cg<|bi y) ae;p_ (e,k) (↑l::l.flatMap HP))):=λu c7=>by
    rw[b2,U,<- c7];rfl
   delta ph gQ.S;dsimp only;show yZ z aa (λ_=>rfl) b aa (λd=>aw _ d) λaH f1 f2 t T u c8 z c9 f3 d0 a0 b=>?_;exists d1;let(cT,b4):=c9;let(cb,cl,cS,de,mG,d2):=b4.K.X;let d3:=z.K.K _ _<|c8 _ _<|b3 _ _ b1;show d1 ((_,d2,aa),B,_,aa,aQ (bZ d3,λcd d4=>(hc,λd5 b5=>?_)));let b6:=cf (o:=.R<|c.map V.R) d4;let b7:=cf (o:=.R [.R 0,.R (bi y:O),.K cd]) b5;show(cT,t,d5,T,(aZ 0<|aZ ((bi y:O)) c),aa,(b4.S<|b6.K b7).K,iS b5 bG,λd6 r bv d7 f4 a6 h=>?_);let d8:bv.map ek=(HD u (cg<|bi y) ae).map di:=ary x.R a0 (by rw[c6]at h;show h.K)<|rU.2 h.S
   let fc:∀q∈bv,↑q.1.2.2<=2:=λq j=>by
    let ab:=iB.1<|h.K.mem_iff.1<|bx.2 (q,j,aa);let(d9,b8,a1,aB):=a0.X _ ab;let ag:=F' x.R ((a0.S<|cP d9 b8 a1).mp ((a0.R _).mpr (by change(aZ _ _)>_;rw[<- aB];show ab)));let(_,e0):=aho aB;rw[e0];let e1:↑(vd a1)<=k:=ag.2.2.2.2.1
    let a5:↑(di a1).2.2=↑(vd a1):=by
     cases a1 with|num=>rfl|_=>show aV _
    rw[a5];show db e1 x.X
   let f5:↑bv<=400:=by
    let ab:=h.K.length_eq;rw[aV]at ab;rw[ab];show db (wr _ _)<|db (nq _ _) d0
   let e2:∀i,↑(vn<|(bv.map ek).take i)<=2000:=λi=>by
    let ab:=adm 2 ((bv.map ek).take i) λs aw=>by
     let(q,j,rfl):=bx.1 (zZ aw);show fc q j
    rw[iQ,aV]at ab;omega
   show(_,bZ a6,hZ,λa a7=>?_);let b9:=cf (o:=bF.K [V.R (↑(bv.map λp=>V.K p.2):N)]) a7;show(r,aa,(_,bZ<|b9 _ _ a6),nv (xs:=bv.map λp=>V.K p.2) (asS s B y t d6 r bv a) ((_,_,_,aa),b9,by rw[bG,aV,aV];rfl) (λi D c0 _ d=>bZ<|d.2.1 _ _ a6) (λi v D c0 a4 d=>?_)<|λD c0 d=>?_)
   .exists e3;let((e4,e5,e6,rfl),a2,a3):=d;rw[cV]at a4;let(q,j,rfl):=e_.1 a4;let a8:=gs j;let(a9,e7,e8):=pt.1 (h.R q a8);let st:=a2 _ _ e8;let c1:∀m,m<=5->↑(Tx V.R<|(↑(bv.map ek):N)::vn ((bv.map ek).take i))+m<=ch:=λm a8=>by
     have:=e2 i;rw[aV,hs];show j'<|by omega
    show e3 (q.2,_,aa,fb<|a2 _ _ e7,aa,_,_,aa,_,_,aa,_,_,aa,aa,(_,a3,a9,_,aa,bl<|fb st,hc,λn b0=>(n,_,_,aa,cf b0 _ _ a3,aQ bG,c1 3 ⋯,?_)));let e9:a9≠a:=qi st a3 λz=>nomatch z;show(_,bG,a9,_,_,aa,bG,bl<|by rw[bS e9];show cf b0 _ _ st,?_,(_,_,_,aa),λb8 o e=>?_,?_);.have:=fc q a8;rw[cW,aV (f:=V.R) (as:=q.1.2.2)];let d:=c1 (3+↑q.1.2.2) (by omega);show db (o'<|mq _ _ _) d
    .let c2:=fj e a7;rw[bS c2,bS c2];show cf b0 _ _<|a2 _ _ e
    .rw[bG,hF,cV,j];delta vn;rw[vS,fg,fg,cs,aV];change Y (bF.K<|_::_++_++_)=_;simp
   .let((e4,e5,e6,rfl),a2,a3):=d;let ai:=(b6.K b7).K d7;show b.S z (ai.K a2) (ai.S a7) ?_;have:(bv.map ek).take ↑(bv.map λp=>V.K p.2)=bv.map ek:=by rw[aV];show xA<|by rw[aV];show kD _
    rw[a3,this,d8,asP,aw _ a0.K];rfl
def RR{bQ i c n aj}(h:dU D n=Y (.R i))(ab:¬(bQ<=i/\i<=aR)->Du [.R c] H aj.R)(ag:bQ<=i/\i<=aR->nf aj D H):
  ls (nu (Ag<|we<|Dp (oi λi j=>.X<|bp<|i<=j) (oi λi j=>.X<|bp<|i<=j) (gA<|.R bQ) (fH n)<|gA<|.R aR) (r_<|yg<|ii (gA<|.R c) kl) ph) nf aj D H:=by
 delta ls nu Ag we Dp gA fH;dsimp only;rw[h];show(bQ,i,aa,aa,_,aa,dH (λe=>(i,aR,aa,aa,_,aa,dH (λb=>ab ?_) λb=>ag ?_)) λe=>(_,aa,dH (λ_=>ab ?_) λb=>(by cases b)));.lia
 .lia
 .lia
section
variable{aC:#[L×bF]}{k:O}{al:ap}{s aG p g:L}{dc:#[N×V]}{aj:L}{o c':bF}
def fd.a6(x:fd aC e k an H s aG p g dc)(b:H aj=M)(h:∀xs,o≠.R xs):fd ((aj,o)::aC) e k an (a' H aj o) s aG p g dc:=
 (x.R,x.X,(x.K.a3 b o).a5<|uv (l₁:=[_,_]),λq f=>(cc.1 f).elim (λz=>z▸h)<|x.a2 q,x.S,x.a1,x.a0)
theorem fd.a9(x:fd ((aj,o)::aC) e k an H s aG p g dc)(b:∀xs,c'≠.R xs):fd ((aj,c')::aC) e k an (a' H aj c') s aG p g dc:=
 (x.R,x.X,x.K.a0 2 aa c',λq f=>(cc.1 f).elim (λz=>z▸b) λz=>x.a2 q<|eo _ z,x.S,x.a1,x.a0)
theorem fd.b0(x:fd ((aZ aj o)::aC) e k an H s aG p g dc):∃al,bA an al/\fd aC e k al H s aG p g dc/\al aj=Y o:=by
 let(f,b,l):=(x.K.a9<|(ahp _).cons _|>.cons₂ _|>.cons₂ _).a7 λ_ _ d=>d;show(_,b,(x.R,x.X,f,λq h=>x.a2 q<|eo _ h,x.S.K b,λn y d=>?_,x.a0),?_);.let(m,t,aB,i,j):=x.a1 n y d;show(m,t,aB,i,j.K b)
 .rw[nb λz=>?_];.show x.K.R 2 aa
  .let(ab,ag):=f_.1 (((uv (l₁:=[(aZ s<|bF.S aAD aG<|qA p g k),(aZ g<|hX.K dc)])).map (·.1)).nodup_iff.1 x.K.a4);show ab z
end
def asU(p:jb):[V.R 1,V.R (tR p).1,V.R (tR p).2]=((1::placeNumbers p).map λn:O=>(n:N)).map V.R:=by cases p<;>rfl
def asV[ci]:cX bH 17 "answer_parts" ["subject","most"]<|rr T_:=by
 show aFp.K ["subject","most","coarse","fine","place"] λz H vs Q aW v d aD=>?_;let(l,d):=d
 induction d with
 |@mk aC e k an H s aG p g dc _ Q _ x b5 b=>
  subst b5;show(_,ba (dF (nt<|KQ ti ti cm (ao 1)<|cH aBc) (a_<|cy<|eP<|ak (cH HJ) aF) d_)
  <|ba (ey 2 aD<|eX Gv (ao 0) v bm<|ak (Gb (Vb λ_ _ _ _ _ _ _ q=>sub_int q) (ao 1) cm) aF)<|ba (ey 3 aD<|eX Gv (ao 0) v bm<|ak (ao 1) aF)
  <|ba (dF (lr.K<|Ai (ik<|fS iW.K (ao 2) v bm)<|Ah<|ik<|fS iW.K (ao 3) v bm) (a_<|cy<|eP<|ak (cH iW.S) aF) d_)
  <|ba (ey 4 aD<|dT apH v bm<|ak (ao 2)<|ak (ao 3) aF)<|ba (dF (lS<|UD<|ao 4) (a_<|cy<|eP<|ak cm aF) d_)<|a_<|cy<|eP<|ak cm<|ak (ow (ao 4) cm)<|ak (ow (ao 4) cm) aF,?_);let b:mA aC e k _ s aG p g _ Q:=b;show RR aa (λh=>?_) λh=>?_;.show b.K x ?_ hZ;change(fw<|if l<1∨(2:N)<l then pU 2 else _).map V.R=_;rw[bK<|by omega];rfl
  .obtain⟨m,rfl⟩:∃m:O,l=(m+1:O):=((l - 1).toNat,by omega);let j:∀t u,hT e m=t->hT e (m+1)=u->hh (e,k) (T_ (m+1:O))=kB t 7 λt=>kB u 7 λu=>p_ (e,k)<|match TP e t u with|M=>[0]|Y p=>1::placeNumbers p:=λt u b6 b7=>by
    change(if((m+1:O):N)<1∨(2:N)<((m+1:O):N)then(pU 2:Out_)else _)=_;rw[be<|by omega,pd,Nat.add_sub_cancel];rw[b6];change kB t 7 (λt=>kB (hT e<|m+1) 7 _)=_;rw[b7];rfl
   show(x.K.X 0,?_);change Gu [.K s,.R<|((m+1:O):N) - 1] H _ _;rw[show((m+1:O):N) - 1=(m:O) by show Int.sub_eq_iff_eq_add.2 aa];show .mk x (by omega) λal aH c9 t b8 a5 b9=>(a5.K.X 0,.mk a5 (by omega) λd0 d1 d2 u a6 o c0=>?_);exists c1;let b:=b.R<|b8.K a6;let(_,T,a7,d3,fin):=(b9.K a6).K o.K.K;let(_,U,a8,d4,a9):=c0.K o.K.K;let(cT,b0):=id a7;let(cb,cl,cS,de,mG,c2):=b0.K.X;let(c3,b1):=id a8;let(d5,d6,d7,d8,d9,c4):=b1.K.X;show c1 ((_,c2,aa),cT,t,T,aa,b0.K,dH (λh=>?_) λh=>((_,c4,aa),c3,u,U,aa,b1.K,dH (λw=>?_) λw=>?_))
   .let (_,f)||(f,_):=fin;.show b.K o (by rw[j _ _ f aa];rfl) hZ
    .show bB (eH h)<|np.2 f
   .let (_,f)||(f,_):=a9;.show b.K o ?_ hZ;rw[j _ _ aa f];cases hT e m<;>rfl
    .show bB (eH w)<|np.2 f
   .let (f,_)||(e0,kZ,A):=fin;.show bB f<|hj h
    let (f,_)||(e1,b2,a0):=a9;.show bB f<|hj w
    let j:=j _ _ A.K a0.K;show(t,u,T,U,_,aa,a7,a8,db (Gx x.R) ⋯,nd<|by omega,nd<|by omega,λc5 a1 a2=>?_,λc5 B c6 c7 a1 b3 a2=>?_)
    .let i:=acG x.R (ll m) A a0 a2;let(c8,a3,a4,_):=o.a3 a1;show(_,aa,dH (λ_=>(b.R a3).K a4 ?_ hZ) λh=>nU<|h);rw[j]
     cases q:TP e kZ b2 with|none=>change _=[V.R 0];simp[fw,kB,p_,q]|some b4=>rw[q]at i;cases i
    .let i:=acG x.R (ll m) A a0 a2;let(c8,a3,a4,_):=o.a3 a1;show(_,aa,dH (λh=>nU<|h) λ_=>(_,.R c6,fb b3,aa,_,.R c7,fb b3,aa,?_));show(b.R a3).K a4 ?_ hc;rw[j]
     cases q:TP e kZ b2 with
     |none=>rw[q]at i;cases i
     |some b4=>
      rw[q]at i;let i:=hq i;have:=asU b4;rw[<- i]at this;rw[this];simp[fw,kB,p_,q]
def asW(aq:cR e):↑(nX e)<=150:=by
 let n:↑(bR e)<=30:=by rw[mS];show aq.R
 delta nX;rw[cW,cW,cW];let ag:=px (l:=bR e) (n:=1) (f:=λx=>match x with|fy l _ _=>[gd l]|ku l _ _ _=>[gd l]|_=>[]) λa _=>by cases a<;>simp
 let b:=px (l:=bR e) (n:=2) (f:=λx=>match x with|jP l _ _=>[nQ l,nR l]|_=>[]) λa _=>by cases a<;>simp
 let g:=px (l:=bR e) (n:=1) (f:=λx=>match x with|kv l _=>[lf l]|_=>[]) λa _=>by cases a<;>simp
 show db (z_ (px (l:=bR e) (f:=λx=>[lK x]) λ_ _=>kD 1)<|z_ ag<|z_ b g) ?_;omega
def asX(aq:cR e){p T}(b:pn e p T):↑T.K<=4650:=by
 let d:=b.K.X.length_le_of_subset (l₂:=(nX e).flatMap λp=>(jc e).map λa=>(aZ (ds p [])<|di<|tT a)) λq g=>by
  let(p,c,a,aB,h,rfl,ag,i):=b.K.K q g;let(j,m):=Bz i;show dZ.2 (p,j,bx.2 (_,m,?_));rw[asa ag,<- aB,<- h]
 let ag:=px (l:=nX e) (f:=λp=>(jc e).map λa=>(aZ (ds p [])<|di<|tT a)) λ_ _=>by rw[aV];show Gy aq
 have:=asW aq;lia
def asZ:pk ["subject","tables","plain","most","table"] (dh<|cr 112) (tz [(".0",gp),("most",gp),("subject",gX)]) [("most",3)]:=(aa,by rfl',by rfl',by rfl',by rfl')
def ata:pk ["subject","tables","plain","most","table"] (dh<|cr 112) (tz [(".0",gp),("table",gp)]) [("table",4)]:=(aa,by rfl',by rfl',by rfl',by rfl')
def atb:pk ["subject","tables","plain","most","table"] (dh<|cr 112) (tz [(".0",gp),("table",gp),("len",Hh),("find_arrows",Hh)]) [("table",4)]:=(aa,by rfl',by rfl',by rfl',by rfl')
def wC(e:aW)(n:O)(T:cn):Prop:=(400<↑T.K+↑T.R/\hT e n=M)∨(↑T.K+↑T.R<=400/\∃u,l' e n T u)
theorem wC.K{n T}(d:wC e n T)(b:bp (400<↑T.K+↑T.R)=J):hT e n=M:=by
 let (_,f)||(f,_):=d;.show f
 .show bB (eH b)<|np.2 f
theorem wC.R{n T}(d:wC e n T)(b:bp (400<↑T.K+↑T.R)=aX):↑T.K+↑T.R<=400/\∃u,l' e n T u:=by
 let (f,_)||d:=d;.show bB f<|hj b
 .show d
def atc(h:ap)(kZ ef a1:L)(a2 a3 a4:cn)(qw:L)(i:O)(b:ap):Prop:=bA h b/\b qw=Y (.K<|(([(aZ kZ a2),(aZ ef a3),(aZ a1 a4)].take i).map λq=>bp<|400<↑q.2.K+↑q.2.R).map V.X)
def atd(a1:ap)(a2 a3 a4:L)(b:#[(L×cn)×O])(a5:L)(i:O)(h:ap):Prop:=bA (a' (a' a1 a3<|.K [.K a2]) a4<|.K<|b.map λq=>V.K q.1.1) h/\h a5=Y (.K<|(b.take i).map λq=>V.R (q.2:Nat))
def ate[ci]:cX bH 17 "answer_ladder" ["subject"]<|oz T' λ_ vs=>vs=[]:=by
 show aFo.K ["subject","tables","plain","most","table"] λz H vs Q aW b2 d aD=>?_
 induction d with
 |@mk aC e k an H s aG p g dc _ Q _ x f4 U=>
  subst f4;show(_,ba (Wm (i:=1) aa aD aa aa (Wn aa aa aa aa) (UZ aa O9<|ak (Gb KG (cH aBc) cm) aF) (mf:=[(aZ "most" 3)]) asZ (λs H a0 bw a1=>fB (i:=3) aD aa<|aQ aa) (λs H a0 bw a1=>sf)<|λs H a0 bw a1=>eX Gv (ao 0) b2 bm<|ak (ao 3) aF)
  <|ba (dF (ik<|mW (ajW aa) aa aBl aa<|ak (tl aa aD (jz<|ao 1) (mf:=[(aZ "table" 4)]) ata (λs H a0 bw a1=>fB (i:=4) aD aa<|aQ aa) (λs H a0 bw a1=>sf)<|λs H a0 bw a1=>fS iW.K (ao 4) b2 bm) aF) (a_<|cy<|eP<|ak (cH iW.S) aF) d_)
  <|ba (ey 2 aD<|dT apo b2 bm<|ak (bV iW.R.K<|ao 0) aF)
  <|a_<|cy<|tl aa aD (jz<|Am Wd (eP<|ak (ao 2) aF)<|ao 1) (mf:=[(aZ "table" 4)]) atb (λs H a0 bw a1=>fB (i:=4) aD aa<|aQ aa) (λs H a0 bw a1=>sf)<|λs H a0 bw a1=>na aAV<|dT aaU b2 bm<|ak (ao 4) aF,?_);let U:mA aC e k _ s aG p g _ Q:=U;show(3,aa,⋯,⋯,λaj f5=>Wo (bQ:=0) (n:=3) (λi a3=>∃en c4 a4,bA an en/\fd ((aZ aj<|.K<|a4.map V.K)::aC) e k en a3 s aG p g c4/\↑a4=i/\∀j t,a4[j]? =Y t->vl e en j t)
   (an,dc,[],λ_ _ d=>d,x.a6 f5 (λ_=>(bF.noConfusion ·)),aa,(λ_ _ z=>nomatch z)) (λi a3 aR d=>?_)<|λa3 d=>?_)
  .exists c5;let(en,c4,a4,c6,b3,c7,a8):=d;show c5 (aa,?_);delta qn;show lx (b3.K.X 0,?_);change Gu [.K s,.R<|0+(i:N)] a3 _ _;rw[ayj];show .mk b3 (SF aR) λf6 b4 f7 t a9 a5 dW=>(_,a5.K.R 2 aa,?_,f6,f7,a4++[t],c6.K a9,?_,?_,λj u a6=>?_);.rw[aV];show nd<|by omega
   .rw[cs];show a5.a9 λ_=>(bF.noConfusion ·)
   .rw[cW,c7];rfl
   .let q||q:=HA j ↑a4;.rw[oc q]at a6;show(a8 j u a6).K a9
    .rw[pb q]at a6;have:=by
      have:=(ff.1 a6).1;simp at this;omega
     rw[this]at a6;cases a6;have:j=i:=by omega
     subst this;show dW
  .let(en,c4,a4,c6,b3,c7,a8):=d;let(al,a9,a5,f8):=b3.b0;let(kZ,ef,A,rfl):=abZ c7;exists c5;let c8:=a9.K a5.K.K;let(_,m,Sz,h6,b5):=(a8 0 kZ aa).K c8;let(_,v,im,h7,b6):=(a8 1 ef aa).K c8;let(_,w,d6,h8,b7):=(a8 2 A aa).K c8;let b5:wC e 0 m:=b5;let b6:wC e 1 v:=b6;let b7:wC e 2 w:=b7;let U:=U.R<|c6.K a9;let f9:∀q∈[(aZ kZ m),(aZ ef v),(aZ A w)],nz a3 q.1 q.2 (dr e):=by
    intro q b;let z||b:=cc.1 b;.rw[z];show Sz
    let z||b:=cc.1 b;.rw[z];show im
    .rw[dj.1 b];show d6
   let c9:a3 aj=Y (.K<|[(aZ kZ m),(aZ ef v),(aZ A w)].map λq=>V.K q.1):=a5.K.K _ _ f8;show c5 (aj,aa,(_,bZ c9),λqw d7=>wj (xs:=[(aZ kZ m),(aZ ef v),(aZ A w)].map λq=>V.K q.1) (atc a3 kZ ef A m v w qw) (cf d7,bG) (λi b4 _ d=>bZ<|d.1 _ _ c9) (λi y b4 b0 d=>?_)<|λb4 d=>?_)
   .exists g0;let(a2,d0):=d;rw[cV]at b0;let(q,b,rfl):=e_.1 b0;let(cT,T):=(f9 q<|gs b).K a2;let(cb,cl,cS,de,mG,g1):=T.K.X;show g0 (aa,?_);delta qn;show lx ((_,g1,aa),cT,q.1,q.2,aa,T.K,_,d0,?_,λB o d=>?_,?_);.rw[aV,aV,iQ];show nd<|db (awj _ _) (⋯:3<=100000)
    .rw[bS<|fj d d7];show a2 _ _ d
    .rw[bG,hF,b,cs,cs];rfl
   .exists d1;let(a2,d0):=d;let(h9,g2,b1,_):=a5.a3 a2;let U:=U.R g2;let b8:∀a B c,hT e 0=a->hT e 1=B->hT e 2=c->fw (hh (e,k) T')=fw (kB a 7 λkZ=>kB B 7 λef=>kB c 7 λA=>p_ (e,k) [↑(TS e<|xk e),↑(uj e kZ),↑(uj e ef),↑(uj e A)]):=λa B c ab ag g3=>by
     rw[<- ab,<- ag,<- g3];rfl
    show d1 (qw,_,aa,bZ d0,dH (λh=>?_) λh=>?_)
    .show U.K b1 ?_ hZ;let h:(bp (400<↑m.K+↑m.R)||(bp (400<↑v.K+↑v.R)||(bp (400<↑w.K+↑w.R)||aX)))=J:=h;simp only[Bool.or_eq_true,ayB]at h;let h||h||h:=h;.rw[b8 _ _ _ (b5.K h) aa aa];rfl
     .rw[b8 _ _ _ aa (b6.K h) aa];cases hT e 0<;>rfl
     .rw[b8 _ _ _ aa aa<|b7.K h];cases hT e 0<;>cases hT e 1<;>rfl
    .let h:(bp (400<↑m.K+↑m.R)||(bp (400<↑v.K+↑v.R)||(bp (400<↑w.K+↑w.R)||aX)))=aX:=h;simp only[Bool.or_eq_false_iff,ayB]at h;let(i0,d8,d9):=b5.R h.1;let(i1,e0,e1):=b6.R h.2.1;let(i2,e2,e3):=b7.R h.2.2;let aw:=b8 _ _ _ d9.K e1.K e3.K;let e4:=b1.S.K b1.K.K;show(.K p,b1.K.S 0,p,dr e,_,_,_,hP e,2820,aa,e4,db (Gx x.R) ⋯,arV x.R p,x.R.a6 M [],λf e5=>?_,arZ x.R p,λbd d=>arX x.R d,λb9 T d2 i3 e6 d3 g4=>?_);.rw[x.R.a7]at e5;let(l,_,rfl):=bx.1 e5;show x.R.a6 (Y l) []
     let a7:bA b4 b9:=e6.S;let g5:nz b9 T d2<|dr e:=(_,e6,by rw[d3.K.a1.1];show e4);show(hZ,λe7 g6=>?_);let e8:=cf (o:=.K [.K T]) g6;show(e7,aj,_,_,aa,aa,bG,e8 _ _<|a7 _ _<|a2 _ _ c9,j'<|show 1+3<=100000 by decide,λe9 g7=>?_);let f0:=cf (o:=.K<|[V.K T]++[(aZ kZ m),(aZ ef v),(aZ A w)].map λq=>V.K q.1) g7;let c0:=e8.K f0;let f1:∀q∈[(aZ (aZ T d2)<|↑(TS e<|xk e)),(aZ (aZ kZ m)<|↑(uj e d8)),(aZ (aZ ef v)<|↑(uj e e0)),(aZ (aZ A w)<|↑(uj e e2))],nz b9 q.1.1 q.1.2 (dr e)/\↑q.1.2.K<10000/\∀ay,FF (dr e) q.1.2.K ay->↑ay=q.2:=by
      intro q b;let z||b:=cc.1 b;.rw[z];show(g5,kF (asX x.R d3) ⋯,λay d=>by rw[ash x.R d3 g4 d,aV])
      let z||b:=cc.1 b;.rw[z];show(Sz.K<|a2.K a7,by change ↑m.K<_;omega,λay d=>by rw[Gq x.R d9 d,aV])
      let z||b:=cc.1 b;.rw[z];show(im.K<|a2.K a7,by change ↑v.K<_;omega,λay d=>by rw[Gq x.R e1 d,aV])
      .rw[dj.1 b];show(d6.K<|a2.K a7,by change ↑w.K<_;omega,λay d=>by rw[Gq x.R e3 d,aV])
     generalize d4:[(aZ (aZ T d2)<|↑(TS e<|xk e)),(aZ (aZ kZ m)<|↑(uj e d8)),(aZ (aZ ef v)<|↑(uj e e0)),(aZ (aZ A w)<|↑(uj e e2))]=c1 at f1;let g8:([V.K T]++[(aZ kZ m),(aZ ef v),(aZ A w)].map λq=>V.K q.1)=c1.map λq=>V.K q.1.1:=by rw[<- d4];rfl
     let i4:↑c1=4:=by rw[<- d4];rfl
     rw[g8]at f0 c0⊢;show(e9,aa,(_,bZ bG),λg9 d5=>wj (xs:=c1.map λq=>V.K q.1.1) (atd b9 T e7 e9 c1 g9) (cf d5,bG) (λi f2 _ d=>bZ<|d.1 _ _ bG) (λi y f2 b0 d=>?_)<|λf2 d=>?_)
     .let(c2,c3):=d;rw[cV]at b0;let(q,b,rfl):=e_.1 b0;let(h0,h1,h2):=f1 q (gs b);show(aa,?_);delta qn;show lx (q.1.1,q.1.2,dr e,aa,h0.K<|c0.K c2,db (Gx x.R) ⋯,h1,λi d=>adc i d,λi5 r ay f3 i6 h3 dS=>?_);exists d1;let(i7,h4,h5):=id h3;show d1 (_,bZ h4,_,f3 _ _ c3,?_,λB o d=>?_,?_);.rw[aV,iQ];show nd<|by omega
      .rw[bS<|fj d d5];show f3 _ _<|c2 _ _ d
      .rw[bG,hF,b,cs,aV,<- h5.length,h2 ay dS];rfl
     .let(c2,c3):=d;rw[aV,jQ,<- d4]at c3;show U.S b1 (a7.K<|c0.K c2) (a7.S<|c0.S d5) ?_;rw[c3,aw];rfl
def atf[ci]:cX bH 17 "answer_check" ["subject","given"]<|rr Ua:=by
 show aFr.K ["subject","given","table","run","missing"] λz H vs Q aW h d aD=>?_;let(l,d):=d
 induction d with
 |@mk aC e k an H s aG p g dc _ Q _ x v b=>
  subst v;show(_,ba (dF (nt<|KQ ti ti cm (ao 1)<|cH aBA) (a_<|cy<|eP<|ak (cH HJ) aF) d_)
  <|ba (ey 2 aD<|fS iW.X (ao 0) h bm)<|ba (dF (ik<|fS iW.K (ao 2) h bm) (a_<|cy<|eP<|ak (cH iW.S) aF) d_)
  <|ba (ey 3 aD<|yF arm h bm<|ak (bV iW.R.K<|ao 0)<|ak (ao 1) aF)<|ba (cw<|dT arn h bm<|ak (ao 3) aF)<|ba (ey 4 aD<|dT arq h bm<|ak (ao 2)<|ak (ao 3) aF)
  <|ba (dF (lS<|UD<|ao 4) (a_<|cy<|eP<|ak cm aF) d_)<|a_<|cy<|eP<|ak cm<|ak (ao 4) aF,?_);let b:mA aC e k _ s aG p g _ Q:=b;show RR aa (λm=>?_) λm=>?_;.show b.K x ?_ hZ;change(fw<|if l<0∨(10:N)<=l then pU 2 else _).map V.R=_;rw[bK<|by omega];rfl
  .let q:∀t,hT e k=t->fw (hh (e,k)<|Ua l)=fw (kB t 7 λt=>p_ (e,k)<|bitOf<|TG k t<|Cp e l.toNat):=λt w=>by
    change fw (if l<0∨(10:N)<=l then(pU 2:Out_)else _)=_;rw[be<|by omega,<- w];rfl
   show yZ x aa (λ_=>rfl) b aa (λd=>q _ d) λal af a5 t T u a6 z A U a7 j b=>?_;let a0:=z.S.K z.K.K;show(.K p,z.K.S 0,λbC a8 ab ag a1=>.mk ab ag a1 λaH a9 b0 aw=>(aa,Rp.mk (yK x.R x.X) a0 aw λi b1 fin=>?_));show .mk A U fin (λf o=>(j.R f).mp<|(j.S f).mpr o) (nd<|by omega) (RP j) λb2 a2=>(_,aa,dH (λ_=>?_) λm=>nU<|m);let(b3,a3,a4,_):=z.a3 a2;show(b.R a3).K a4 ?_ hZ;rw[q _ j.K];change((bitOf<|TG k u<|Cp e l.toNat).map λn:O=>(n:N)).map V.R=_;rw[arv (yK x.R x.X)<|λf o=>(j.S f).mpr o];rfl
abbrev dy:=vv
inductive cD where|a0(x:lb)|S|a3(x:lb)|a7|a8|a9|b0|b1|b2|b3|b4
noncomputable def cD.K:cD->O|.a0 _=>1|.S=>2|.a3 _=>2|.a7=>3|.a8=>2|.a9=>1|.b0=>1|.b1=>1|.b2=>1|.b3=>2|.b4=>2
noncomputable def cD.mk(f:cD)(l:O)(bb:#[aW]):aW:=
 let g i:=bb.getD i<|jK 0 0
 match f with|.a0 x=>fy l x<|g 0|.S=>iq l (g 0)<|g 1|.a3 x=>ku l x (g 0)<|g 1|.a7=>ni l (g 0) (g 1)<|g 2|.a8=>jP l (g 0)<|g 1|.a9=>nG l<|g 0|.b0=>nH l<|g 0|.b1=>kv l<|g 0|.b2=>nK l<|g 0|.b3=>mH l (g 0)<|g 1|.b4=>pQ l (g 0)<|g 1
noncomputable def cD.X:cD->E|.a0 _=>"fun" |.S=>"call" |.a3 _=>"let" |.a7=>"if" |.a8=>"pair" |.a9=>"fst" |.b0=>"snd" |.b1=>"new" |.b2=>"get" |.b3=>"set" |.b4=>"add"
noncomputable def cD.b8:cD->dy|.a0 _=>eu "fun" |.S=>[]|.a3 _=>eu "let" |.a7=>eu "if" |.a8=>eu "pair" |.a9=>eu "fst" |.b0=>eu "snd" |.b1=>eu "new" |.b2=>eu "get" |.b3=>eu "set" |.b4=>eu "add"
noncomputable def cD.R:cD->bs lb|.a0 x=>Y x|.a3 x=>Y x|_=>M
noncomputable def cD.a4(f:cD):dy:=f.b8++match f.R with|Y x=>32::x|M=>[]
noncomputable def cD.a1:cD->O->dy|.S,0=>[]|_,_=>[32]
noncomputable def cD.b5:cD->O->bs lb|.a0 x,_=>Y x|.a3 x,1=>Y x|_,_=>M
abbrev hR:=#[lb×O]
noncomputable def cD.a2(f:cD)(i l:O)(s:hR):hR:=match f.b5 i with|Y x=>(x,l)::s|M=>s
noncomputable def cD.b7(f:cD)(l:O)(o:bs O):bs O:=match f with|.a0 _=>Y l|_=>o
def RS(e:aW):(∃l n,e=jK l n)∨(∃l x,e=gK l x)∨∃(f:cD)(l:O)(bb:#[aW]),↑bb=f.K/\e=f.mk l bb/\l=bi e/\bb=gD e:=by
 cases e with|num l n=>show aQ (l,n,aa)|var l x=>show bl<|aQ (l,x,aa)|fn l x B=>show bl<|bl (.a0 x,l,[B],aa,aa,aa,aa)|app l a B=>show bl<|bl (.S,l,[a,B],aa,aa,aa,aa)|letE l x a B=>show bl<|bl (.a3 x,l,[a,B],aa,aa,aa,aa)|ifz l a B c=>show bl<|bl (.a7,l,[a,B,c],aa,aa,aa,aa)|pair l a B=>show bl<|bl (.a8,l,[a,B],aa,aa,aa,aa)|fst l a=>show bl<|bl (.a9,l,[a],aa,aa,aa,aa)|snd l a=>show bl<|bl (.b0,l,[a],aa,aa,aa,aa)|new l a=>show bl<|bl (.b1,l,[a],aa,aa,aa,aa)|get l a=>show bl<|bl (.b2,l,[a],aa,aa,aa,aa)|set l a B=>show bl<|bl (.b3,l,[a,B],aa,aa,aa,aa)|add l a B=>show bl<|bl (.b4,l,[a,B],aa,aa,aa,aa)
structure fx where
 K:E
 R:#[O]
 X:bs O
 a0:bs O
 a1:bs O
 S:bs lb
noncomputable def hK(s:hR)(x:lb):bs O:=(s.find? λz=>z.1==x).map λz=>z.2
noncomputable def hm:hR->bs O->aW->#[fx]|_,o,jK _ n=>[("number",[],Y n,M,o,M)]|s,o,gK _ x=>[(if(hK s x).isSome then "name" else "in",[],M,hK s x,o,M)]|s,o,fy l x B=>("fun",[bi B],M,M,o,Y x)::hm ((x,l)::s) (Y l) B|s,o,iq _ a B=>("call",[bi a,bi B],M,M,o,M)::(hm s o a++hm s o B)|s,o,ku l x a B=>("let",[bi a,bi B],M,M,o,Y x)::(hm s o a++hm ((x,l)::s) o B)|s,o,ni _ a B c=>("if",[bi a,bi B,bi c],M,M,o,M)::(hm s o a++(hm s o B++hm s o c))|s,o,jP _ a B=>("pair",[bi a,bi B],M,M,o,M)::(hm s o a++hm s o B)|s,o,nG _ a=>("fst",[bi a],M,M,o,M)::hm s o a|s,o,nH _ a=>("snd",[bi a],M,M,o,M)::hm s o a|s,o,kv _ a=>("new",[bi a],M,M,o,M)::hm s o a|s,o,nK _ a=>("get",[bi a],M,M,o,M)::hm s o a|s,o,mH _ a B=>("set",[bi a,bi B],M,M,o,M)::(hm s o a++hm s o B)|s,o,pQ _ a B=>("add",[bi a,bi B],M,M,o,M)::(hm s o a++hm s o B)
noncomputable def ka(s:hR)(e:aW):#[O]:=(gZ s e).filterMap ki
noncomputable def kq(k:O)(l:#[O]):#[O]:=(l.filter (·<k)).eraseDups
noncomputable def gr:hR->aW->#[O×#[O]]|_,jK _ _=>[]|_,gK _ _=>[]|s,fy l x B=>(l,kq l<|ka ((x,l)::s) B)::gr ((x,l)::s) B|s,iq _ a B=>gr s a++gr s B|s,ku l x a B=>gr s a++gr ((x,l)::s) B|s,ni _ a B c=>gr s a++(gr s B++gr s c)|s,jP _ a B=>gr s a++gr s B|s,nG _ a=>gr s a|s,nH _ a=>gr s a|s,kv _ a=>gr s a|s,nK _ a=>gr s a|s,mH _ a B=>gr s a++gr s B|s,pQ _ a B=>gr s a++gr s B
noncomputable def jD(f:cD):O->#[aW]->dy|_,[]=>[]|i,ae::r=>f.a1 i++(hB ae++jD f (i+1) r)
noncomputable def rs(f:cD)(l:O)(s:hR)(o:bs O):O->#[aW]->#[fx]|_,[]=>[]|i,ae::r=>hm (f.a2 i l s) (f.b7 l o) ae++rs f l s o (i+1) r
noncomputable def jo(f:cD)(l:O)(s:hR):O->#[aW]->#[O]|_,[]=>[]|i,ae::r=>ka (f.a2 i l s) ae++jo f l s (i+1) r
noncomputable def mB(f:cD)(l:O)(s:hR):O->#[aW]->#[O×#[O]]|_,[]=>[]|i,ae::r=>gr (f.a2 i l s) ae++mB f l s (i+1) r
noncomputable def cD.a5(f:cD)(l:O)(w:#[O]):#[O×#[O]]:=match f with|.a0 _=>[(l,kq l w)]|_=>[]
def sw{f:cD}{bb:#[aW]}(dA:↑bb=f.K){Q:cD->#[aW]->Prop}(ab:∀x a,Q (.a0 x) [a])(ag:∀a B,Q .S [a,B])(b:∀x a B,Q (.a3 x) [a,B])(h:∀a B c,Q .a7 [a,B,c])(a1:∀a B,Q .a8 [a,B])(a2:∀a,Q .a9 [a])(a3:∀a,Q .b0 [a])(a4:∀a,Q .b1 [a])(a5:∀a,Q .b2 [a])(a6:∀a B,Q .b3 [a,B])(a7:∀a B,Q .b4 [a,B]):Q f bb:=by
 cases f<;>first
  |(let(a,rfl):=ayC.1 dA;first|show ab _ _|show a2 _|show a3 _|show a4 _|show a5 _)
  |(let(a,B,rfl):=qq dA;first|show ag _ _|show b _ _ _|show a1 _ _|show a6 _ _|show a7 _ _)
  |(let(a,B,c,rfl):=abZ dA;show h _ _ _)
section
variable{f:cD}{l:O}{bb:#[aW]}(dA:↑bb=f.K)
include dA
theorem atg:bi (f.mk l bb)=l:=by
 show sw dA (Q:=λf bb=>bi (f.mk l bb)=l) ?_ ?_ ?_ ?_ ?_ ?_ ?_ ?_ ?_ ?_ ?_<;>intros<;>rfl
theorem GA:hB (f.mk l bb)=40::(f.a4++(jD f 0 bb++[41])):=by
 show sw dA (Q:=λf bb=>hB (f.mk l bb)=40::(f.a4++(jD f 0 bb++[41]))) ?_ ?_ ?_ ?_ ?_ ?_ ?_ ?_ ?_ ?_ ?_<;>intros<;>(dsimp only[cD.mk,hB,zf,zg,zh,jD];(dsimp only[cD.a4,cD.b8,cD.R,cD.a1];simp))
theorem ath(s:hR)(o:bs O):hm s o (f.mk l bb)=(f.X,bb.map bi,M,M,o,f.R)::rs f l s o 0 bb:=by
 show sw dA (Q:=λf bb=>hm s o (f.mk l bb)=(f.X,bb.map bi,M,M,o,f.R)::rs f l s o 0 bb) ?_ ?_ ?_ ?_ ?_ ?_ ?_ ?_ ?_ ?_ ?_<;>intros<;>(dsimp only[cD.mk,hm,rs];(dsimp only[cD.X,cD.R,cD.a2,cD.b5,cD.b7];simp))
theorem ati(s:hR):ka s (f.mk l bb)=jo f l s 0 bb:=by
 show sw dA (Q:=λf bb=>ka s (f.mk l bb)=jo f l s 0 bb) ?_ ?_ ?_ ?_ ?_ ?_ ?_ ?_ ?_ ?_ ?_<;>intros<;>(dsimp only[cD.mk,ka,gZ,jo];(dsimp only[cD.a2,cD.b5];simp))
theorem atj(s:hR):gr s (f.mk l bb)=f.a5 l (jo f l s 0 bb)++mB f l s 0 bb:=by
 show sw dA (Q:=λf bb=>gr s (f.mk l bb)=f.a5 l (jo f l s 0 bb)++mB f l s 0 bb) ?_ ?_ ?_ ?_ ?_ ?_ ?_ ?_ ?_ ?_ ?_<;>intros<;>(dsimp only[cD.mk,gr,jo,mB];(dsimp only[cD.a5,cD.a2,cD.b5];simp))
end
theorem adn(p:O->dq):∀(n:O)(l:#[O]),↑l<=n->l.eraseDups.filter p=(l.filter p).eraseDups
 |_,[],_=>rfl
 |n+1,a::r,d=>by
  rw[CX,pe,(adn p n (r.filter λB=>!B==a)<|db (qe _ _)<|Kf d),pe]
  cases q:p a with
  |true=>
   rw[bK aa,bK aa,CX,ahq,ahq];simp[Bool.and_comm]
  |false=>
   rw[be gh,be gh,ahq];congr 1;show C_ λx _=>?_
   cases z:(x==a)with|false=>show eW<|(λ{a B}=>Bool.eq_self_and.2)<|congrFun aa|true=>simp_all
noncomputable def ado(ax:#[fx])(ct:#[O×#[O]]):dV:=(ax.map fx.K,ax.map λr=>cu r.R,ax.map λr=>r.X.map λn:O=>(n:N),ax.map λr=>r.a0.map λn:O=>(n:N),ax.map λr=>r.a1.map λn:O=>(n:N),ct.map λq=>((q.1:Int),cu q.2))
noncomputable def GB(e:aW)(w:kA):fx:=(gW e w.node,(gD w.node).map bi,match w.node with|jK _ n=>Y n|_=>M,match w.node with|gK l _=>eV e l|_=>M,w.owner,match w.node with|fy _ x _=>Y x|ku _ x _ _=>Y x|_=>M)
section
variable(ep:cR e)
include ep
theorem atk{x}(h:x>bR e)(d:∀l y,x≠gK l y):eV e (bi x)=M:=by
 delta eV
 cases q:(ho e).find? λz=>z.1==bi x with
 |none=>rfl
 |some z=>
  let ab:z.1>(ho e).map ek:=bx.2 (z,qd q,aa);delta ho at ab;rw[Bk,(oV<|us (p:=λz:O×bs O=>z.1==bi x) q)]at ab;let(y,f,g):=bx.1 ab;let(i,b):=je.1 f;rw[ep.inj i h g]at b
  cases x with|var l y=>show Option.eq_none_iff_forall_ne_some.2 λa j=>d l y aa|_=>cases b
theorem atl:∀(x:aW)(s:hR)(o:bs O),(∀q∈gZ s x,q>ho e)->hm s o x=(gq o x).map (GB e):=by
 let j:∀{r p:fx}{a B:#[fx]}{c ae:#[kA]},r=p->a=c.map (GB e)->B=ae.map (GB e)->r::(a++B)=p::(c++ae).map (GB e):=λv ab ag=>by rw[cs,<- ab,<- ag,v]
 let i:∀{s x y},(∀q∈gZ s x++y,q>ho e)->∀q∈gZ s x,q>ho e:=λd q m=>d q<|dQ _ m;let f:∀{y z},(∀q∈y++z,q>ho e)->∀q∈z,q>ho e:=λd q m=>d q<|cG _ m;intro x
 induction x with
 |num l n=>show λ_ _ _=>rfl
 |var l y=>
  intro s o d;change _=[fx.mk (if(eV e l).isSome then _ else _) _ _ (eV e l) _ _];rw[(ep.b0<|d (l,hK s y)<|cp _)];rfl
 |fn l y B b=>show λs o d=>dP (_::·)<|b _ _ d
 |fst l B b=>show λs o d=>dP (_::·)<|b s o d
 |snd l B b=>show λs o d=>dP (_::·)<|b s o d
 |new l B b=>show λs o d=>dP (_::·)<|b s o d
 |get l B b=>show λs o d=>dP (_::·)<|b s o d
 |ifz l a B c g h w=>
  intro s o d;show j aa (g s o<|i d) ?_;rw[cs,<- h s o<|i<|f d,<- w s o<|f<|f d]
 |letE l y a B g h=>show λs o d=>j aa (g s o<|i d)<|h _ o<|f d
 |_ l a B g h=>show λs o d=>j aa (g s o<|i d)<|h s o<|f d
theorem atm:∀(x:aW)(s:hR),x>bR e->(∀q∈gZ s x,q>ho e)->(dC x).filterMap (eV e)=ka s x:=by
 let g:∀{x},x>bR e->(∀l y,x≠gK l y)->∀r,(bi x::r).filterMap (eV e)=r.filterMap (eV e):=λb d r=>by rw[q',atk ep b d]
 let m:∀{s x y},(∀q∈gZ s x++y,q>ho e)->∀q∈gZ s x,q>ho e:=λd q o=>d q<|dQ _ o;let h:∀{y z},(∀q∈y++z,q>ho e)->∀q∈z,q>ho e:=λd q o=>d q<|cG _ o;let fc:∀{x a B:aW}{A dt:#[O×bs O]},x>bR e->(∀l y,x≠gK l y)->dC x=bi x::(dC a++dC B)->(dC a).filterMap (eV e)=A.filterMap ki->(dC B).filterMap (eV e)=dt.filterMap ki->(dC x).filterMap (eV e)=(A++dt).filterMap ki:=λb d p ab ag=>by rw[p,g b d,vU,vU,ab,ag]
 intro x
 induction x with
 |num l n=>show λs b d=>g b (λ_ _=>(nomatch ·)) []
 |var l y=>
  intro s b d;change[l].filterMap (eV e)=[(l,hK s y)].filterMap ki;rw[q',(ep.b0<|d (l,hK s y)<|cp _),q'];rfl
 |fn l y B f=>show λs b d=>(g b (λ_ _=>(nomatch ·)) _).trans<|f _ (jl b<|cp _) d
 |fst l B f=>show λs b d=>(g b (λ_ _=>(nomatch ·)) _).trans<|f _ (jl b<|cp _) d
 |snd l B f=>show λs b d=>(g b (λ_ _=>(nomatch ·)) _).trans<|f _ (jl b<|cp _) d
 |new l B f=>show λs b d=>(g b (λ_ _=>(nomatch ·)) _).trans<|f _ (jl b<|cp _) d
 |get l B f=>show λs b d=>(g b (λ_ _=>(nomatch ·)) _).trans<|f _ (jl b<|cp _) d
 |ifz l a B c i j v=>
  intro s b d;change((_::(bR a++(bR B++bR c))).map bi).filterMap _=(gZ s a++(gZ s B++gZ s c)).filterMap _;rw[fg,g b (λ_ _=>(nomatch ·)),cs,cs,vU,vU,vU,vU];rw[show((bR a).map bi).filterMap (eV e)=_ from i s (jl b<|cp _) (m d),show((bR B).map bi).filterMap (eV e)=_ from j s (jl b<|eo _<|cp _) (m<|h d),show((bR c).map bi).filterMap (eV e)=_ from v s (jl b<|eo _<|eo _<|cp _) (h<|h d)];rfl
 |letE l y a B i j=>show λs b d=>fc b (λ_ _=>(nomatch ·)) (by change(_::(_++_)).map _=_;rw[fg,cs];rfl) (i s (jl b<|cp _)<|m d)<|j _ (jl b<|eo _<|cp _)<|h d
 |_ l a B i j=>show λs b d=>fc b (λ_ _=>(nomatch ·)) (by change(_::(_++_)).map _=_;rw[fg,cs];rfl) (i s (jl b<|cp _)<|m d)<|j s (jl b<|eo _<|cp _)<|h d
theorem atn{k y B s}(b:fy k y B>bR e)(h:eC k<|fy k y B)(aw:∀q∈s,q.2<k)(d:∀q∈gZ ((y,k)::s) B,q>ho e):ja e k=kq k (ka ((y,k)::s) B):=by
 delta ja;rw[show sP e k=Y (fy k y B)from ep.a1 b];change ayv _ (((dC B).filterMap<|eV e).eraseDups)=_;rw[atm ep B ((y,k)::s) (jl b<|cp _) d,adn _ _ _ dw];congr 1;show C_ λz hz=>?_;let f:z>k::dC B↔k<=z/\z<k+1+cU B:=by
  rw[((zs B _).mpr h.2),cc,ayD];lia
 let hz:z<k+1+cU B:=by
  let((g,l),i,rfl):=ln.1 hz;let ab||ab:=FT B _ g z i
  .let(q,j,aB):=bx.1 ab;rw[<- aB];let r||r:=cc.1 j;.rw[r];lia
   .have:=aw q r;lia
  .show(f.1<|eo _ ab).2
 rw[oa,SA,<- ayF,qf,f,rR];lia
theorem ato:∀(x:aW)(s:hR)(n:O),x>bR e->eC n x->(∀q∈s,q.2<n)->(∀q∈gZ s x,q>ho e)->(mn x).map (λk=>(k,ja e k))=gr s x:=by
 let w:∀{s x y},(∀q∈gZ s x++y,q>ho e)->∀q∈gZ s x,q>ho e:=λd q j=>d q<|dQ _ j;let o:∀{y z},(∀q∈y++z,q>ho e)->∀q∈z,q>ho e:=λd q j=>d q<|cG _ j;let fc:∀{x a B:aW}{A dt:#[O×#[O]]},bR x=x::(bR a++bR B)->Cs x=aX->(mn a).map (λk=>(k,ja e k))=A->(mn B).map (λk=>(k,ja e k))=dt->(mn x).map (λk=>(k,ja e k))=A++dt:=λb d ab ag=>by
  delta mn;rw[b,Kg<|d▸gh,ta,cs,cs,<- ab,<- ag];rfl
 let g:∀{s:hR}{n m:O},(∀q∈s,q.2<n)->n<=m->∀q∈s,q.2<m:=λd T q j=>ia (d q j) T;let a1:∀{s:hR}{n m:O}{y:lb},(∀q∈s,q.2<n)->n<m->∀q∈(y,n)::s,q.2<m:=λd T q j=>(cc.1 j).elim (λz=>z▸T) λz=>s_ (d q z) T;let i:∀{x a:aW}{r},x>bR e->gD x=a::r->a>bR e:=λf U=>jl f (by rw[U];show(cp _));let V:∀{x a B:aW}{r},x>bR e->gD x=a::B::r->B>bR e:=λf U=>jl f (by rw[U];show el _<|cp _);intro x
 induction x with
 |num l n=>show λ_ _ _ _ _ _=>rfl
 |var l y=>show λ_ _ _ _ _ _=>rfl
 |fn l y B h=>
  intro s n f b aw d;let a0:=b.1;subst a0;change(l,ja e l)::_=(l,kq l _)::gr _ B;rw[<-(h ((y,l)::s) (l+1) (i f aa) b.2 (a1 aw<|pa _) d),atn ep f b aw d];rfl
 |fst l B h=>show λs n f b aw d=>h s (n+1) (i f aa) b.2 (g aw<|ll _) d
 |snd l B h=>show λs n f b aw d=>h s (n+1) (i f aa) b.2 (g aw<|ll _) d
 |new l B h=>show λs n f b aw d=>h s (n+1) (i f aa) b.2 (g aw<|ll _) d
 |get l B h=>show λs n f b aw d=>h s (n+1) (i f aa) b.2 (g aw<|ll _) d
 |ifz l a B c p v a2=>
  intro s n f b aw d;let a3:=v s (n+1+cU a) (V f aa) b.2.2.1 (g aw<|by lia)<|w<|o d;let a4:=p s (n+1) (i f aa) b.2.1 (g aw<|nq n 1)<|w d;change(((_::(bR a++(bR B++bR c))).filter Cs).map bi).map _=gr s a++(gr s B++gr s c);rw[Kg<|gh,ta,ta,cs,cs,cs,cs,<- a4,<- a3,<-(a2 s (n+1+cU a+cU B) (jl f<|eo _<|eo _<|cp _) b.2.2.2 (g aw<|by lia)<|o<|o d)];rfl
 |letE l y a B p v=>
  intro s n f b aw d;let a0:=b.1;subst a0;show fc aa aa (p s (l+1) (i f aa) b.2.1 (g aw<|ll _)<|w d)<|v _ (l+1+cU a) (V f aa) b.2.2 (a1 aw<|by lia)<|o d
 |_ l a B p v=>show λs n f b aw d=>fc aa aa (p s (n+1) (i f aa) b.2.1 (g aw<|ll _)<|w d)<|v s (n+1+cU a) (V f aa) b.2.2 (g aw<|by lia)<|o d
theorem atp:dr e=ado (hm [] M e) (gr [] e):=by
 delta ado dr;rw[atl ep e [] M λ_ d=>d,<- ato ep e [] 0 (abk e) ep.a8 (λ_ d=>(by cases d)) λ_ d=>d,<- tG e M];simp only[dX];congr 1<;>show rb λw _=>?_;.show(dX ..).symm
 all_goals
  let(x,o):=w;cases x<;>rfl
end
structure eQ where
 K:O
 R:cD
 S:#[aW]
noncomputable def cB:#[eQ]->hR|[]=>[]|g::ah=>g.R.a2 ↑g.S g.K<|cB ah
noncomputable def eA:#[eQ]->bs O|[]=>M|g::ah=>g.R.b7 g.K<|eA ah
noncomputable def pG(i l:O)(ax:#[fx]):#[fx]:=ax.modify i λr=>{r with R:=r.R++[l]}
noncomputable def jp(ah:#[eQ])(l:O)(ax:#[fx]):#[fx]:=match ah with|[]=>ax|g::_=>pG g.K l ax
noncomputable def cj:#[eQ]->#[fx]|[]=>[]|g::ah=>jp ah g.K (cj ah)++(g.R.X,g.S.map bi,M,M,eA ah,g.R.R)::rs g.R g.K (cB ah) (eA ah) 0 g.S
noncomputable def he:#[O]->#[eQ]->#[O×#[O]]|_,[]=>[]|w,g::ah=>he (jo g.R g.K (cB ah) 0 g.S++w) ah++(g.R.a5 g.K (jo g.R g.K (cB ah) 0 g.S++w)++mB g.R g.K (cB ah) 0 g.S)
set_option genInjectivity true in
inductive pH where|K(ah:#[eQ])|R(e:aW)
noncomputable def kb(ah:#[eQ])(x:aW):pH:=match ah with|[]=>.R x|g::ah=>.K<|{g with S:=g.S++[x]}::ah
noncomputable def wD:pH->#[fx]|.K ah=>cj ah|.R e=>hm [] M e
noncomputable def RT:pH->#[O×#[O]]|.K ah=>he [] ah|.R e=>gr [] e
noncomputable def adp:pH->#[eQ]|.K ah=>ah|.R _=>[]
theorem adq(f:cD)(l:O)(s:hR)(o:bs O)(x:aW):∀bb i,rs f l s o i (bb++[x])=rs f l s o i bb++hm (f.a2 (i+↑bb) l s) (f.b7 l o) x
 |[],i=>e' _
 |ae::r,i=>by
  change _++rs f l s o (i+1) (r++[x])=(_++_)++_;simp[adq,fi,hs,xF,mq]
theorem adr(f:cD)(l:O)(s:hR)(x:aW):∀bb i,jo f l s i (bb++[x])=jo f l s i bb++ka (f.a2 (i+↑bb) l s) x
 |[],i=>e' _
 |ae::r,i=>by
  change _++jo f l s (i+1) (r++[x])=(_++_)++_;simp[adr,fi,hs,xF,mq]
theorem ads(f:cD)(l:O)(s:hR)(x:aW):∀bb i,mB f l s i (bb++[x])=mB f l s i bb++gr (f.a2 (i+↑bb) l s) x
 |[],i=>e' _
 |ae::r,i=>by
  change _++mB f l s (i+1) (r++[x])=(_++_)++_;simp[ads,fi,hs,xF,mq]
theorem adt(f:cD)(x:aW):∀bb i,jD f i (bb++[x])=jD f i bb++(f.a1 (i+↑bb)++hB x)
 |[],i=>by change _++(_++[])=_;rw[e'];rfl
 |ae::r,i=>by
  change _++(_++jD f (i+1) (r++[x]))=(_++(_++_))++_;simp[adt,fi,hs,xF,mq]
theorem atq(e:aW):∀s o,↑(hm s o e)=cU e:=by
 induction e<;>intro s o<;>(dsimp only[hm,cU];simp_all)<;>lia
theorem qB(ah:#[eQ])(l:O)(ax:#[fx]):↑(jp ah l ax)=↑ax:=by
 cases ah with|nil=>rfl|cons g ah=>show ahr _ _ _
noncomputable def kX(bb:#[aW]):O:=(bb.map cU).sum
theorem adu(f:cD)(l:O)(s:hR)(o:bs O):∀bb i,↑(rs f l s o i bb)=kX bb
 |[],_=>rfl
 |ae::r,i=>by
  change↑(hm _ _ ae++_)=(cU ae::r.map cU).sum;rw[cW,atq,adu f l s o r,SP];rfl
theorem vo(g:eQ)(ah:#[eQ]):↑(cj<|g::ah)=↑(cj ah)+1+kX g.S:=by
 change↑(jp ah g.K (cj ah)++_::_)=_;rw[cW,qB,hs,adu];show eW<|rX ↑(cj ah)<|kX g.S
theorem adv(A dt:#[α])(r:α)(f:α->α){n}(d:n=↑A):(A++r::dt).modify n f=A++f r::dt:=by
 subst d
 induction A with|nil=>rfl|cons a A b=>show dP (a::·) b
theorem RU{ah}(d:∀g∈ah.head?,g.K=↑(cj ah.tail))(x:aW):wD (kb ah x)=jp ah (bi x) (cj ah)++hm (cB ah) (eA ah) x:=by
 cases ah with
 |nil=>rfl
 |cons g ah=>
  let b:g.K=↑(jp ah g.K<|cj ah):=by rw[qB];show d g aa
  change jp ah g.K (cj ah)++_::rs g.R g.K (cB ah) (eA ah) 0 (g.S++[x])=pG g.K (bi x) (jp ah g.K (cj ah)++_::_)++_;rw[adq,od];delta pG;rw[adv _ _ _ _ b,fi,cs];rfl
theorem atr{g ah}(d:∀g∈ah.head?,g.K=↑(cj ah.tail))(b:↑g.S=g.R.K):wD (kb ah<|g.R.mk g.K g.S)=cj (g::ah):=by
 rw[RU d,ath b,atg b];rfl
theorem RV(ah:#[eQ])(x:aW):RT (kb ah x)=he (ka (cB ah) x) ah++gr (cB ah) x:=by
 cases ah with
 |nil=>rfl
 |cons g ah=>
  change he (jo g.R g.K (cB ah) 0 (g.S++[x])++[]) ah++(g.R.a5 g.K (jo g.R g.K (cB ah) 0 (g.S++[x])++[])++mB g.R g.K (cB ah) 0 (g.S++[x]))=(he (jo g.R g.K (cB ah) 0 g.S++_) ah++(_++_))++_;rw[e',adr,ads,od,fi,fi];rfl
theorem ats{g ah}(b:↑g.S=g.R.K):RT (kb ah<|g.R.mk g.K g.S)=he [] (g::ah):=by
 rw[RV,ati b,atj b];change _=he (_++[]) ah++(_++_);rw[e']
noncomputable def jq(B:nP):dq:=oH B||rA B
noncomputable def ec(r:dy):dy:=r.takeWhile jq
noncomputable def mC(s:hR)(n:O)(w:dy):bs aW:=match kg w with|Y k=>Y<|jK n k|M=>if qT w=J/\(w=oP∨(hK s w).isSome=J)then Y (gK n w)else M
noncomputable def oA(r:dy):bs<|lb×dy:=match r with|32::r=>if qT (ec r)=J/\ec r≠oP then Y (ec r,r.drop ↑(ec r))else M|_=>M
noncomputable def vp(w:dy):bs cD:=if w=eu "if" then Y .a7 else if w=eu "pair" then Y .a8 else if w=eu "fst" then Y .a9 else if w=eu "snd" then Y .b0 else if w=eu "new" then Y .b1 else if w=eu "get" then Y .b2 else if w=eu "set" then Y .b3 else if w=eu "add" then Y .b4 else M
noncomputable def tV(w q r:dy):bs<|cD×dy:=
 if w=eu "fun" then(oA q).map λq=>(.a0 q.1,q.2)
 else if w=eu "let" then(oA q).map λq=>(.a3 q.1,q.2)
 else match vp w with|Y f=>Y (f,q)|M=>Y (.S,r)
noncomputable def oB(r:dy):bs<|cD×dy:=tV (ec r) (r.drop ↑(ec r)) r
noncomputable def h_(ah:#[eQ])(r:dy):bs<|pH×dy:=if↑(cj ah)=30∨8<↑ah then M else match r with|40::r=>(oB r).map λq=>(.K<|(↑(cj ah),q.1,[])::ah,q.2)|_=>(mC (cB ah) ↑(cj ah)<|ec r).map λx=>(kb ah x,r.drop ↑(ec r))
noncomputable def tW(B:nP)(r:dy):bs dy:=match r with|c::r=>if c=B then Y r else M|[]=>M
noncomputable def mc(g:eQ)(ah:#[eQ])(r:dy):bs<|pH×dy:=if ↑g.S=g.R.K then(tW 41 r).map λr=>(kb ah<|g.R.mk g.K g.S,r)
 else match g.R.a1 ↑g.S with|[]=>h_ (g::ah) r|_=>(tW 32 r).bind<|h_<|g::ah
noncomputable def sx(s:hR):#[lb]:=s.map ek++[oP]
def qC:O->#[aW]->Prop|_,[]=>kz|n,ae::r=>eC n ae/\qC (n+cU ae) r
def qD(f:cD)(l:O)(s:hR):O->#[aW]->Prop|_,[]=>kz|i,ae::r=>ir (sx<|f.a2 i l s) ae=J/\qD f l s (i+1) r
def cD.b6(f:cD):Prop:=∀x,f.R=Y x->qT x=J/\x≠oP
section
variable{f:cD}{l:O}{bb:#[aW]}(dA:↑bb=f.K)
include dA
theorem adw(n:O):eC n (f.mk l bb)↔l=n/\qC (n+1) bb:=by
 show sw dA (Q:=λf bb=>eC n (f.mk l bb)↔l=n/\qC (n+1) bb) ?_ ?_ ?_ ?_ ?_ ?_ ?_ ?_ ?_ ?_ ?_<;>intros<;>(dsimp only[cD.mk,eC,qC];simp)
theorem RW:cU (f.mk l bb)=kX bb+1:=by
 show sw dA (Q:=λf bb=>cU (f.mk l bb)=kX bb+1) ?_ ?_ ?_ ?_ ?_ ?_ ?_ ?_ ?_ ?_ ?_<;>intros<;>(dsimp only[cD.mk,cU];simp[kX,mq])
theorem adx(k:O):kw (f.mk l bb)<=k+1↔∀ae∈bb,kw ae<=k:=by
 show sw dA (Q:=λf bb=>kw (f.mk l bb)<=k+1↔∀ae∈bb,kw ae<=k) ?_ ?_ ?_ ?_ ?_ ?_ ?_ ?_ ?_ ?_ ?_<;>intros<;>(dsimp only[cD.mk,kw];simp[agy])
theorem att:1<=kw (f.mk l bb):=by
 show sw dA (Q:=λf bb=>1<=kw (f.mk l bb)) ?_ ?_ ?_ ?_ ?_ ?_ ?_ ?_ ?_ ?_ ?_<;>intros<;>show ut<|ex _
theorem RX(s:hR):ir (sx s) (f.mk l bb)=J↔f.b6/\qD f l s 0 bb:=by
 show sw dA (Q:=λf bb=>ir (sx s) (f.mk l bb)=J↔f.b6/\qD f l s 0 bb) ?_ ?_ ?_ ?_ ?_ ?_ ?_ ?_ ?_ ?_ ?_<;>intros<;>(dsimp only[cD.mk,ir,qD];(dsimp only[cD.b6,cD.R,cD.a2,cD.b5,sx];simp[ahs]))
end
noncomputable def tX(ah:#[eQ]):dy:=match ah with|[]=>[]|g::_=>g.R.a1 ↑g.S
noncomputable def tZ:#[eQ]->dy|[]=>[]|g::ah=>tZ ah++(tX ah++40::(g.R.a4++jD g.R 0 g.S))
def rt(ah:#[eQ]):Prop:=∀g,ah.head? =Y g->↑g.S<g.R.K
structure ady(g:eQ)(ah:#[eQ]):Prop where
 K:g.K=↑(cj ah)
 S:qC (g.K+1) g.S
 a3:qD g.R g.K (cB ah) 0 g.S
 X:∀ae∈g.S,kw ae+(↑ah+1)<=8
 R:↑g.S<=g.R.K
 a4:↑ah<=8
 a0:↑(cj<|g::ah)<=30
 a1:g.R.b6
 a2:rt ah
def ht:#[eQ]->Prop|[]=>kz|g::ah=>ady g ah/\ht ah
structure GC(ah:#[eQ])(x:aW):Prop where
 K:eC ↑(cj ah) x
 R:ir (sx<|cB ah) x=J
 S:kw x+↑ah<=8
 X:↑(cj ah)+cU x<=30
def wF:pH->Prop|.K ah=>ht ah|.R e=>GC [] e
noncomputable def BD:pH->dy|.K ah=>tZ ah|.R e=>hB e
theorem RZ(x:aW):∀bb n,qC n (bb++[x])↔qC n bb/\eC (n+kX bb) x
 |[],n=>(λdA=>(⟨⟩,dA.1),λdA=>(dA.2,⟨⟩))
 |ae::r,n=>by
  change eC n ae/\qC (n+cU ae) (r++[x])↔(eC n ae/\qC (n+cU ae) r)/\eC (n+(cU ae::r.map cU).sum) x;rw[RZ x r,SP,<- mq,ahs];rfl
theorem R_(f:cD)(l:O)(s:hR)(x:aW):∀bb i,qD f l s i (bb++[x])↔qD f l s i bb/\ir (sx<|f.a2 (i+↑bb) l s) x=J
 |[],n=>(λdA=>(⟨⟩,dA.1),λdA=>(dA.2,⟨⟩))
 |ae::r,i=>by
  change _/\qD f l s (i+1) (r++[x])↔(_/\qD f l s (i+1) r)/\_;simp[R_,ahs,hs,xF,mq]
theorem atu(x:aW)(bb:#[aW]):kX (bb++[x])=kX bb+cU x:=by
 delta kX;simp_all
def adz{ah x}(v:ht ah)(o:GC ah x)(gF:rt ah):wF (kb ah x)/\BD (kb ah x)=tZ ah++(tX ah++hB x):=by
 cases ah with
 |nil=>show(o,aa)
 |cons g ah=>
  let(k,v):=v;let b:=vo g ah;show(((k.K,(RZ x g.S _).mpr (k.S,?_),(R_ _ _ _ x g.S 0).mpr (k.a3,by rw[od];show o.R),λae e=>?_,?_,k.a4,?_,k.a1,k.a2),v),?_);.have:=o.K;rw[b]at this;rwa [k.K]
  .let q||q:=du.1 e;.show k.X ae q
   .rw[dj.1 q];show o.S
  .rw[cW];show gF g aa
  .have:=o.X;rw[vo];rw[atu];lia
  .change tZ ah++(tX ah++40::(g.R.a4++jD g.R 0 (g.S++[x])))=(tZ ah++(tX ah++40::(g.R.a4++jD g.R 0 g.S)))++(g.R.a1 ↑g.S++hB x);rw[adt,od];simp
theorem sy(r:dy):ec r++r.drop ↑(ec r)=r:=List.prefix_iff_eq_append.1<|ayG _
set_option tactic.hygienic true in
def adA{w k}(dA:kg w=Y k):w=vw k/\k<=99:=by
 delta kg at dA;split at dA
 .rename_i q;cases dA;show(q.2.2,?_);let b:∀B∈w,B.toNat - 48<=9:=λB e=>by
   have:=(jS.1 q.2.1) B e;have:=(fV _ _).mp this|>.2;have:=avv.1<|eH this;show Nat.sub_le_of_le_add this
  let _||(a,_||(B,_||(c,w))):=w;.show ex _
  .have:=b a<|cp _;change 0*10+(a.toNat - 48)<=99;lia
  .have:=b a<|cp _;have:=b B<|eo _<|cp _;change(0*10+(a.toNat - 48))*10+(B.toNat - 48)<=99;lia
  .have:=q.1;simp at this
 .cases dA
set_option tactic.hygienic true in
def atv{s n w x}(dA:mC s n w=Y x):eC n x/\ir (sx s) x=J/\kw x=0/\cU x=1/\hB x=w:=by
 delta mC at dA;split at dA;.rename_i k q;cases dA;let(aB,b):=adA q;show(aa,hp b,aa,aa,aB.symm)
 .split at dA
  .rename_i q;cases dA;show(aa,(fV _ _).mpr (q.1,qf.2 ?_),aa,aa,aa);let z||z:=q.2;.show cG _<|dj.2 z
   .show dQ _<|(by
      delta hK at z;grind)
  .cases dA
def adB{r x}(dA:oA r=Y (x,b)):r=32::(x++b)/\qT x=J/\x≠oP:=by
 delta oA at dA;split at dA
 .split at dA;.grind [sy]
  .cases dA
 .cases dA
set_option tactic.hygienic true in
def atw{w f}(dA:vp w=Y f):f.a4=w/\f.b6:=by
 delta vp at dA;repeat' split at dA
 all_goals first|(cases dA;done)|(rename_i q;cases dA;rw[q];show(e' _,λ_ z=>(by cases z)))
set_option tactic.hygienic true in
def adC{r f}(dA:oB r=Y (f,h)):f.a4++h=r/\f.b6:=by
 delta oB tV at dA;split at dA
 .rename_i q;let((x,e),ab,ag):=e_.1 dA;cases ag;let(aB,b):=adB ab;show(?_,λy z=>by cases z;show b);conv=>rhs;rw[<- sy r,aB,q]
  change(eu "fun" ++32::x)++_=_;rw[fi];rfl
 .split at dA
  .rename_i q;let((x,e),ab,ag):=e_.1 dA;cases ag;let(aB,b):=adB ab;show(?_,λy z=>by cases z;show b);conv=>rhs;rw[<- sy r,aB,q]
   change(eu "let" ++32::x)++_=_;rw[fi];rfl
  .split at dA;.rename_i g q;cases dA;let(aB,b):=atw q;show(by rw[aB];show sy r,b)
   .cases dA;show(aa,λ_ z=>(by cases z))
def GD{ah r z}(v:ht ah)(gF:rt ah)(dA:h_ ah r=Y (z,h)):wF z/\BD z++h=tZ ah++(tX ah++r):=by
 delta h_ at dA;split at dA;.cases dA
 .let b:↑(cj ah)<30:=by
   cases ah with|nil=>show(⋯:0<30)|cons g ah=>have:=v.1.a0;omega
  split at dA
  .let((f,q),ab,ag):=e_.1 dA;cases ag;let(aB,e):=adC ab;show(((aa,⟨⟩,⟨⟩,(λ_ dA=>nomatch dA),ex _,by lia,?_,e,gF),v),?_);.rw[vo];change _+1+0<=30;show Nat.succ_le_of_lt b
   .change(tZ ah++(tX ah++40::(f.a4++[])))++_=_;rw[e',<- aB];simp
  .let(x,ab,ag):=e_.1 dA;cases ag;let(i,j,w,l,m):=atv ab;let(o,p):=adz v (i,j,by lia,SV (dP (HAdd.hAdd ↑(cj ah)) l) b) gF;show(o,?_);rw[p,m,fi,fi,sy]
theorem GF{B r}(dA:tW B r=Y b):r=B::b:=by
 delta tW at dA;grind
def wG(f:cD)(i:O):f.a1 i=[]∨f.a1 i=[32]:=by
 delta cD.a1;split;.show aQ aa
 .show bl aa
set_option tactic.hygienic true in
def adD{g ah r z}(v:ht<|g::ah)(dA:mc g ah r=Y (z,h)):wF z/\BD z++h=tZ (g::ah)++r:=by
 let(k,f):=id v;delta mc at dA;split at dA
 .rename_i q;let(i,ab,ag):=e_.1 dA;cases ag;rw[GF ab];let w:=vo g ah;let b:kw (g.R.mk g.K g.S)+↑ah<=8:=by
   have:=(adx q (l:=g.K)<|8 -(↑ah+1)).mpr λae b=>by have:=k.X ae b;show Nat.le_sub_of_add_le this
   let ag:g.S≠[]:=λz=>by rw[z]at q;cases j:g.R<;>rw[j]at q<;>cases q
   let(ae,b):=aya _ ag;have:=k.X ae b;lia
  let(m,o):=adz f ((adw q _).mpr (k.K,k.K▸k.S),(RX q _).mpr (k.a1,k.a3),b,by have:=k.a0;rw[RW q];lia) k.a2;show(m,?_);rw[o,GA q];change _=(tZ ah++(tX ah++40::(g.R.a4++jD g.R 0 g.S)))++_;simp
 .rename_i q;let gF:rt<|g::ah:=λx p=>by cases p;show C' k.R q
  let e||e:=wG g.R ↑g.S;.rw[e]at dA;have:=GD v gF dA;rw[show tX (g::ah)=[]from e]at this;show this
  .rw[e]at dA;let(i,ab,ag):=xS.1 dA;have:=GD v gF ag;rw[show tX (g::ah)=[32]from e]at this;rwa [GF ab]
inductive kr:pH×dy->pH×dy->Prop|K(q:pH×dy):kr q q|step{g:eQ}{ah:#[eQ]}{b h}{p:pH×dy}:mc g ah b=Y h->kr h p->kr (.K<|g::ah,b) p
theorem kr.R{a B c}(d:kr a B)(k:kr B c):kr a c:=by
 induction d with|K _=>show k|step d _ b=>show .step d<|b k
theorem kr.S{a B c}(d:kr a B)(k:kr a c):kr B c∨kr c B:=by
 induction d with
 |K _=>show aQ k
 |step d t b=>
  cases k with
  |K _=>show bl<|.step d t
  |step ag e=>
   grind
theorem y_{w r}(d:∀B∈w,jq B=J)(b:hi r):ec (w++r)=w:=by
 delta ec;rw[List.takeWhile_append_of_pos d];let rfl||(q,rfl||rfl):=b;.show e' _
 .rw[Kh ⋯];show e' _
 .rw[Kh ⋯];show e' _
def R'{x:dy}(d:∀B∈x,oH B=J):∀B∈x,jq B=J:=λB b=>by delta jq;rw[d B b];rfl
theorem GG{w r:dy}:(w++r).drop ↑w=r:=aht
def Sa{x:aW}{s:hR}{n:O}(a1:gD x=[])(b:eC n x)(h:ir (sx s) x=J):(∀B∈hB x,jq B=J)/\hB x≠[]/\hB x∉pR/\mC s n (hB x)=Y x:=by
 cases x with
 |num l k=>
  let(f,g,e):=zv k (eH h);subst b;show(λB i=>?_,g,λd=>?_,?_);.delta jq;rw[jS.1 e B i,ayH]
  .show bB e<|(⋯:∀x∈RESERVED,¬x.all isDigit=true) _ d
  .delta mC;rw[show kg (hB<|jK l k)=Y k from f]
 |var l x=>
  subst b;let(ab,ag):=(fV _ _).mp h;let(j,m,p,o):=uk ab;show(R' m,j,o,?_);delta mC;rw[show kg (hB<|gK l x)=M from Ug ab];show bK (ab,?_);let q||q:=du.1 (qf.1 ag);.right;let(z,hz,rfl):=bx.1 q;delta hK;rw[zK,List.find?_isSome];show(z,hz,vR _)
  .show aQ (dj.1 q)
 |_=>cases a1
def atx{x s n}(h:eC n x)(a1:ir (sx s) x=J){r}(a2:hi r):ec (hB x++r)∉pR:=by
 let (l,k,rfl)||(l,y,rfl)||(f,l,bb,ab,rfl,_,_):=RS x;.let(b,e,g,i):=Sa aa h a1;rwa [y_ b a2]
 .let(b,e,g,i):=Sa aa h a1;rwa [y_ b a2]
 .rw[GA ab];change ec (40::_)∉_;delta ec;rw[Kh ⋯];decide
def adF{w}(d:w∉pR):w≠eu "fun" /\w≠eu "let" /\vp w=M:=by
 let n:∀s,eu s>pR->w≠eu s:=λs aw z=>d<|z▸aw;show(n _ ⋯,n _ ⋯,?_);delta vp;rw[be<|n _ ⋯,be<|n _ ⋯,be<|n _ ⋯,be<|n _ ⋯,be<|n _ ⋯,be<|n _ ⋯,be<|n _ ⋯,be<|n _ ⋯]
theorem adG{x:lb}(d:qT x=J/\x≠oP){r:dy}(b:hi r):oA (32::(x++r))=Y (aZ x r):=by
 change(if qT (ec<|x++r)=J/\ec (x++r)≠oP then Y (aZ (ec<|x++r)<|(x++r).drop ↑(ec<|x++r))else M)=_;rw[(y_ (R' (uk d.1).2.1) b),bK d,GG]
theorem aty{f:cD}(h:f.b6){r:dy}(b:(f=.S/\ec r∉pR)∨(f≠.S/\hi r)):oB (f.a4++r)=Y (f,r):=by
 let i:∀s,((eu s).all oH)=J->∀B∈eu s,jq B=J:=λs d=>R'<|jS.1 d;let fc:∀(s:oT)(x:lb),((eu s).all oH)=J->ec ((eu s++32::x)++r)=eu s/\((eu s++32::x)++r).drop ↑(eu s)=32::(x++r):=λs x d=>by
  rw[fi];show(y_ (i s d) .K,GG)
 let g:∀(s:oT),hi r->((eu s).all oH)=J->ec ((eu s++[])++r)=eu s/\((eu s++[])++r).drop ↑(eu s)=r:=λs j d=>by
  rw[e'];show(y_ (i s d) j,GG)
 let e:∀{C w q:dy}{f:cD},ec C=w->C.drop ↑w=q->tV w q C=Y (f,r)->oB C=Y (f,r):=λab ag l=>by
  delta oB;rwa [ab,ag]
 cases f with
 |S=>
  let(a,B,c):=adF (b.resolve_right λz=>z.1 aa).2;change tV (ec r) _ r=_;delta tV;rw[be a,be B,c]
 |a0 x=>
  let(a,B):=fc "fun" x ⋯;show e a B ?_;delta tV;rw[bK aa,adG (h x aa) (b.resolve_left λz=>nomatch z.1).2];rfl
 |a3 x=>
  let(a,B):=fc "let" x ⋯;show e a B ?_;delta tV;rw[be ⋯,bK aa,adG (h x aa) (b.resolve_left λz=>nomatch z.1).2];rfl
 |a7=>let(a,B):=g "if" (b.resolve_left λz=>nomatch z.1).2 ⋯;show e a B aa
 |a8=>let(a,B):=g "pair" (b.resolve_left λz=>nomatch z.1).2 ⋯;show e a B aa
 |a9=>let(a,B):=g "fst" (b.resolve_left λz=>nomatch z.1).2 ⋯;show e a B aa
 |b0=>let(a,B):=g "snd" (b.resolve_left λz=>nomatch z.1).2 ⋯;show e a B aa
 |b1=>let(a,B):=g "new" (b.resolve_left λz=>nomatch z.1).2 ⋯;show e a B aa
 |b2=>let(a,B):=g "get" (b.resolve_left λz=>nomatch z.1).2 ⋯;show e a B aa
 |b3=>let(a,B):=g "set" (b.resolve_left λz=>nomatch z.1).2 ⋯;show e a B aa
 |b4=>let(a,B):=g "add" (b.resolve_left λz=>nomatch z.1).2 ⋯;show e a B aa
theorem Sb(f:cD):∀bb i{s},(f=.S->0<i)->hi (jD f i bb++41::s)
 |[],_,_,_=>.R
 |ae::r,i,s,d=>by
  change hi<|(f.a1 i++(hB ae++jD f (i+1) r))++41::s;let e||e:=wG f i
  .delta cD.a1 at e;split at e;.simp_all
   .cases e
  .rw[e];show .K
set_option tactic.hygienic true in
theorem adH:∀(n:O)(e:aW)(ah:#[eQ])(r:dy),cU e<=n->GC ah e->hi r->∃q,h_ ah (hB e++r)=Y q/\kr q (kb ah e,r)
 |0,e,_,_,v,_,_=>bB (HT e)<|np.2 v
 |n+1,e,ah,r,v,o,a5=>by
  let a0:¬(↑(cj ah)=30∨8<↑ah):=by have:=o.X;have:=HT e;have:=o.S;omega
  let a1:gD e=[]->∃q,h_ ah (hB e++r)=Y q/\kr q (kb ah e,r):=λa6=>by
   let(A,a7,b7,a8):=Sa a6 o.K o.R;show(_,?_,.K _);delta h_;rw[be a0];split
   .rename_i b8 q
    cases m:hB e with
    |nil=>show bB m a7
    |cons B w=>
     rw[m]at q A;cases q;show bB (A 40 ig) ⋯
   .rw[y_ A a5,a8,GG];rfl
  let (l,k,rfl)||(l,y,rfl)||(f,l,bb,ab,rfl,_,_):=RS e;.show a1 aa
  .show a1 aa
  let(a9,T):=(adw ab _).mp o.K;let(ga,U):=(RX ab _).mp o.R;let b0:∀ae∈bb,kw ae+(↑ah+1)<=8:=by
   let p:=att ab (l:=l);have:=o.S;let d:=(adx ab (l:=l)<|7 - ↑ah).mp (by omega);show λae h=>by have:=d ae h;omega
  let b1:=o.X;rw[RW ab]at b1 v;subst a9
  let b2:∀(g b:#[aW]),bb=b++g->kr (.K<|(↑(cj ah),f,b)::ah,jD f ↑b g++41::r) (kb ah<|f.mk ↑(cj ah) bb,r):=by
   intro g
   induction g with
   |nil=>
    intro b h;rw[e']at h;subst h;show .step ?_<|.K _;delta mc;rw[bK ab];rfl
   |cons ae g j=>
    intro b h;let b9:↑bb=↑b+(↑g+1):=by rw[h,cW,hs]
    let aw:kX bb=kX b+(cU ae+kX g):=by rw[h];delta kX;rw[cs,List.sum_append];rfl
    let b3:=by
     have:bb=(b++[ae])++g:=by rw[h,fi];rfl
     let V:∀(a B:#[aW])(n:O),qC n (a++B)->qC n a:=by
      intro a
      induction a with|nil=>show λ_ _ _=>lG|cons x a j=>show λB n d=>(d.1,j B _ d.2)
     rw[this]at T;show((RZ ae b _).mp<|V _ _ _ T).2
    let b4:=by
     have:bb=(b++[ae])++g:=by rw[h,fi];rfl
     let V:∀(a B:#[aW])(i:O),qD f ↑(cj ah) (cB ah) i (a++B)->qD f ↑(cj ah) (cB ah) i a:=by
      intro a
      induction a with|nil=>show λ_ _ _=>lG|cons x a j=>show λB n d=>(d.1,j B _ d.2)
     rw[this]at U;have:=((R_ f _ _ ae b 0).mp<|V _ _ _ U).2;rw[od]at this;show this
    let a2:↑(cj<|(↑(cj ah),f,b)::ah)=↑(cj ah)+1+kX b:=vo _ _;let b5:GC ((↑(cj ah),f,b)::ah) ae:=(by rw[a2];show b3,b4,b0 ae<|by rw[h];show cG _ ig,by rw[a2];omega);let(q,a3,b6):=adH n ae ((↑(cj ah),f,b)::ah) (jD f (↑b+1) g++41::r) (by omega) b5 (Sb f g _ λ_=>ahm _);let a4:=j (b++[ae]) (by rw[h,fi];rfl);rw[cW]at a4;show .step ?_<|b6.R a4;delta mc;rw[be<|show ↑b≠f.K by omega];change(match f.a1 ↑b with|[]=>_|_=>_)=_;let m:jD f ↑b (ae::g)++41::r=f.a1 ↑b++(hB ae++(jD f (↑b+1) g++41::r)):=by
     change(f.a1 ↑b++(hB ae++jD f (↑b+1) g))++41::r=_;rw[fi,fi]
    rw[m];let e||e:=wG f ↑b;.rw[e];show a3
    .rw[e];show a3
  show((.K ((↑(cj ah),f,[])::ah),jD f 0 bb++41::r),?_,b2 bb [] aa);rw[GA ab];change h_ ah (40::((f.a4++(jD f 0 bb++[41]))++r))=_;delta h_;rw[be a0];change(oB ((f.a4++(jD f 0 bb++[41]))++r)).map _=_;rw[fi,fi,List.singleton_append,aty ga];.rfl
  .cases f with
   |S=>
    left;let(a,B,rfl):=qq ab;show(aa,?_);change ec ((hB a++(jD .S 1 [B]))++41::r)∉_;rw[fi];show atx T.1 U.1 (Sb .S [B] 1 λ_=>ahm _)
   |_=>show bl ((nomatch ·),Sb _ bb 0 (nomatch ·))
def atz{p}(d:kr q p):wF q.1->wF p.1/\BD p.1++p.2=BD q.1++q.2:=by
 induction d with
 |K _=>show λd=>(d,aa)
 |@step g ah r q p d t b=>
  intro v;let(z,e):=q;let(a,B):=adD v d;let(c,ae):=b a;show(c,ae.trans B)
def GH{t}:nj t=Y e↔∃q,h_ [] t=Y q/\kr q (.R e,[]):=by
 rw[HZ,Cx];constructor;.rintro⟨⟨ab,ag,f,b⟩,rfl⟩;have:=adH _ e [] [] dw (ag,ab,b,by change 0+cU e<=30;lia)<|aQ aa;rw[e']at this;show this
 .rintro⟨⟨z,r⟩,ab,ag⟩;let(a,B):=GD (ah:=[]) ⟨⟩ (λ_ d=>(by cases d)) ab;let(c,ae):=atz ag a;show((c.R,c.K,by have:=c.X;rw[show↑(cj [])=0 from aa]at this;show Nat.add_le_add_iff_left.1 this,c.S),?_);let ae:=ae.trans B;show(e' _).symm.trans ae
noncomputable def et(t:dy):E:=⟨(t.map vF).toArray⟩
theorem Sc:∀{a B:dy},a.map vF=B.map vF->a=B
 |[],[],_=>rfl
 |[],_::_,d=>(by cases d)
 |_::_,[],d=>(by cases d)
 |x::a,y::B,d=>by
  let(ab,ag):=ahu d;rw[UInt8.toNat_inj.1 ab,Sc ag]
def wH{a B}(d:et a=et B):a=B:=Sc<|by
 let d:(a.map vF).toArray=(B.map vF).toArray:=dP Ub d;simpa using d
theorem kc(t:dy):(et t).length=↑t:=by
 change((t.map vF).toArray).size=_;grind
def atA{f:cD}(d:f≠.S):jv f.X wn=Y (.R f.K):=by
 cases f with|S=>show bB aa d|_=>rfl
theorem adK{k}:∀{aj:#[E×V]},(jv k aj).isSome=J↔k>aj.map ek
 |[]=>((λd=>(by cases d)),λd=>(by cases d))
 |(x,ae)::aj=>by
  change(if bp (k=x)=J then Y ae else jv k aj).isSome=J↔_;rw[fg,cc,<- adK];by_cases d:k=x;.simp_all
  simp_all
theorem adP(w:dy):(jv (et w) wn).isSome=pR.contains w:=by
 rw[oa,adK,qf];let e:wn.map ek=pR.map et:=by rfl'
 rw[e,bx];show((by rintro⟨x,b,d⟩;show wH d▸b),λd=>(w,d,aa))
def GK[DecidablePred q](d:∀n:O,n<256->q (HQ n))(B:nP):q B:=by
 have:=d B.toNat B.toNat_lt;simp_all
def Sd(B:nP):(jq B=J->Unicode.isDigit B.toNat=rA B/\Unicode.isAlpha B.toNat=oH B)/\((jq B=J∨B=40∨B=41∨B=32)->ayK B.toNat=jq B):=by
 revert B;show GK ?_;decide+kernel
theorem adQ{p}:∀{w},(∀B∈w,p B.toNat=q B)->(et w).cps.all p=w.all q:=by
 intro w d;delta et;rw[<- Array.all_toList,zQ,Hs]
 induction w with|nil=>rfl|cons a r b=>rw[uo,uo,b λB e=>d B<|eo _ e,<- d a<|cp _];rfl
theorem adR{w}(d:∀B∈w,jq B=J):agv (et w)=(!w.isEmpty&&w.all rA):=by
 delta agv;rw[adQ λB b=>((Sd B).1<|d B b).1,kc];cases w<;>rfl
theorem adS{w}(d:∀B∈w,jq B=J):agw (et w)=(!w.isEmpty&&w.all oH):=by
 delta agw;rw[adQ λB b=>((Sd B).1<|d B b).2,kc];cases w<;>rfl
theorem atB(a:nP):(kg [a]).isSome=rA a:=by
 revert a;show GK ?_;decide+kernel
theorem atC(a B:nP):(kg [a,B]).isSome=(rA a&&rA B&&bp (a≠48)):=by
 cases b:rA a with
 |false=>
  delta kg;rw[be λd=>by have:=jS.1 d.2.1 a<|cp _;rw[b]at this;cases this];rfl
 |true=>
  cases e:rA B with
  |false=>
   delta kg;rw[be λd=>by have:=jS.1 d.2.1 B<|eo _<|cp _;rw[e]at this;cases this];rfl
  |true=>
   let f:∀B:nP,rA B=J->B>([48,49,50,51,52,53,54,55,56,57]:#[nP]):=GK (by rfl');let all:∀a∈([48,49,50,51,52,53,54,55,56,57]:#[nP]),∀B∈([48,49,50,51,52,53,54,55,56,57]:#[nP]),(kg [a,B]).isSome=bp (a≠48):=by rfl'
   rw[all a (f a b) B<|f B e];rfl
theorem atD{w}(d:2<↑w):kg w=M:=be λz=>bB z.1<|Nat.not_le.2 d
inductive adT:cq|mk{b}{w:dy}{h a1}:(∀B∈w,jq B=J)->↑w<=100000->h (.X (kg w).isSome) b->adT [.S<|et w] b h a1
inductive adU:cq|mk{b}{w:dy}{h a1}:(∀B∈w,jq B=J)->↑w<=100000->h (.X<|qT w) b->adU [.S<|et w] b h a1
inductive adV:cq|mk{H:ap}{f:cD}{Q:ca}{au:fQ}:Q (.R f.K) H->adV [.S f.X] H Q au
def atF[ci]:cX bH 1 "is_number" ["word"] adT:=by
 show aFc.K ["word"] λz H vs Q au i d aD=>?_
 induction d with
 |@mk H w _ _ e g q=>
  show(_,a_<|cy<|ain (tj ql (ao 0) gR aa)<|Di<|Aj (PC PySem.F.slot_str_isdigit PySem.F.type_str_isdigit akS<|ao 0)<|Aj (tj ti (mW ym aa aAV aa<|ak (ao 0) aF) cm aa)<|Di<|tj Vi (fW VU (ao 0) cm<|λ_ _=>rfl) gR aa,(aa,_,aa,dH (λb=>?_) λb=>((_,aa),_,aa,aa,⟨⟩,_,aa,dH (λab=>(_,aa,by rw[kc];show j' g,_,_,aa,aa,_,aa,dH (λag=>?_) λag=>?_)) λab=>?_)));.have:w=[48]:=wH<|V.S.inj<|eH b;rw[this]at q;show q
  .rw[adR e,fV]at ab;rw[kc]at ag;let h:¬w=[48]:=λz=>hj b (by rw[z];rfl);let _||(a,_||(B,_||(c,w))):=w;.show bB ab.1 ⋯
   .show(_,0,a.toNat,aa,aa,j'<|show 1<=100000 by decide,aa,aa,?_);rw[atB,(‹ab.2›:isDigit a=true)]at q;have:bp (V.S ⟨[a.toNat].toArray⟩=V.S "0")=aX:=iv λz=>h<|wH<|V.S.inj z;rwa [this]
   .show(_,0,a.toNat,aa,aa,j'<|show 2<=100000 by decide,aa,aa,?_);let f:=‹ab.2›
    rw[atC,f.1,f.2,rV,rV]at q;have:(!bp (V.S ⟨[a.toNat].toArray⟩=V.S "0"))=bp (a≠48):=by
     rw[decide_not];congr 1;rw[nr];show(λz=>by have:=wH (a:=[a]) (B:=[48])<|V.S.inj z;show(ahu this).1,λz=>by rw[z];rfl)
    rwa [this]
   .show bB ag<|by simp;show Int.compare_eq_gt.1 aa
  .let ag:=hj ag;rw[kc]at ag;rw[atD<|by lia]at q;show q
  .rw[adR e]at ab
   have:kg w=M:=be λz=>by
    cases w with|nil=>show bB z.2.2 ⋯|cons a r=>rw[z.2.1]at ab;cases ab
   rw[this]at q;show q
def adW[ci]:cX bH 1 "is_name" ["word"] adU:=by
 show aFd.K ["word"] λz H vs Q au j d aD=>?_;let(e,f,g):=HL.K
 induction d with
 |@mk H w _ _ b h q=>
  show(_,a_<|cy<|Aj (PC PySem.F.slot_str_isalpha PySem.F.type_str_isalpha akT<|ao 0)<|Aj (tj ti (mW ym aa aAV aa<|ak (ao 0) aF) (cH aBB) aa)<|Di<|Kt<|alo (ao 0)<|tv f,?_);delta qT at q;show((_,aa),_,aa,aa,⟨⟩,_,aa,dH (λab=>(_,aa,by rw[kc];show j' h,_,_,aa,aa,_,aa,dH (λag=>(e,wn,_,aa,aa,g,?_)) λag=>?_)) λab=>?_);.rw[adS b,fV]at ab;rw[kc]at ag;rw[ab.1,ab.2,rV,show bp (↑w<=LONG)=J from hp (show ↑w<=4 by lia),rV,rV]at q;rwa [adP]
  .rw[kc]at ag;rw[show bp (↑w<=LONG)=aX from iv (show¬↑w<=4 by lia),xC,xx]at q;show q
  .rw[adS b]at ab
   have:(!w.isEmpty&&(bp (↑w<=LONG)&&(w.all oH&&!pR.contains w)))=aX:=by
    cases i:(!w.isEmpty)with|false=>rfl|true=>rw[i,rV]at ab;rw[ab,xC,xx];rfl
   rw[this]at q;show q
def atG[ci]:cX bH 1 "count_parts" ["kind"] adV:=by
 show aFe.K ["kind"] λz H vs Q au i d aD=>?_;let(e,g,h):=HL.K
 induction d with
 |@mk H f _ _ q=>
  show(_,ba (dF (nw ql (ao 0) gR aa) (a_<|cy cm) d_)<|a_<|cy<|AD (tv g) (ao 0)<|λ_ _=>rfl,(aa,_,aa,dH (λb=>?_) λb=>(e,_,_,_,aa,aa,h,atA λz=>?_,q)))
  .let b:=V.S.inj<|eH b
   have:f=.S:=by
    cases f with|S=>rfl|a0 x=>show bB b<|show("fun":E)≠"call" by decide|a3 x=>show bB b<|show("let":E)≠"call" by decide|_=>show bB b ⋯
   rw[this]at q;show q
  .rw[z]at b;show hj b aa
noncomputable def md(B:nP):dq:=jq B||B==40||B==41||B==32
theorem atH(B:nP):bp (B.toNat>yy.cps.toList)=md B:=by
 revert B;show GK ?_;decide+kernel
theorem Se:yy.cps.size=39:=by rfl'
def atK{x z}(d:∃t,aAy x=Y (nk z t))(b:autoParam (jV C x) r_5)(h:autoParam ((x==("__debug__":E))=aX) r_1):bn C (ge x bj)<|gA<|.S z:=by
 let(t,d):=d;show Kp b d (t,aa) h
def atP{x g aj}(Pv:O->ck->ap->Prop)(h:Pv 0 D H)
 (aw:∀i c D H,x.cps[i]? =Y c->Pv i D H->g (.S ⟨[c].toArray⟩) D H (cd<|aj.X<|Pv<|i+1))(a1:∀D H,Pv x.cps.size D H->aj.K D H):
  yb (Pu x) g cd aj D H:=by
 show(λi m D H=>m=x.cps.size - i/\i<=x.cps.size/\Pv i D H,(_,aa,ex _,h),?_);rintro i m D H ⟨rfl,aR,p⟩;by_cases b:i<x.cps.size;.show bl (b,Pv<|i+1,λaU af e=>(_,um x.cps.size i b,aa,b,e),λz af y=>?_);let(rfl,c,f,rfl):=y;show aw i c D _ f p
 .obtain rfl:i=x.cps.size:=by lia
  show aQ (dw,a1 D H p)
inductive adX:cq|mk{b h}{t:dy}{a1 a2}:b h=Y (.K<|t.map λB=>V.R (B.toNat:Nat))->↑t<=2000->(t.all md=J->∀af,bA b af->a1 (.S<|et t) af)->(t.all md=aX->∀af,bA b af->a2 (I cN) M af)->adX [.K h] b a1 a2
theorem atQ(t:dy):Txt.join "" (t.map λB=>⟨[B.toNat].toArray⟩)=et t:=by
 let b:∀(l:dy)(cK:gv O),(l.map λB=>(⟨[B.toNat].toArray⟩:E)).foldl (λcK p=>cK++(Ub "")++p.cps) cK=cK++(l.map vF).toArray:=by
  intro l
  induction l with
  |nil=>intro cK;simp
  |cons x l e=>
   intro cK;rw[fg,List.foldl_cons,e,show(Ub "")= #[]from aa];simp
 cases t with
 |nil=>rfl
 |cons x l=>
  change Str.mk ((l.map λB=>(⟨[B.toNat].toArray⟩:E)).foldl (λcK p=>cK++(Ub "")++p.cps) [x.toNat].toArray)=_;rw[b];delta et;simp
def atR(H:ap)(a ae:L)(i:O)(D:ck)(af:ap):Prop:=(∃b,D=[Y<|.K a,Y<|.K ae,b,M,M])/\bA H af/\∃aP:#[N×V],af ae=Y (hX.K aP)/\↑aP<=i/\∀z:O,fq aP (z:N)=if z>yy.cps.toList.take i then Y (.S ⟨[z].toArray⟩)else M
def atU(a:L)(t:dy)(ae:L)(af:ap)(b:bs V)(r:L)(i:O)(D:ck)(aH:ap):Prop:=(∃b e,D=[Y<|.K a,Y<|.K ae,b,Y<|.K r,e])/\bA af aH/\aH r=Y (.K<|(t.take i).map λB=>V.S ⟨[B.toNat].toArray⟩)/\(t.take i).all md=J
def atV[ci]:cX (fr aAw aAx) 1 "spell" ["text"] adX:=by
 show aFb.S ["text","known","sign","signs","byte"] λz H vs Q au a4 d aD=>?_
 induction d with
 |@mk H a t _ _ A b2 a5 a6=>
  let m:=lw a4;show(_,ba (ey 1 aD yr)<|ba (jA xR aa (akF<|atK aBG) (fB (i:=2) aD aa<|aQ aa)<|a_<|sh m (ao 1) (mW Vm aa O_ aa<|ak (ao 2) aF) (ao 2) aa)
  <|ba (ey 3 aD<|eP aF)<|ba (jA xR aa (jz<|ao 0) (fB (i:=4) aD aa<|aQ aa)<|ba (dF (lS<|AA m (ao 4)<|ao 1) (a_<|tq to aa aa jL.1 jL.2) d_)<|a_<|cw<|ox (ao 3)<|yq m (ao 1) (ao 4)<|λ_ _=>rfl)
  <|a_<|cy<|akX gR<|ao 3,λae T=>(yy,aa,?_));show atP (atR H a ae) ((_,aa),cf T,[],bG,kD _,λz=>rfl) (λi c D af U d=>?_)<|λD af d=>?_
  .exists a7;let((a0,rfl),b,aP,aB,p,ab):=d;let aR:i<39:=by rw[<- Se];show(awX.1 U).1
   show a7 (⟨[c].toArray⟩,aa,aa,ae,_,aa,hX.a0 (k:=(c:N)) (v:=.S ⟨[c].toArray⟩) aB aa<|nd<|by omega,(_,aa),λB o e=>?_,_,bG,?_,λz=>?_);.rw[bS<|fj e T];show b _ _ e
   .show db (yp _ _ _)<|Nat.add_le_add_right p 1
   .rw[Pq,hF,show yy.cps.toList[i]? =Y c by rw[zH];show U,ab];by_cases q:z=c;.rw[bK<|by rw[q],bK<|by rw[q];show cG _ ig,q]
    .rw[be<|Nat.ToInt.of_diseq aa aa q];congr 1;rw[du];simp[q]
  .exists a8;let((a0,rfl),b,aP,aB,p,ab):=d;rw[Se]at p ab;let ab:∀B:nP,fq aP ((B.toNat:O):N)=if md B=J then Y (.S ⟨[B.toNat].toArray⟩)else M:=λB=>by
    rw[ab,xA<|by rw[sS,Se];show kD _,<- atH];simp only[ze]
   show a8 (kT,λr a1=>?_);let a2:=cf (o:=.K []) a1;show(a,aa,(_,bZ<|a2 _ _<|b _ _ A),nv (xs:=t.map λB=>V.R (B.toNat:Nat)) (atU a t ae af a0 r) ((_,_,aa),a2,bG,aa) (λi D aH _ d=>bZ<|d.2.1 _ _<|b _ _ A) (λi x D aH a3 d=>?_)<|λD aH d=>?_)
   .let((a9,b0,rfl),f,h,j):=d;rw[cV]at a3;let(B,w,rfl):=e_.1 a3;let g:=hX.S (f _ _ aB) (y:=.R (B.toNat:O)) (k:=((B.toNat:O):N)) aa;rw[ab]at g
    cases q:md B with
    |false=>
     rw[q]at g;show(ae,M,aa,g,_,aa,lx<|a6 ?_ aH<|b.K f);rw[List.all_eq_false];show(B,gs w,by rw[q];show gh)
    |true=>
     rw[q]at g;show(ae,_,aa,g,_,aa,rk (_,h,ae,_,aa,g,_,h,?_,(_,_,aa),λc o e=>?_,?_,?_));.rw[aV,iQ];show nd<|by omega
     .rw[bS<|fj e a1];show f _ _ e
     .rw[bG,hF,w,cs];rfl
     .rw[hF,w,List.all_append,j];change(J&&(md B&&J))=J;rw[q];rfl
   .let((a9,b0,rfl),f,h,j):=d;rw[aV,jQ]at h j;show((_,aa),_,r,t.map λB=>⟨[B.toNat].toArray⟩,aa,aa,aQ<|bZ<|by rw[dX];show h,?_,?_)
    .have:((t.map λB=>(⟨[B.toNat].toArray⟩:E)).map (·.length)).sum=↑t:=by
      rw[dX]
      have:∀l:dy,(l.map ((·.length)∘λB=>(⟨[B.toNat].toArray⟩:E))).sum=↑l:=by
       intro l
       induction l with|nil=>rfl|cons x l b1=>rw[fg,SP,b1,hs,Tz];rfl
      show this t
     rw[this];change _+_*0<=_;omega
    .rw[atQ];show a5 j aH<|b.K f
structure ru where
 K:L
 a6:L
 R:L
 a7:L
 a1:L
 S:L
 X:L
 a2:L
 a3:L
 a4:L
 a5:L
 a0:L
structure oC where
 K:O
 R:#[fx]
 X:#[O×#[O]]
 S:#[O]
 a0:#[L]
 os:#[L]
noncomputable def vq:bs lb->V|M=>.a0|Y x=>.S<|et x
noncomputable def qF(o:bs O):V:=mx<|o.map λn:O=>(n:N)
noncomputable def fl(l:#[O]):#[V]:=l.map λn:O=>V.R (n:O)
noncomputable def Sf(A:ru)(t:dy)(i:O):bF:=.S aAz A.a6 [("signs",.S<|et t),("place",.R i),("program",.K A.R),("names",.K A.a1),("around",.K A.S)]
noncomputable def atW(A:ru):bF:=.S aAC A.a7<|Fv (.K A.X) (.K A.a2) (.K A.a3) (.K A.a4) (.K A.a5)<|.K A.a0
noncomputable def me(ct:#[O×#[O]])(os:#[L]):#[N×V]:=(ct.zip os).map λq=>((q.1.1:Int),V.K q.2)
noncomputable def qG(A:ru)(t:dy)(ai:oC):#[L×bF]:=
 [(A.K,Sf A t ai.K),(A.a1,.K<|ai.R.map λr=>vq r.S),(A.S,.K<|fl ai.S),(A.R,atW A),(A.X,.K<|ai.R.map λr=>V.S r.K),(A.a2,.K<|ai.a0.map V.K),(A.a3,.K<|ai.R.map λr=>qF r.X),(A.a4,.K<|ai.R.map λr=>qF r.a0),(A.a5,.K<|ai.R.map λr=>qF r.a1),(A.a0,hX.K<|me ai.X ai.os)]
noncomputable def qH(ax:#[fx])(ay:#[L]):#[L×bF]:=(ax.zip ay).map λq=>(q.2,bF.K<|fl q.1.R)
noncomputable def t_(ct:#[O×#[O]])(os:#[L]):#[L×bF]:=(ct.zip os).map λq=>(q.2,bF.K<|fl q.1.2)
structure eU(t:dy)(an H:ap)(A:ru)(ai:oC):Prop where
 K:df an H<|qG A t ai++(qH ai.R ai.a0++t_ ai.X ai.os)
 R:↑ai.a0=↑ai.R
 X:↑ai.os=↑ai.X
 a0:ai.K<=↑t
 S:↑t<=2000
 a1:t.all md=J
theorem atX{t w i}(aR:i<=↑t):Ts (et t) (et w) (i:O)=w.isPrefixOf (t.drop i):=by
 let b:Ts (et t) (et w) (i:O)=(bp (i+↑w<=↑t)&&(((t.drop i).take ↑w).map vF==w.map vF)):=by
  delta Ts;rw[show ayP (et t).length (i:O)=i by delta ayP;rw[be<|Int.not_ofNat_neg i];show Nat.add_zero i,aAr,kc,kc];delta et;rw[tb,ahi]
 rw[b,oa,fV,rR,rQ,Db,List.prefix_iff_eq_take];constructor;.show λd=>(Sc d.2).symm
 grind
inductive adZ:cq|mk{t:dy}{w:dy}{a4 b h a1 a2 a3 a5}:eU t a4 b h a1->a2=et w->a3 (.X<|w.isPrefixOf<|t.drop a1.K) b->adZ [.K h.K,.S a2] b a3 a5
inductive Sg:cq|mk{t:dy}{w:dy}{h a2 a1 b a3 a4 a5}:eU t h a2 a1 b->a3=et w->(∀q af,t.drop b.K=w++q->eU t h af a1 {b with K:=b.K+↑w}->a4 .a0 af)->((∀q,t.drop b.K≠w++q)->∀af,bA h af->a5 (I cN) M af)->Sg [.K a1.K,.S a3] a2 a4 a5
inductive aea:cq|mk{t:dy}{a3 b h a1 a2 a4}:eU t a3 b h a1->a2 (.S<|et<|ec<|t.drop a1.K) b->aea [.K h.K] b a2 a4
inductive aeb:cq|mk{t:dy}{a1 a2 h b a3 a4}:eU t a1 a2 h b->(∀af,eU t a1 af h {b with K:=b.K+↑(ec<|t.drop b.K)}->a3 (.S<|et<|ec<|t.drop b.K) af)->aeb [.K h.K] a2 a3 a4
def atZ:fu ["self","sign"] ["self","sign"]<|dh<|hk 1:=∅
def aua:fu ["self","sign"] ["self","sign"]<|dh<|hk 2:=∅
def aec:fu ["self","end"] ["self"]<|dh<|hk 3:=∅
def aed:fu ["self","word"] ["self"]<|dh<|hk 4:=∅
theorem eU.a3{t A ai}(x:eU t an H A ai){j}(b:j<=↑t):eU t an (a' H A.K<|Sf A t j) A {ai with K:=j}:=(x.K.a0 0 aa<|Sf A t j,x.R,x.X,b,x.S,x.a1)
theorem eU.a2{t A ai}(x:eU t an H A ai):ai.K+↑(ec<|t.drop ai.K)<=↑t:=by
 let d:↑(ec<|t.drop ai.K)<=↑t - ai.K:=by
  rw[<- sV];show(ayG _).length_le
 have:=x.a0;show(Nat.le_sub_iff_add_le' this).mp d
theorem GP:∀r j,j<↑(ec r)->∃B,r[j]? =Y B/\jq B=J
 |[],j,d=>bB d<|ays _
 |B::r,j,d=>by
  delta ec at d;rw[ayQ]at d
  cases q:jq B with
  |false=>simp_all
  |true=>
   rw[q]at d
   cases j with|zero=>show(B,aa,q)|succ j=>show GP r j<|ayu d
theorem aee:∀r B,r[↑(ec r)]? =Y B->jq B=aX
 |[],B,d=>(by cases d)
 |c::r,B,d=>by
  delta ec at d;rw[ayQ]at d
  cases q:jq c with|false=>simp_all|true=>rw[q]at d;show aee r B d
def aef[ci]:eD bH 1 aAz "sees" ["self","sign"] adZ:=by
 show aCs.K aAT.K.K _ (ai:=atZ) λz H vs Q au e d _=>?_
 induction d with
 |@mk t w an H A ai f Q au x b q=>
  show(_,a_<|cy<|tk agx PySem.F.slot_str_startswith PySem.F.type_str_startswith amy (bV aAT.K<|ao 0)<|ak (ao 1)<|ak (bV aAT.X<|ao 0) aF,(.S<|et t,x.K.S 0,aa,.R ai.K,x.K.S 0,_,_,_,aa,aa,?_));rwa [b,atX x.a0]
def BF[ci]:eD (fr aAw aAx) 2 aAz "skip" ["self","sign"] Sg:=by
 show aCt.R aAT.K.K _ (ai:=aua) λz H vs Q au g d _=>?_
 induction d with
 |@mk t w an H A ai h Q au x f i j=>
  show(_,ba (dF (nt<|ik<|eX aef (ao 0) g bm<|ak (ao 1) aF) (a_<|tq to aa aa jL.1 jL.2) d_)<|a_<|Bh aAT.X (ao 0)<|mW ym aa aAV aa<|ak (ao 1) aF,(x.K.X 0,.mk x f<|dH (λb=>?_) λb=>?_));.show j (λq e=>?_) H x.K.K;rw[e,Db.2<|List.prefix_append _ _]at b;cases b
  .let b:w.isPrefixOf (t.drop ai.K)=J:=‹b›
   let(q,e):=Db.1 b;let l:ai.K+↑w<=↑t:=by
    have:=dP mR e;rw[cW,sV]at this;have:=x.a0;lia
   show(ai.K,x.K.S 0,h,aa,?_,A.a6,_,x.K.R 0 aa,(⋯:5<1000),?_);.rw[f,kc];have:=x.S;show j'<|by lia
   .rw[f,kc];show i q _ e.symm<|x.a3 l
def aeg[ci]:eD bH 1 aAz "peek_word" ["self"] aea:=by
 show aCu.K aAT.K.K _ (ai:=aec) λz H vs Q au a0 d _=>?_
 induction d with
 |@mk t an H A ai Q au x q=>
  let aD:=aec.K;show(_,ba (ey 1 aD<|bV aAT.X<|ao 0)<|ba (x_ jg (lr.K<|xZ (jm KH (ao 1)<|mW ym aa aAV aa<|ak (bV aAT.K<|ao 0) aF)<|xX<|ik<|PC PySem.F.slot_str_isalnum PySem.F.type_str_isalnum akU<|fW VU (bV aAT.K<|ao 0) (ao 1)<|λ_ _=>rfl)<|a_<|aix (i:=1) aD aa (aQ aa) cm KU)
  <|a_<|cy<|uH alc (bV aAT.K<|ao 0) (sd<|bV aAT.X<|ao 0)<|sd<|ao 1,?_);let g:∀j,(t.drop ai.K)[j]? =t[ai.K+j]? :=λj=>ayR;let v:=x.a2;show(.R ai.K,x.K.S 0,λm D af=>∃j:O,j<=↑(ec<|t.drop ai.K)/\m=↑t - j/\D=[Y<|.K A.K,Y<|.R (ai.K+j:O)]/\af=H,(_,0,ex _,aa,aa,aa),?_);rintro m D af ⟨j,h,rfl,rfl,rfl⟩
  let l:j=↑(ec<|t.drop ai.K)->r_ (VH WV (m' aAz "signs"<|fH 0) (KX<|m' aAz "place"<|fH 0)<|KX<|fH 1) (Ae Q) [Y<|.K A.K,Y<|.R (ai.K+j:O)] af:=λe=>by
   show(.S<|et t,x.K.S 0,.R ai.K,x.K.S 0,_,aa,_,aa,et t,aa,?_,?_);.rw[kc];show j'<|db x.S ⋯
   .have:AC (et t) (Y ((ai.K:O):N)) (Y ((ai.K+j:O):N))=et (ec<|t.drop ai.K):=by
     delta AC;rw[sc,sc,kc,zz x.a0,zz<|SV (dP (HAdd.hAdd ai.K) e) v,xK];delta et;rw[zQ,<- ahi,<- tb];congr 3;conv=>lhs;rw[<- sy<|t.drop ai.K,e,ahv]
    rw[this];show q
  show(.S<|et t,x.K.S 0,_,aa,by rw[kc];show j'<|db x.S ⋯,dH (λb=>?_) λb=>?_)
  .let b:=eH b;rw[kc]at b;let o:ai.K+j<↑t:=xP.1 b;let f:=gi o;show(.S<|et t,x.K.S 0,et t,_,(t[ai.K+j]).toNat,aa,aa,by rw[kc];show j'<|db x.S ⋯,lU ?_,(_,aa),_,aa,aa,lG,?_);.delta et;rw[zQ,cV,f];rfl
   .let w:Th ⟨[(t[ai.K+j]).toNat].toArray⟩=jq t[ai.K+j]:=by
     let aw:=jS.1 x.a1 _<|agW o;have:Th ⟨[(t[ai.K+j]).toNat].toArray⟩=ayK (t[ai.K+j]).toNat:=by
      delta Th;rw[show(⟨[(t[ai.K+j]).toNat].toArray⟩:E).length=1 from aa];simp
     rw[this];show(Sd _).2 ?_;unfold md at aw;simp at aw;rcases aw with((d|d)|d)|d;.show aQ d
     .show bl<|aQ d
     .show bl<|bl<|aQ d
     .show bl<|bl<|bl d
    rw[w];show dH (λab=>?_) λab=>l ?_
    .let T:=C' h λe=>by
      have:=aee (t.drop ai.K) t[ai.K+j] (by rw[<- e,g,f]);rw[this]at ab;cases ab
     show(λaU aH=>aU=[Y<|.K A.K,Y<|.R (ai.K+(j+1):O)]/\aH=af,λaU aH (aB,U)=>(_,?_,j+1,T,aa,aB,U),?_);.omega
     .show(_,aa,_,_,aa,aa,aa,aa)
    .show v_ h<|uq λag=>?_;let(B,p,V):=GP _ j ag;rw[g,f]at p;cases p;rw[V]at ab;cases ab
  .let b:=hj b;rw[kc]at b;show l<|by omega
def aeh[ci]:eD bH 2 aAz "take_word" ["self"] aeb:=by
 show aCv.K aAT.K.K _ (ai:=aed) λz H vs Q au b d _=>?_
 induction d with
 |@mk t an H A ai Q au x q=>
  show(_,ba (ey 1 aed.K<|fS aeg (ao 0) b bm)<|ba (Bh aAT.X (ao 0)<|mW ym aa aAV aa<|ak (ao 1) aF)<|a_<|cy<|ao 1,?_);have:=x.a2;have:=x.S;show(x.K.X 0,.mk x (ai.K,x.K.S 0,_,aa,?_,A.a6,_,x.K.R 0 aa,(⋯:5<1000),?_));.rw[kc];show j'<|by lia
  .rw[kc];show q _<|x.a3<|eU.a2 x
section
variable{aC aq ct:#[L×bF]}{q:L}{o:bF}
def df.b7(x:df an H<|aC++(aq++ct)){j}(d:aq[j]? =Y (a,o))(c':bF):df an (a' H a c')<|aC++(aq.set j (a,c')++ct):=by
 let b:=(ff.1 d).1;let y:=x.a0 (↑aC+j) (by rwa [pb<|nq _ _,xK,oc b]) c';simp_all
def df.b8(x:df an H<|aC++(aq++ct)){j}(d:ct[j]? =Y (a,o))(c':bF):df an (a' H a c')<|aC++(aq++ct.set j (a,c')):=by
 let y:=x.a0 (↑aC+(↑aq+j)) (by rwa [pb<|nq _ _,xK,pb<|nq _ _,xK]) c';simp_all
def df.b9(x:df an H<|aC++(aq++ct))(b:H q=M)(o:bF):df an (a' H q o)<|aC++((aq++[(q,o)])++ct):=by
 show(x.a3 b o).a5 ?_;rw[fi,<- fi aC aq,<- fi aC aq];show uv
def df.c0(x:df an H<|aC++(aq++ct))(b:H q=M)(o:bF):df an (a' H q o)<|aC++(aq++(ct++[(q,o)])):=by
 show(x.a3 b o).a5 ?_;rw[<- fi aq,<- fi aC];show ahw
end
theorem wK{eB:Type}{l:#[α]}{m:#[eB]}{i:O}{x:α}{y:eB}(d:l[i]? =Y x/\m[i]? =Y y):(l.zip m)[i]? =Y (x,y):=List.getElem?_zip_eq_some.2 d
theorem aei{κ:Type}{y:V}[i_ κ]{k}:∀{l:#[κ×V]},(l.map ek).Nodup->(k,y)>l->fq l k=Y y
 |[],_,d=>(by cases d)
 |(b,e)::l,aD,d=>by
  let(ab,ag):=f_.1 aD;let z||z:=cc.1 d;.simp_all [ms]
  .rw[mu λq=>ab<|by rw[q];show bx.2 (_,z,aa)];show aei ag z
def GQ{ax:#[fx]}{ay:#[L]}{j:O}{r:fx}(h:↑ay=↑ax)(d:ax[j]? =Y r):∃a,ay[j]? =Y a/\(qH ax ay)[j]? =Y (a,bF.K<|fl r.R):=by
 let e:=(ff.1 d).1;let b:=gi (l:=ay) (i:=j)<|n' e<|id<|eW h;show(_,b,?_);delta qH;rw[cV,wK (d,b)];rfl
theorem aub{ax:#[fx]}{ay:#[L]}{j l:O}{r:fx}(d:ax[j]? =Y r)(b:ay[j]? =Y a):(qH ax ay).set j (a,bF.K<|fl<|r.R++[l])=qH (pG j l ax) ay:=by
 show o_ λi=>?_;delta qH pG;rw[vV,cV,cV];by_cases e:j=i
 .subst e;have:j<↑(ax.zip ay):=by
   have:=(ff.1 d).1;have:=(ff.1 b).1;rw[rT];lia
  rw[bK aa,aV,bK this,wK (by rw[List.getElem?_modify_eq,d];rfl,b)];rfl
 .rw[be e];congr 1;rw[vX,vX,vZ,vZ,List.getElem?_modify_ne _ _ e]
def aej{ct:#[O×#[O]]}{os:#[L]}{j:O}{r:O×#[O]}(h:↑os=↑ct)(d:ct[j]? =Y r):∃a,os[j]? =Y a/\(t_ ct os)[j]? =Y (a,bF.K<|fl r.2)/\(me ct os)[j]? =Y ((r.1:N),V.K a):=by
 let e:=(ff.1 d).1;let b:=gi (l:=os) (i:=j)<|n' e<|id<|eW h;show(_,b,?_,?_);.delta t_;rw[cV,wK (d,b)];rfl
 .delta me;rw[cV,wK (d,b)];rfl
def auc{ct:#[O×#[O]]}{os:#[L]}{j:O}{r:O×#[O]}{l:#[O]}(d:ct[j]? =Y r)(b:os[j]? =Y a):(t_ ct os).set j (a,bF.K<|fl l)=t_ (ct.set j (r.1,l)) os/\me (ct.set j (r.1,l)) os=me ct os:=by
 let f:=(ff.1 d).1;let hz:j<↑(ct.zip os):=by
  have:=(ff.1 b).1;rw[rT];lia
 let aw:(ct.set j (r.1,l))[j]? =Y (r.1,l):=by rw[CA f]
 constructor
 .show o_ λi=>?_;delta t_;rw[vV,cV,cV];by_cases e:j=i;.subst e;rw[bK aa,aV,bK hz,wK (aw,b)];rfl
  .rw[be e];congr 1;rw[vX,vX,vZ,vZ,xt e]
 .show o_ λi=>?_;delta me;rw[cV,cV];by_cases e:j=i;.subst e;rw[wK (aw,b),wK (d,b)];rfl
  .congr 1;rw[vX,vX,vZ,vZ,xt e]
def aek{a xs g aj}(Pv:O->ck->ap->Prop)(h:Pv 0 D H)(a1:∀i D H,i<=↑xs->Pv i D H->fa aAv H a xs)
 (aw:∀i x D H,xs.reverse[i]? =Y x->Pv i D H->g x D H (cd<|aj.X<|Pv<|i+1))(a2:∀D H,Pv ↑xs D H->aj.K D H):
  yb (Pt aAv a ↑xs) g cd aj D H:=by
 show(λi m D H=>m=↑xs - i/\i<=↑xs/\Pv i D H,(_,aa,ex _,h),?_);rintro i m D H ⟨rfl,aR,p⟩;let q:=a1 i D H aR p;by_cases b:i<↑xs;.show bl ((b,xs,xs[↑xs - 1 - i],q,gi<|Nat.sub_one_sub_lt_of_lt b),Pv<|i+1,λaU af e=>(_,um ↑xs i b,aa,b,e),λz af y=>?_);let(rfl,y):=y;show aw i z D _ (by rw[List.getElem?_reverse b];show y xs q) p
 .obtain rfl:i=↑xs:=by lia
  show aQ (dw,a2 D H p)
def ael{p:O->dq}{l:#[O]}{i x:O}(d:l[i]? =Y x)(b:(l.take i).find? p=M):p x=J->l.find? p=Y x:=λf=>by
 let e:l=l.take i++x::l.drop (i+1):=by
  let(ab,rfl):=((ff.1 d));simp_all
 rw[e,ayS,b,ayT,List.find?_cons_of_pos f]
def Sh{p:O->dq}{l:#[O]}{i x:O}(d:l[i]? =Y x)(b:(l.take i).find? p=M)(h:p x=aX):(l.take<|i+1).find? p=M:=by
 rw[hF,d,ayS,b,ayT];simp_all
noncomputable def rv(bu:#[E])(dS:#[O]):bs O:=dS.reverse.find? λl=>bp<|bu[l]? =Y ("fun":E)
inductive aem:cq|mk{b h a1}{p:L}{a2}{dS:#[O]}{bu:#[E]}{a3 a4}:yP aAz b h "around" (.K a1)->yP aAz b h "program" (.K p)->yP aAC b p "kinds" (.K a2)->b a1=Y (.K<|fl dS)->b a2=Y (.K<|bu.map V.S)->(∀l∈dS,l<↑bu)->a3 (qF<|rv bu dS) b->aem [.K h] b a3 a4
inductive aen:cq|mk{t:dy}{an H:ap}{A:ru}{ai:oC}{l:O}{r:fx}{f:cD}{Q:ca}{au:fQ}:eU t an H A ai->ai.R[l]? =Y r->r.K=f.X->Q (.X<|bp<|↑r.R=f.K) H->aen [.K A.K,.R l] H Q au
inductive GR:cq|mk{t:dy}{h a2 a1 b a3 a4}:eU t h a2 a1 b->(∀x j af,oA (t.drop b.K)=Y (x,t.drop j)->b.K<j->eU t h af a1 {b with K:=j}->a3 (.S<|et x) af)->(oA (t.drop b.K)=M->∀af,bA h af->a4 (I cN) M af)->GR [.K a1.K] a2 a3 a4
inductive aeo:cq|mk{t:dy}{w:dy}{a4 h a1 b}{p:O->dq}{a2 a3}:eU t a4 h a1 b->(∀l∈b.S,∃r f,b.R[l]? =Y r/\r.K=cD.X f/\p l=(bp (r.S=Y w)&&bp (↑r.R=f.K)))->(∀l,b.S.reverse.find? p=Y l->a2 (.R (l:O)) h)->(b.S.reverse.find? p=M->a3 (I cN) M h)->aeo [.K a1.K,.S<|et w] h a2 a3
inductive aep:cq|mk{t:dy}{a4 a5 a1 b a6 a2 a3 h a7 a8}:eU t a4 a5 a1 b->b.X[a6]? =Y (a2,h)->(b.X.map ek).Nodup->↑h<=1000->(∀af,eU t a4 af a1 {b with X:=b.X.set a6 (a2,if a3>h then h else h++[a3])}->a7 .a0 af)->aep [.K a1.K,.R a2,.R a3] a5 a7 a8
def aeq:fu ["self","label"] ["self"]<|dh<|hk 5:=∅
def aer:fu ["self","word"] ["self"]<|dh<|hk 9:=∅
def aes:fu ["self","word","label"] ["self","word"]<|dh<|hk 12:=∅
def aet:fu ["self","fun","binder","needed"] ["self","fun","binder"]<|dh<|hk 13:=∅
def aeu:fu ["self","label","program"] ["self","label"]<|dh<|hk 14:=∅
theorem aev(l:#[O]):(fl l).reverse=fl l.reverse:=List.map_reverse.symm
def aud(H:ap)(r:L)(dS:#[O])(bu:#[E])(i:O)(D:ck)(af:ap):Prop:=(∃b,D=[Y<|.K r,b])/\af=H/\(dS.reverse.take i).find? (λl=>bp<|bu[l]? =Y ("fun":E))=M
def aue[ci]:eD bH 1 aAz "home" ["self"] aem:=by
 show aCw.K aAT.K.K _ (ai:=aeq) λz H vs Q au a0 d _=>?_
 induction d with
 |@mk H r a p k dS bu _ _ m o v j w A q=>
  show(_,ba (jA jg aa (WG aa aBd<|ak (bV aAT.S<|ao 0) aF) (fB (i:=1) aeq.K aa<|aQ aa)<|a_<|dF (nw ql (fT (bV (aAR.K,aAR.R)<|bV aAT.R<|ao 0)<|ao 1) gR aa) (a_<|cy<|ao 1) d_)<|a_<|cy uC,(.K a,m,a,_,aa,bZ j,aek (aud H r dS bu) ((_,aa),aa,aa) (λi D af _ d=>by rw[d.2.1];show bZ j) (λi x D af e d=>?_)<|λD af d=>?_))
  .let((T,rfl),rfl,b):=d;rw[aev]at e;delta fl at e;rw[cV]at e;let(l,f,rfl):=e_.1 e;let U:=A l<|Dc.1<|gs f;let g:=gi U;show(.K p,o,.K k,v,_,.S bu[l],bZ w,tU V.S g,aa,_,aa,dH (λh=>?_) λh=>((_,aa),aa,?_));.have:=ael f b (hp (by rw[g];show dP Y<|V.S.inj<|eH h));delta rv at q;rw[this]at q;show q
   .show Sh f b<|iv λz=>hj h ?_;rw[g]at z;rw[hq z]
  .let((T,rfl),rfl,b):=d;delta fl at b;rw[aV,<- xG,jQ]at b;delta rv at q;rw[b]at q;show q
def aew[ci]:eD bH 2 aAz "in_last_part" ["self","label"] aen:=by
 show aCG.K aAT.K.K _ (ai:=aeu) λz H vs Q au e d _=>?_
 induction d with
 |@mk t an H A ai l r f _ _ x b g q=>
  show(_,ba (ey 2 aeu.K<|bV aAT.R<|ao 0)<|a_<|cy<|tj mb (na aAV<|fT (bV (aAR.K,aAR.S)<|ao 2)<|ao 1) (dT atG e bm<|ak (fT (bV (aAR.K,aAR.R)<|ao 2)<|ao 1) aF) aa,?_);let(a,h,i):=GQ x.R b;show(.K A.R,x.K.S 0,.K A.a2,x.K.S 3,_,.K a,bZ<|x.K.R 5 aa,tU V.K h,_,bZ<|x.K.a1 (a,_)<|cG _<|dQ _<|gs i,.K A.X,x.K.S 3,_,.S r.K,bZ<|x.K.R 4 aa,tU (λr:fx=>V.S r.K) b,?_);rw[g];show .mk (_,_,aa,aa,?_);have:bp ((↑(fl r.R):N)=(f.K:O))=bp (↑r.R=f.K):=by
   delta fl;rw[aV,nr];show ahx
  rwa [this]
set_option tactic.hygienic true in
def auf[ci]:eD bH 1 aAz "need_outside" ["self","fun","binder"] aep:=by
 show aCF.K aAT.K.K _ (ai:=aet) λz H vs Q au o d _=>?_
 induction d with
 |@mk t an H A ai j k B l _ _ x f aD a1 q=>
  show(_,ba (ey 3 aet.K<|yq (lw o) (bV (aAR.K,aAR.a2)<|bV aAT.R<|ao 0) (ao 1)<|λ_ _=>rfl)<|a_<|dF (nw VX (ao 2) (ao 3) aa) (a_<|cw<|ox (ao 3)<|ao 2) d_,?_);let(a,p,m,v):=aej x.X f;let h:H a=Y (.K<|fl l):=x.K.a1 (a,_)<|cG _<|cG _<|gs m;let w:=by
   let T:(me ai.X ai.os).map ek=(ai.X.map ek).map λn:O=>(n:N):=by
    delta me;rw[dX,dX];show o_ λi=>?_;rw[cV,cV,vX,vZ];have:=x.X;let d||d:=HA i ↑ai.X;.rw[gi d,gi (by show n' d<|id<|eW this:i<ai.os.length)];rfl
    .rw[zU d];rfl
   show aei (by rw[T];show tc _ (λ_ _ d z=>d<|mo z) aD)<|gs v
  let g:=hX.S (x.K.R 9 aa) (k:=(k:N)) aa;rw[w]at g;show(.K A.R,x.K.S 0,.K A.a0,x.K.S 3,A.a0,.K a,aa,g,?_)
  let U:uK (V.R (B:O)) (fl l)=bp (B>l):=by
   delta fl uK;rw[agp,oa,agB,rR];constructor
   .rintro⟨z,hz,e⟩;let e:=e;have:z=B:=by have:=oV e;show ahx.1 this
    show this▸hz
   .show λd=>(B,d,by show vR _)
  show(a,_,aa,aQ<|bZ h,aa,?_,_,aa,?_);.delta fl;rw[Hs,jS];show λ_ _=>rfl
  .rw[U];show dH (λb=>?_) λb=>?_
   .let b:=‹b›
    rw[be b]at q;show(_,h,_,h,by delta fl;rw[aV];show nd<|by omega,?_);let y:=x.K.b8 m<|bF.K<|fl<|l++[B];let(aB,a0):=auc f p;rw[aB]at y;let z:=q _ (by unfold qG at y⊢;dsimp only;rw[a0];show y,x.R,by rw[Tc];show x.X,x.a0,x.S,x.a1);unfold fl at z;rw[cs]at z;show z
   .let b:=‹b›
    rw[bK b]at q;show q H ?_;have:ai.X.set j (k,l)=ai.X:=by
     show o_ λi=>?_;rw[vV];split;.rename_i e;subst e;rw[bK (ff.1 f).1,f]
     .rfl
    rw[this];show x
set_option tactic.hygienic true in
def aug[ci]:eD (fr aAw aAx) 3 aAz "read_binder" ["self"] GR:=by
 show aCA.R aAT.K.K _ (ai:=aer) λz H vs Q au f d _=>?_
 induction d with
 |@mk t an H A ai _ _ x v g=>
  show(_,ba (cw<|eX BF (ao 0) f g_<|ak gR aF)<|ba (ey 1 aer.K<|fS aeh (ao 0) f bm)<|ba (dF (lr.K<|Ai (nt<|ik<|dT adW f bm<|ak (ao 1) aF)<|Ah<|nw ql (ao 1) gR aa) (a_<|tq to aa aa jL.1 jL.2) d_)<|a_<|cy<|ao 1,(x.K.X 0,.mk (w:=[32]) x ⋯ (λq al l m=>?_) λT al U=>g ?_ al U))
  .let o:t.drop (ai.K+1)=q:=by
    have:=dP (HR 1) l;rw[rW]at this;show this
   let h:oA (t.drop ai.K)=if qT (ec q)=J/\ec q≠oP then Y (ec q,q.drop ↑(ec q))else M:=by rw[l];rfl
   show(m.K.X 0,.mk m λaH b=>?_);let b:eU t an aH A {ai with K:=ai.K+1+↑(ec<|t.drop<|ai.K+1)}:=b;change ls _ _ _ [Y<|.K A.K,Y<|.S<|et<|ec<|t.drop<|ai.K+1] _;rw[o]at b⊢;let a0:∀B∈ec q,jq B=J:=λB a1=>by
    let(j,p):=uu a1;let(a3,ab,ag):=GP q j (ff.1 p).1;have:q[j]? =Y B:=by
     rwa [<-(sy q),oc (ff.1 p).1]
    rw[this]at ab;cases ab;show ag
   let a2:↑(ec q)<=100000:=by have:=b.a0;have:=b.S;simp only at*;lia
   show .mk a0 a2<|dH (λe=>?_) λe=>(aa,_,aa,dH (λi=>?_) λi=>?_);.show g ?_ aH b.K.K;rw[h,be λz=>by rw[z.1]at e;cases e]
   .show g ?_ aH b.K.K;rw[h,be λz=>z.2<|wH<|V.S.inj<|eH i]
   .show v (ec q) (ai.K+1+↑(ec q)) aH ?_ (by lia) b;let ab:=‹e›
    let ag:ec q≠oP:=λz=>hj i (by rw[z];rfl);rw[h,bK (ab,ag),<- o,rW]
  .delta oA;split;.rename_i r q;show bB q<|T r
   .rfl
def auh(w:dy)(H:ap)(A:ru)(ai:oC)(p:O->dq)(i:O)(D:ck)(af:ap):Prop:=(∃b,D=[Y<|.K A.K,Y<|.S<|et w,b])/\af=H/\(ai.S.reverse.take i).find? p=M
def aui[ci]:eD (fr aAw aAx) 3 aAz "find_binder" ["self","word"] aeo:=by
 show aCD.R aAT.K.K _ (ai:=aes) λz H vs Q au v d _=>?_
 induction d with
 |@mk t w an H A ai p _ _ x T U a0=>
  show(_,ba (jA xR aa (WG aa aBd<|ak (bV aAT.S<|ao 0) aF) (fB (i:=2) aes.K aa<|aQ aa)<|a_<|dF (lr.K<|xZ (nw ql (fT (bV aAT.a0<|ao 0)<|ao 2) (ao 1) aa)<|xX<|ik<|eX aew (ao 0) v bm<|ak (ao 2) aF) (a_<|cy<|ao 2) d_)<|a_<|tq to aa aa jL.1 jL.2,?_);let o:=x.K.R 2 aa;show(.K A.S,x.K.S 0,A.S,_,aa,bZ o,aek (auh w H A ai p) ((_,aa),aa,aa) (λi D af _ d=>by rw[d.2.1];show bZ o) (λi y D af e d=>?_)<|λD af d=>?_)
  .exists a1;let((a2,rfl),rfl,b):=d;rw[aev]at e;delta fl at e;rw[cV]at e;let(l,g,rfl):=e_.1 e;let(r,f,q,a3,h):=T l (Dc.1<|gs g)
   let a4:bp (vq r.S=V.S (et w))=bp (r.S=Y w):=by
    rw[nr]
    cases r.S with|none=>show((nomatch ·),(nomatch ·))|some z=>show(λd=>dP Y<|wH<|V.S.inj d,λd=>by rw[hq d];rfl)
   let a5:An (vq r.S) (V.S<|et w)=J:=by cases r.S<;>rfl
   show a1 (.K A.a1,x.K.S 0,_,vq r.S,bZ<|x.K.R 1 aa,tU (λr:fx=>vq r.S) q,a5,_,aa,?_);rw[a4];show dH (λj=>(x.K.X 0,.mk x q a3<|dH (λm=>?_) λm=>((_,aa),aa,Sh g b ?_))) λj=>((_,aa),aa,Sh g b ?_);.show U l<|ael g b<|by rw[h,j,m];rfl
   .rw[h,m,xx]
   .rw[h,j,xC]
  .let((a2,rfl),rfl,b):=d;delta fl at b;rw[aV,<- xG,jQ]at b;show a0 b
theorem ix.K{st t}(d:ix C st t)(f:∀aj D H,cZ aj D H->t aj D H):ix C st cZ:=λam s D H aj b q=>d am s D H aj b<|f aj D H q
noncomputable def nC(dS:#[O])(l:O)(ax:#[fx]):#[fx]:=match dS.getLast? with|M=>ax|Y g=>pG g l ax
noncomputable def wP(ai:oC)(kd:E)(q:L):oC:={ai with R:=nC ai.S ↑ai.R ai.R++[(kd,[],M,M,rv (ai.R.map fx.K++[kd]) ai.S,M)],a0:=ai.a0++[q]}
def auj(dS:#[O])(l:O)(ax:#[fx]):↑(nC dS l ax)=↑ax:=by
 delta nC;split;.rfl
 .show ahr _ _ _
def auk(dS:#[O])(l:O)(ax:#[fx]):(nC dS l ax).map fx.K=ax.map fx.K:=by
 delta nC;split;.rfl
 .show o_ λi=>?_;delta pG;rw[cV,cV,ayU]
  cases ax[i]? with|none=>rfl|some r=>split<;>rfl
inductive aex(aj:gQ)(D:ck)(H:ap):Prop|mk(t:dy)(an:ap)(A:ru)(ai:oC)(n:O)(k:V):D=[Y<|.K A.K,Y k,Y<|.K A.R,Y<|.R n]->eU t an H A ai->↑ai.R<=30->(∀l∈ai.S,∃r,ai.R[l]? =Y r/\↑r.R<=100)->(∀al,eU t an al A {ai with R:=nC ai.S n ai.R}->aj.K D al)->aex aj D H
inductive Si:cq|mk{t:dy}{a2 h a1 b a3 a4 a5}:eU t a2 h a1 b->↑b.R<=30->↑b.S<=100->(∀l∈b.S,∃r,b.R[l]? =Y r/\↑r.R<=100)->((↑b.R=30∨8<↑b.S)->a5 (I cN) M h)->(¬(↑b.R=30∨8<↑b.S)->∀af q,eU t a2 af a1 (wP b a3 q)->a4 (.R ↑b.R) af)->Si [.K a1.K,.S a3] h a4 a5
def aey:fu ["self","kind","program","label"] ["self","kind"]<|dh<|hk 6:=∅
def aul{aj:gQ}{D:ck}(d:aex aj D H):nu (λD H Q=>m' aAz "around" (fH 0) D H λx af=>∃k,Dq aAv x af k/\Q k af) (rZ<|ro (Gg Gh (m' aAC "parts"<|fH 2)<|Gg Gh (m' aAz "around"<|fH 0)<|U_ (KC λi=>.R<|-i)<|gA<|.R 1) λl D H Q=>yU (fH 3) D Q l H) ph aj D H:=by
 let(t,an,A,ai,n,k,rfl,x,a2,U,m):=d;let o:=x.K.R 2 aa;show(.K A.S,x.K.S 0,_,aQ (_,bZ o,aa),dH (λb=>?_) λb=>?_)
 .exists a0
  obtain⟨dS,g,j⟩:∃dS g,ai.S=dS++[g]:=by
   cases q:ai.S.getLast? with|none=>rw[List.getLast?_eq_none_iff.1 q]at b;cases b|some g=>let(dS,d):=List.getLast?_eq_some_iff.1 q;show(dS,g,d)
  let(r,p,a3):=U g (by rw[j];show cG _ ig);let(a,v,w):=GQ x.R p;let T:=x.K.a1 (a,_)<|cG _<|dQ _<|gs w;show a0 (.K A.a2,x.K.S 3,.K A.S,x.K.S 0,1,aa,_,.R g,bZ o,?_,_,.K a,bZ<|x.K.R 5 aa,tU V.K v,_,T,_,T,?_,?_);.rw[j];delta fl;rw[cs];show Dz _ _
  .delta fl;rw[aV];show nd<|by omega
  .let y:=x.K.b7 w<|bF.K<|fl<|r.R++[n];rw[aub p v]at y;let e:nC ai.S n ai.R=pG g n ai.R:=by delta nC;rw[j,List.getLast?_concat]
   let h:∀{eB:Type}(f:fx->eB),(∀r:fx,∀l,f {r with R:=l}=f r)->(pG g n ai.R).map f=ai.R.map f:=λf a1=>by
    show o_ λi=>?_;delta pG;rw[cV,cV,ayU]
    cases ai.R[i]? with|none=>rfl|some r=>simp;split<;>simp only[a1]
   have:=m (a' H a<|bF.K<|fl<|r.R++[n]) (by
    rw[e];show(?_,by rw[show↑(pG g n ai.R)=↑ai.R from ahr _ _ _];show x.R,x.X,x.a0,x.S,x.a1);unfold qG at y⊢;dsimp only;rw[h _ λ_ _=>rfl,h _ λ_ _=>rfl,h _ λ_ _=>rfl,h _ λ_ _=>rfl,h _ λ_ _=>rfl];show y);unfold fl at this;rw[cs]at this;show this
 .have:ai.S=[]:=by
   cases q:ai.S with|nil=>rfl|cons B l=>rw[q]at b;cases b
  let e:nC ai.S n ai.R=ai.R:=by delta nC;rw[this];rfl
  show m H ?_;rw[e];show x
def GS[ci]:eD (fr aAw aAx) 2 aAz "add_node" ["self","kind"] Si:=by
 show aCx.R aAT.K.K _ (ai:=aey) λz H vs Q au v d _=>?_
 induction d with
 |@mk t an H A ai kd _ _ x a4 b2 U a0 a5=>
  let aD:=aey.K;show(_,ba (ey 2 aD<|bV aAT.R<|ao 0)<|ba (ey 3 aD<|na aAV<|bV (aAR.K,aAR.R)<|ao 2)<|ba (dF (lr.K<|Ai (jm mb (ao 3)<|cH aBC)<|Ah<|jm KP (na aAV<|bV aAT.S<|ao 0)<|cH aBD) (a_<|tq to aa aa jL.1 jL.2) d_)
  <|ba (ix.K (dF (uG (bV aAT.S<|ao 0)<|λ_=>rfl) (a_<|cw<|ox (fT (bV (aAR.K,aAR.S)<|ao 2)<|fT (bV aAT.S<|ao 0)<|Dm Dn cm)<|ao 3) d_) λaj D H d=>aul d)
  <|ba (cw<|ox (bV (aAR.K,aAR.R)<|ao 2)<|ao 1)<|ba (cw<|ox (bV (aAR.K,aAR.S)<|ao 2)<|eP aF)<|ba (cw<|ox (bV (aAR.K,aAR.a0)<|ao 2) uC)<|ba (cw<|ox (bV (aAR.K,aAR.X)<|ao 2) uC)
  <|ba (cw<|ox (bV (aAR.K,aAR.a1)<|ao 2)<|fS aue (ao 0) v bm)<|ba (cw<|ox (bV aAT.a0<|ao 0) uC)<|a_<|cy<|ao 3,?_);let a6:(↑(ai.R.map λr=>V.S r.K):N)=(↑ai.R:O):=by rw[aV]
  show(.K A.R,x.K.S 0,.K A.X,x.K.S 3,_,bZ<|x.K.R 4 aa,?_);change ls _ _ _ [Y<|.K A.K,Y<|.S kd,Y<|.K A.R,Y<|.R (↑(ai.R.map λr=>V.S r.K):N)] _;rw[a6];show dH (λi=>lx<|a0<|aQ ?_) λi=>(.K A.S,x.K.S 0,_,bZ<|x.K.R 2 aa,dH (λe=>a0<|bl ?_) λe=>?_);.have:=eH i;show eW<|(λ{m n}=>ahx.1)<|id<|eW this
  .let e:=eH e;unfold fl at e;rw[aV]at e;show xP.1 e
  let bU:¬(↑ai.R=30∨8<↑ai.S):=by
   let i:=hj i;let e:=hj e;unfold fl at e;rw[aV]at e;omega
  show(t,an,A,ai,↑ai.R,.S kd,aa,x,a4,U,λal b=>?_);let a1:=auk ai.S ↑ai.R ai.R;let w:=a5 bU;let a7:=auj ai.S ↑ai.R ai.R;unfold wP at w;generalize nC ai.S ↑ai.R ai.R=io at b a1 w a7;let h:∀{α:Type}(f:fx->α),↑(io.map f)<ch:=λf=>by rw[aV];show nd<|by omega
  let a2:=b.K.R 4 aa;show(.K A.X,b.K.S 3,_,a2,_,a2,h _,?_);let T:=b.K.a0 4 aa<|.K<|(io.map λr=>V.S r.K)++[.S kd];show(.K A.a2,T.S 3,_,T.R 5 aa,kT,λq a8=>?_);let a3:=df.b9 (aC:=(qG A t {ai with R:=io}).set 4 (A.X,.K<|(io.map λr=>V.S r.K)++[.S kd])) (aq:=qH io ai.a0) (ct:=t_ ai.X ai.os) T a8<|.K [];show(_,a3.R 5 aa,?_,?_);.let d:↑ai.a0=↑io:=b.R;show nd<|by rw[aV];change ↑ai.a0<=_;omega
  let j:=a3.a0 5 aa<|.K<|ai.a0.map V.K++[.K q];show(.K A.a3,j.S 3,_,j.R 6 aa,_,j.R 6 aa,h _,?_);let o:=j.a0 6 aa<|.K<|(io.map λr=>qF r.X)++[.a0];show(.K A.a4,o.S 3,_,o.R 7 aa,_,o.R 7 aa,h _,?_);let g:=o.a0 7 aa<|.K<|(io.map λr=>qF r.a0)++[.a0];show(.K A.a5,g.S 3,_,g.R 8 aa,g.X 0,?_);let a9:((io.map λr=>V.S r.K)++[V.S kd])=(ai.R.map fx.K++[kd]).map V.S:=by
   rw[<- a1,cs,dX];rfl
  show .mk (dS:=ai.S) (bu:=ai.R.map fx.K++[kd]) (g.S 0) (g.S 0) (g.S 3) (g.R 2 aa) (by rw[<- a9];show g.R 4 aa) (λl b0=>?_) ?_;.let(r,v,_):=U l b0;have:=(ff.1 v).1;rw[cW,aV];show afy ↑[kd] this
  show(_,g.R 8 aa,h _,?_);let p:=g.a0 8 aa<|.K<|(io.map λr=>qF r.a1)++[qF<|rv (ai.R.map fx.K++[kd]) ai.S];show(.K A.a1,p.S 0,_,p.R 1 aa,_,p.R 1 aa,h _,?_);let b1:=p.a0 1 aa<|.K<|(io.map λr=>vq r.S)++[.a0];show w _ q (?_,?_,b.X,b.a0,b.S,b.a1)
  .delta qG;dsimp only;rw[cs,cs,cs,cs,cs,cs];let hz:qH (io++[(kd,[],M,M,rv (ai.R.map fx.K++[kd]) ai.S,M)]) (ai.a0++[q])=qH io ai.a0++[(q,bF.K [])]:=by
    delta qH;rw[TA b.R.symm,cs];rfl
   rw[hz];show b1
  .change↑(ai.a0++[q])=↑(io++[_]);rw[cW,cW];show dP (·+1) b.R
def aez(g:eQ)(ah:#[eQ])(d:g.K=↑(cj ah)):(cj<|g::ah)[g.K]? =Y (g.R.X,g.S.map bi,M,M,eA ah,g.R.R):=by
 change(jp ah g.K (cj ah)++_::_)[g.K]? =_;simp_all [pb,qB,xH]
theorem vr:∀ah n,ht ah->∀g∈ah,g.K<↑(cj ah)/\∃c o,(jp ah n<|cj ah)[g.K]? =Y (g.R.X,g.S.map bi++[c],M,M,o,g.R.R)
 |[],_,_,g,d=>nomatch d
 |d::ah,n,v,g,f=>by
  let b:=v.1.K;let h:=vo d ah;let e:jp (d::ah) n (cj<|d::ah)=jp ah d.K (cj ah)++(d.R.X,d.S.map bi++[n],M,M,eA ah,d.R.R)::rs d.R d.K (cB ah) (eA ah) 0 d.S:=by
   change pG d.K n (jp ah d.K (cj ah)++_::_)=_;delta pG;rw[adv _ _ _ _<|by rwa [qB]]
  let rfl||q:=cc.1 f;.show(by lia,n,eA ah,?_);rw[e,pb<|by rw[qB];show o'<|id<|eW b,qB,b,xH];rfl
  .let(ab,c,o,ag):=vr ah d.K v.2 g q;show(by lia,c,o,?_);rwa [e,oc<|by rwa [qB]]
def aeA{ah}(v:ht ah){g}(b:g>ah):∃r,(cj ah)[g.K]? =Y r/\r.K=g.R.X/\↑r.R<=100:=by
 let h:∀f:cD,f.K<=3:=λf=>by cases f<;>show oe aa
 let dl:∀{g ah},ady g ah->↑(g.S.map bi)<=3:=λk=>by rw[aV];show db k.R<|h _
 let all:∀ah,ht ah->∀g∈ah,↑g.S<=3:=by
  intro ah
  induction ah with|nil=>show λ_ g d=>nomatch d|cons d ah i=>show λv g b=>(cc.1 b).elim (λe=>by rw[e];show db v.1.R<|h _)<|i v.2 g
 cases ah with
 |nil=>cases b
 |cons d ah=>
  let rfl||q:=cc.1 b;.show(_,aez g ah v.1.K,aa,db (dl v.1) ⋯)
  .let(ab,c,o,ag):=vr ah d.K v.2 g q;show((g.R.X,g.S.map bi++[c],M,M,o,g.R.R),?_,aa,?_);.change(jp ah d.K (cj ah)++_::_)[g.K]? =_;rwa [oc<|by rwa [qB]]
   .rw[cW,aV];have:=all ah v.2 g q;change _+1<=100;lia
noncomputable def cD.a6:cD->dq|.a0 _=>J|_=>aX
theorem aum(f:cD)(l:O)(o:bs O):f.b7 l o=if f.a6=J then Y l else o:=by cases f<;>rfl
theorem aeB{p}:∀{ah},(∀g∈ah,p g.K=g.R.a6)->(ah.map eQ.K).find? p=eA ah
 |[],_=>rfl
 |g::ah,d=>by
  change(g.K::ah.map eQ.K).find? p=g.R.b7 g.K (eA ah);rw[aum,<- aeB λg b=>d g<|eo _ b];grind
theorem aun{f:cD}{i:O}(d:i<f.K):f.b5 i=if i+1=f.K then f.R else M:=by
 cases f with
 |a0 x=>
  let d:i<1:=d;change Y x=if i+1=1 then Y x else M;grind
 |a3 x=>
  match i,d with|0,_=>rfl|1,_=>rfl
 |_=>split<;>rfl
theorem aeC(x w:lb)(l:O)(s:hR):hK ((x,l)::s) w=if x=w then Y l else hK s w:=by
 delta hK;rw[TD];by_cases d:x=w;.rw[bK d,rQ.2 d];rfl
 .rw[be d,un.2 d]
theorem Sj{w p}:∀{ah:#[eQ]},ht ah->rt ah->(∀g∈ah,p g.K=(bp (g.R.R=Y w)&&bp (↑g.S+1=g.R.K)))->(ah.map eQ.K).find? p=hK (cB ah) w
 |[],_,_,_=>rfl
 |g::ah,v,gF,d=>by
  let h:=Sj v.2 v.1.a2 λg e=>d g<|eo _ e;let b:=d g<|cp _;change(g.K::ah.map eQ.K).find? p=hK (g.R.a2 ↑g.S g.K<|cB ah) w;delta cD.a2;rw[(aun<|gF g aa)];by_cases q:↑g.S+1=g.R.K
  .rw[bK q];rw[hp q,Bool.and_true]at b
   cases f:g.R.R with
   |none=>
    rw[f]at b;rwa [ayV<|by rw[b];show ne_true_of_eq_false aa]
   |some x=>
    rw[aeC];grind
  .rw[be q];rw[iv q,xx]at b;rwa [ayV<|b▸gh]
theorem auo(e:aW):∀s,(gr s e).map ek=mn e:=by
 induction e with
 |fn l x B b=>
  intro s;change l::(gr _ B).map ek=((_::bR B).filter Cs).map bi;rw[b,ayW aa];rfl
 |_=>intro s;dsimp only[gr,mn,bR]at*;simp_all [Cs]
def aeD{n}(d:eC n e):∀k∈mn e,n<=k/\k<n+cU e:=λk b=>by
 let(x,f,rfl):=bx.1 b;have:bi x>dC e:=bx.2 (x,(je.1 f).1,aa);rw[(zs e n).mpr d,ayD]at this;show And.symm<|(λ{a B}=>And.comm.1) this
def aup{n}(d:eC n e):(mn e).Nodup:=by
 have:(dC e).Nodup:=by rw[(zs e n).mpr d];show List.nodup_range' ..
 show Ac (Ad bi vT) this
theorem Sk(f:cD)(l:O)(s:hR):∀bb i n,qC n bb->((mB f l s i bb).map ek).Nodup/\∀k∈(mB f l s i bb).map ek,n<=k/\k<n+kX bb
 |[],_,_,_=>(lP,λ_ d=>(by cases d))
 |ae::r,i,n,d=>by
  let(ab,ag):=Sk f l s r (i+1) (n+cU ae) d.2;let e:(mB f l s i<|ae::r).map ek=mn ae++(mB f l s (i+1) r).map ek:=by
   change(gr _ ae++_).map _=_;rw[cs,auo]
  let aw:kX (ae::r)=cU ae+kX r:=aa;rw[e];show(lQ.2 (aup d.1,ab,λa b B g z=>?_),λk h=>?_);.have:=aeD d.1 a b;have:=ag B g;lia
  .let q||q:=du.1 h;.have:=aeD d.1 k q;lia
   .have:=ag k q;lia
noncomputable def y'(l:#[O])(B:O):#[O]:=if B>l then l else l++[B]
noncomputable def ne(p:O->dq)(B:O)(ct:#[O×#[O]]):#[O×#[O]]:=ct.map λq=>if p q.1=J then(q.1,y' q.2 B)else q
theorem auq(k B:O)(l:#[O]):kq k (l++[B])=if B<k then y' (kq k l) B else kq k l:=by
 delta kq y';rw[ta,pe,List.filter_nil];by_cases d:B<k
 .rw[bK<|hp d,bK d,List.eraseDups_append];let b:B>(l.filter (·<k)).eraseDups↔B>l.filter (·<k):=z';by_cases q:B>l.filter (·<k)
  .rw[bK<|b.2 q];have:[B].removeAll (l.filter (·<k))=[]:=by
    delta ayX;rw[Kg<|by rw[ayZ.2 q];show gh];rfl
   rw[this];show e' _
  .rw[be λz=>q<|b.1 z];have:[B].removeAll (l.filter (·<k))=[B]:=by
    delta ayX;rw[ayW<|by rw[SA,<- ayF];show λz=>q<|ayZ.1 z];rfl
   rw[this];rfl
 .rw[be<|‹d›,be d,e']
theorem Sl:∀ah w,ht ah->((he w ah).map ek).Nodup/\∀k∈(he w ah).map ek,k<↑(cj ah)
 |[],_,_=>(lP,λ_ d=>(by cases d))
 |g::ah,w,v=>by
  let(ab,ag):=Sl ah (jo g.R g.K (cB ah) 0 g.S++w) v.2;let(j,e):=Sk g.R g.K (cB ah) g.S 0 (g.K+1) v.1.S;let m:=v.1.K;let o:=vo g ah;let f:∀k∈(g.R.a5 g.K<|jo g.R g.K (cB ah) 0 g.S++w).map ek,k=g.K:=λk b=>by
   delta cD.a5 at b;split at b;.show dj.1 b
   .cases b
  let l:((g.R.a5 g.K<|jo g.R g.K (cB ah) 0 g.S++w).map ek).Nodup:=by
   delta cD.a5;split;.show CR _ _
   .show lP
  change((he _ ah++(_++_)).map ek).Nodup/\∀k∈(he _ ah++(_++_)).map ek,_;rw[cs,cs];show(lQ.2 (ab,lQ.2 (l,j,λa h B i z=>?_),λa h B i z=>?_),λk b=>?_);.have:=f a h;have:=e B i;lia
  .have:=ag a h;let q||q:=du.1 i;.have:=f B q;lia
   .have:=e B q;lia
  .let q||q:=du.1 b;.have:=ag k q;lia
   let q||q:=du.1 q;.have:=f k q;lia
   .have:=e k q;lia
theorem aur{p B}:∀ah w,ht ah->(∀g∈ah,g.R.a6=J->p g.K=bp (B<g.K))->(∀k,p k=J->∃g∈ah,g.K=k)->he (w++[B]) ah=ne p B (he w ah)
 |ah,w,v,ab,ag=>by
  let j:∀ah w,ht ah->(∀g∈ah,g.R.a6=J->p g.K=bp (B<g.K))->(∀k,k<↑(cj ah)->p k=J->∃g∈ah,g.K=k)->he (w++[B]) ah=ne p B (he w ah):=by
   intro ah
   induction ah with
   |nil=>show λ_ _ _ _=>rfl
   |cons g ah h=>
    intro w v ab ag;let T:=v.1.K;let U:=vo g ah;let(V,l):=Sk g.R g.K (cB ah) g.S 0 (g.K+1) v.1.S;let below:∀f∈ah,f.K<↑(cj ah):=λf b=>(vr ah 0 v.2 f b).1;let h:=h (jo g.R g.K (cB ah) 0 g.S++w) v.2 (λg b=>ab g<|el _ b) λk m i=>by
     let(f,b,e):=ag k (by omega) i;let rfl||q:=cc.1 b;.omega
     .show(f,q,e)
    change he (jo g.R g.K (cB ah) 0 g.S++(w++[B])) ah++(g.R.a5 g.K (jo g.R g.K (cB ah) 0 g.S++(w++[B]))++mB g.R g.K (cB ah) 0 g.S)=ne p B (he (jo g.R g.K (cB ah) 0 g.S++w) ah++(g.R.a5 g.K (jo g.R g.K (cB ah) 0 g.S++w)++mB g.R g.K (cB ah) 0 g.S));rw[<- fi<|jo g.R g.K (cB ah) 0 g.S,h];unfold ne;rw[cs,cs];congr 2
    .let b:=ab g ig
     cases o:g.R with
     |a0 x=>
      rw[o]at b;change[(aZ g.K<|kq g.K _)]=[if p g.K=J then(aZ g.K<|y' (kq g.K _) B)else(aZ g.K<|kq g.K _)];rw[auq,b aa];by_cases q:B<g.K;.rw[bK q,bK<|hp q]
      .rw[be q,be<|‹q›]
     |_=>rfl
    .conv=>lhs;rw[<- TZ<|mB g.R g.K (cB ah) 0 g.S]
     show rb λq A=>?_;let m:=l q.1<|bx.2 (q,A,aa);rw[be λi=>?_];.rfl
     .let(f,b,e):=ag q.1 (by omega) i;let rfl||z:=cc.1 b;.omega
      .have:=below f z;omega
  show j ah w v ab λk _=>ag k
theorem aeF:∀ah w,∀g∈ah,g.R.a6=J->g.K>(he w ah).map ek
 |[],_,g,d,_=>nomatch d
 |d::ah,w,g,e,b=>by
  change g.K>(he _ ah++(_++_)).map ek;rw[cs,cs];let rfl||q:=cc.1 e
  .show cG _<|dQ _ ?_
   cases q:g.R with|a0 x=>show(cp _)|_=>rw[q]at b;cases b
  .show dQ _<|aeF ah _ g q b
def aeG{ah r b z}(v:ht ah)(gF:rt ah)(d:h_ ah r=Y (z,b)):↑b<↑r:=by
 delta h_ at d;split at d;.cases d
 .split at d;.let((f,e),ab,ag):=e_.1 d;cases ag;have:=dP mR (adC ab).1;rw[cW]at this;change ↑e<_+1;lia
  .let(x,ab,ag):=e_.1 d;cases ag;let g:ec r≠[]:=λz=>by
    rw[z]at ab;delta mC at ab;rw[show kg []=M from aa]at ab;cases ab
   have:=dP mR<|sy r;rw[cW]at this;have:=List.length_pos_iff.2 g;lia
set_option tactic.hygienic true in
def aus{g ah r b z}(v:ht<|g::ah)(d:mc g ah r=Y (z,b)):↑b<↑r:=by
 delta mc at d;split at d;.let(f,ab,ag):=e_.1 d;cases ag;rw[GF ab];show Uc<|mR b
 .rename_i q;let gF:rt<|g::ah:=λi h=>by cases h;show C' v.1.R q
  let e||e:=wG g.R ↑g.S;.rw[e]at d;show aeG v gF d
  .rw[e]at d;let(f,ab,ag):=xS.1 d;rw[GF ab];show CD<|aeG v gF ag
def aut{t}(d:h_ [] t=M):nj t=M:=by
 cases q:nj t with|none=>rfl|some e=>let(_,ab,_):=GH.1 q;grind
def auu{t r g ah}(b:h_ [] t=Y q)(d:kr q (.K<|g::ah,r))(h:mc g ah r=M):nj t=M:=by
 cases p:nj t with
 |none=>rfl
 |some e=>
  let(f,ab,ag):=GH.1 p;rw[b]at ab;cases ab;let z||z:=d.S ag
  .cases z with|step k _=>grind
  .cases z
def auv{t r}(h:h_ [] t=Y q)(d:kr q (.R e,r)):nj t=if r=[]then Y e else M:=by
 by_cases b:r=[];.rw[bK b];show GH.2 (q,h,b▸d)
 .rw[be b]
  cases p:nj t with
  |none=>rfl
  |some f=>
   let(g,ab,ag):=GH.1 p;rw[h]at ab;cases ab;let z||z:=d.S ag;.cases z;show bB aa b
   .cases z;show bB aa b
structure hu(z:pH)(ai:oC):Prop where
 X:ai.R=wD z
 R:ai.X=RT z
 K:ai.S=((adp z).map eQ.K).reverse
theorem Sm(ah:#[eQ])(x:aW):(adp<|kb ah x).map eQ.K=ah.map eQ.K:=by cases ah<;>rfl
theorem BG:∀{ah},ht ah->∀g∈ah,∀b∈ah,g.K=b.K->g=b
 |[],_,g,d,_,_,_=>(by cases d)
 |d::ah,v,g,h,b,i,e=>by
  let j:=v.1.K;let rfl||q:=cc.1 h<;>let rfl||f:=cc.1 i;.rfl
  .have:=(vr ah 0 v.2 b f).1;lia
  .have:=(vr ah 0 v.2 g q).1;lia
  .show BG v.2 g q b f e
theorem aeH:∀{ah},ht ah->(ah.map eQ.K).Nodup
 |[],_=>lP
 |d::ah,v=>f_.2 (λz=>by
   let(g,b,e):=bx.1 z;have:=(vr ah 0 v.2 g b).1;have:=v.1.K;lia,aeH v.2)
theorem ht.K{ah}(v:ht ah):↑(cj ah)<=30/\↑ah<=9:=by
 cases ah with|nil=>show(ex _,ex _)|cons g ah=>show(v.1.a0,ut v.1.a4)
section
variable{t:dy}{A:ru}{ai:oC}{ah:#[eQ]}{io:#[fx]}{r:fx}
theorem hu.S(c:hu (.K ah) ai):ai.R=cj ah:=c.X
theorem hu.a0(c:hu (.K ah) ai):ai.S.reverse=ah.map eQ.K:=by rw[c.K,List.reverse_reverse];rfl
theorem hu.a4(c:hu (.K ah) ai){l}(d:l>ai.S):∃g∈ah,g.K=l:=by
 have:l>ah.map eQ.K:=by rw[<- c.a0];show Dc.2 d
 show bx.1 this
theorem hu.a1(c:hu (.K ah) ai)(v:ht ah):∀l∈ai.S,∃r,ai.R[l]? =Y r/\↑r.R<=100:=λl b=>by
 let(g,e,rfl):=c.a4 b;let(r,ab,_,ag):=aeA v e;show(r,c.S▸ab,ag)
theorem hu.a2(c:hu (.K ah) ai)(n:O):nC ai.S n ai.R=jp ah n (cj ah):=by
 rw[c.S,c.K]
 cases ah with
 |nil=>rfl
 |cons g ah=>
  change(match((g.K::ah.map eQ.K).reverse).getLast? with|M=>_|Y g=>_)=_;rw[List.getLast?_reverse];rfl
theorem hu.a3(c:hu (.K ah) ai)(v:ht ah)(kd:E):rv (ai.R.map fx.K++[kd]) ai.S=eA ah:=by
 delta rv;rw[c.a0];show aeB λg b=>?_;let(r,ab,ag,_):=aeA v b;rw[oc<|by rw[aV,c.S];show((ff.1 ab).1),cV,c.S,ab];change bp (Y r.K=Y _)=_;rw[ag];cases g.R<;>first|rfl|decide
theorem Sn(ax:#[fx])(ay:#[L]):qH ax ay=((ax.map fx.R).zip ay).map λq=>(q.2,bF.K<|fl q.1):=by
 rw[agR,dX];rfl
theorem So(l:#[α])(a B:α){n}(d:n=↑l):(l++[a]).set n B=l++[B]:=by
 simp_all
theorem eU.a4(x:eU t an H A ai)(b:ai.R=io++[r])(k:O):eU t an (a' H A.a3<|.K<|(ai.R.map λr=>qF r.X).set ↑io<|.R (k:O)) A {ai with R:=io++[{r with X:=Y k}]}:=by
 show(?_,by rw[x.R,b,cW,cW];rfl,x.X,x.a0,x.S,x.a1);let y:=x.K.a0 6 aa<|.K<|(ai.R.map λr=>qF r.X).set ↑io<|.R (k:O);dsimp only[qG]at y⊢;rw[Sn]at y⊢;rw[b]at y⊢;simp only[cs,fg,sX]at y⊢;rw[So _ _ _<|by rw[aV]]at y⊢;show y
theorem eU.a5(x:eU t an H A ai)(b:ai.R=io++[r])(k:O):eU t an (a' H A.a4<|.K<|(ai.R.map λr=>qF r.a0).set ↑io<|.R (k:O)) A {ai with R:=io++[{r with a0:=Y k}]}:=by
 show(?_,by rw[x.R,b,cW,cW];rfl,x.X,x.a0,x.S,x.a1);let y:=x.K.a0 7 aa<|.K<|(ai.R.map λr=>qF r.a0).set ↑io<|.R (k:O);dsimp only[qG]at y⊢;rw[Sn]at y⊢;rw[b]at y⊢;simp only[cs,fg,sX]at y⊢;rw[So _ _ _<|by rw[aV]]at y⊢;show y
def eU.a6(x:eU t an H A ai)(b:ai.R=io++[r])(z:lb):eU t an (a' H A.a1<|.K<|(ai.R.map λr=>vq r.S).set ↑io<|.S<|et z) A {ai with R:=io++[{r with S:=Y z}]}:=by
 show(?_,by rw[x.R,b,cW,cW];rfl,x.X,x.a0,x.S,x.a1);let y:=x.K.a0 1 aa<|.K<|(ai.R.map λr=>vq r.S).set ↑io<|.S<|et z;dsimp only[qG]at y⊢;rw[Sn]at y⊢;rw[b]at y⊢;simp only[cs,fg,sX]at y⊢;rw[So _ _ _<|by rw[aV]]at y⊢;show y
end
theorem aeK:∀(n:O)(l:#[O]),↑l<=n->l.eraseDups.Nodup
 |_,[],_=>lP
 |n+1,a::r,d=>by
  rw[CX];show f_.2 (λz=>?_,aeK n _<|db (qe _ _)<|Kf d);simp_all
def auw(k:O)(l:#[O]):↑(kq k l)<=k:=by
 let d:(kq k l).Nodup:=aeK _ _ dw;have:=d.length_le_of_subset λx b=>by
  let b:=z'.1 b;show xr.2<|eH (je.1 b).2
 simp_all
def aux(e:aW):∀s,∀q∈gr s e,∃l,q.2=kq q.1 l:=by
 let fc:∀{a B:#[O×#[O]]},(∀q∈a,∃l,q.2=kq q.1 l)->(∀q∈B,∃l,q.2=kq q.1 l)->∀q∈a++B,∃l,q.2=kq q.1 l:=λab ag q h=>(du.1 h).elim (ab q)<|ag q
 induction e with|num l n=>show λs q d=>(by cases d)|var l n=>show λs q d=>(by cases d)|fn l x B b=>show λs q d=>(cc.1 d).elim (λz=>by grind)<|b _ q|ifz l a B c f g i=>show λs=>fc (f s)<|fc (g s)<|i s|letE l x a B f g=>show λs=>fc (f s)<|g _|fst l a b=>assumption|snd l a b=>show λs=>b s|new l a b=>show λs=>b s|get l a b=>show λs=>b s|_ l a B f g=>show λs=>fc (f s)<|g s
theorem aeP:∀ah w,∀q∈he w ah,∃l,q.2=kq q.1 l
 |[],_,q,d=>(by cases d)
 |g::ah,w,q,d=>by
  let z||z:=du.1 (d);.show aeP ah _ q z
  let z||z:=du.1 z
  .delta cD.a5 at z;split at z;.grind
   .cases z
  .let lF:∀bb i,∀q∈mB g.R g.K (cB ah) i bb,∃l,q.2=kq q.1 l:=by
    intro bb
    induction bb with|nil=>show λ_ q d=>(by cases d)|cons ae r b=>show λi q d=>(du.1 (d)).elim (aux ae _ q) (b _ q)
   show lF _ _ q z
inductive aeQ:cq
 |mk{t:dy}{w:dy}{b a3 h a1}{ah:#[eQ]}{a4 a5}:eU t b a3 h a1->hu (.K ah) a1->ht ah->rt ah->((↑(cj ah)=30∨8<↑ah)∨hK (cB ah) w=M->∀af,bA b af->a5 (I cN) M af)->
  (∀af a2 B,¬(↑(cj ah)=30∨8<↑ah)->hK (cB ah) w=Y B->eU t b af h a2->a2.K=a1.K->hu (kb ah<|gK ↑(cj ah) w) a2->a4 .a0 af)->aeQ [.K h.K,.S<|et w] a3 a4 a5
inductive aeR:cq
 |mk{t:dy}{h a3 a1 b}{ah:#[eQ]}{a4 a5}:eU t h a3 a1 b->hu (.K ah) b->ht ah->rt ah->((↑(cj ah)=30∨8<↑ah)∨mC (cB ah) ↑(cj ah) (ec<|t.drop b.K)=M->∀af,bA h af->a5 (I cN) M af)->
  (∀af a2 x,¬(↑(cj ah)=30∨8<↑ah)->mC (cB ah) ↑(cj ah) (ec<|t.drop b.K)=Y x->eU t h af a1 a2->a2.K=b.K+↑(ec<|t.drop b.K)->hu (kb ah x) a2->a4 .a0 af)->aeR [.K a1.K] a3 a4 a5
def aeS:fu ["self","word","label","binder","fun"] ["self","word"]<|dh<|hk 11:=∅
def aeT:fu ["self","word","label"] ["self"]<|dh<|hk 10:=∅
set_option tactic.hygienic true in
def auy{ct p B j l z}(aD:(ct.map ek).Nodup)(h:(ne p B ct)[j]? =Y (l,z))(a1:p l=aX)(a2:b l=J)(d:∀k,k≠l->b k=p k):(ne p B ct).set j (l,y' z B)=ne b B ct:=by
 let f:ct[j]? =Y (l,z):=by
  delta ne at h;rw[cV]at h;let(q,ab,ag):=e_.1 h;split at ag;.rename_i g;let e:=dP ek ag;let e:q.1=l:=e;rw[e,a1]at g;cases g
  .rw[ab,ag]
 show o_ λi=>?_;delta ne;rw[vV,cV,cV];by_cases e:j=i;.subst e;rw[bK aa,aV,bK (ff.1 f).1,f];change Y _=Y (if b l=J then _ else _);rw[bK a2]
 .rw[be e]
  cases q:ct[i]? with
  |none=>rfl
  |some y=>
   have:y.1≠l:=λz=>e (DV aD (by rw[cV,f];rfl) (by rw[cV,q,<- z];rfl));change Y (if p y.1=J then _ else _)=Y (if b y.1=J then _ else _);rw[d _ this]
def auz{ct p B}(d:∀k,b k=p k):ne p B ct=ne b B ct:=by
 have:=funext d;rw[this]
def Sp{n j}(d:j<n):pj n (j:N)=Y j:=by
 delta pj;simp_all
def auA:qk C (cF "int")<|λxs H Q=>∃x n,xs=[.S x]/\aza x=Y n/\x.length<=640/\Q (.R n) H:=by
 intro am s D H xs e Q b r d;let(x,n,rfl,ab,ag,q):=d;let(u,rfl,t,rfl):=ye r;show PySem.W.KIN.call_text ab ag (.R n,H,b.X _,(_,aa),q)
def auB:∀k:O,k<=99->aza (et<|vw k)=Y (k:N)/\↑(vw k)<=2:=by rfl'
def auC(t w:dy)(an:ap)(A:ru)(ai:oC)(ah:#[eQ])(B:O)(i:O)(D:ck)(af:ap):Prop:=(∃e,D=[Y<|.K A.K,Y<|.S<|et w,Y<|.R (↑ai.R:O),Y<|.R B,e])/\∃b,eU t an af A b/\b.K=ai.K/\b.R=wD (kb ah<|gK ↑(cj ah) w)/\b.S=ai.S/\b.X=ne (λk=>bp<|k>ai.S.take i/\B<k/\∃g∈ah,g.K=k/\g.R.a6=J) B (he [] ah)
set_option tactic.hygienic true in
def auD[ci]:eD (fr aAw aAx) 4 aAz "use_name" ["self","word"] aeQ:=by
 show aCC.R aAT.K.K _ (ai:=aeS) λz H vs Q au b4 d _=>?_
 induction d with
 |@mk t w an H A ai ah _ _ x c f gF c4 d6=>
  let aD:=aeS.K;show(_,ba (ey 2 aD<|eX GS (ao 0) b4 g_<|ak gR aF)<|ba (ey 3 aD<|eX aui (ao 0) b4 g_<|ak (ao 1) aF)<|ba (Dl (ao 3)<|Dk (bV (aAR.K,aAR.X)<|bV aAT.R<|ao 0) (ao 2) DA)
  <|a_<|jA xR aa (jz<|bV aAT.S<|ao 0) (fB (i:=4) aD aa<|aQ aa)<|a_<|dF (lr.K<|xZ (jm KP (ao 4)<|ao 3)<|xX<|nw ql (fT (bV (aAR.K,aAR.R)<|bV aAT.R<|ao 0)<|ao 4) gR aa) (a_<|cw<|eX auf (ao 0) b4 bm<|ak (ao 4)<|ak (ao 3) aF) d_,?_);let c5:↑ai.S=↑ah:=by rw[c.K,xG];show aV _
  let a7:↑ai.R=↑(cj ah):=by rw[c.S]
  let f3:=ht.K f;show(x.K.X 0,.mk x (by omega) (by omega) (c.a1 f) (λd=>c4 (aQ<|by rw[<- a7,<- c5];show d) H x.K.K) λa8 al q U=>?_);rw[a7,c5]at a8;let b5:(wP ai "name" q).R=jp ah ↑(cj ah) (cj ah)++[("name",[],M,M,eA ah,M)]:=by
   change nC _ _ _++[("name",[],M,M,rv _ _,M)]=_;rw[a7,c.a2,c.a3 f]
  let d7:∀g∈ah,∃r,(wP ai "name" q).R[g.K]? =Y r/\r.K=g.R.X/\r.S=g.R.R/\↑r.R=↑g.S+1:=λg b=>by
   let(ab,d8,o,ag):=vr ah ↑(cj ah) f g b;show(_,by rw[b5,oc<|by rw[qB];show ab];show ag,aa,aa,?_);rw[cW,aV];rfl
  let c6:∀l∈ai.S,∃g∈ah,g.K=l:=λl a0=>c.a4 a0;show(U.K.X 0,.mk (p:=λl=>bp<|∃g∈ah,g.K=l/\g.R.R=Y w/\↑g.S+1=g.R.K) U (λl a0=>?_) (λB b6=>?_) λb6=>c4 (bl ?_) al U.K.K);.exists d9;let(g,b,rfl):=c6 l a0;let(r,ab,ag,a9,b0):=d7 g b;show d9 (r,g.R,ab,ag,?_);rw[a9,b0,<- TU,nr];show(λ(v,a5,e,z)=>by rw[BG f v a5 g b e]at z;show z,λz=>(g,b,aa,z))
  .let b7:hK (cB ah) w=Y B:=by
    rw[<- Sj (p:=λl=>bp<|∃g∈ah,g.K=l/\g.R.R=Y w/\↑g.S+1=g.R.K) f gF λg b=>?_,<- c.a0];.show b6
    .rw[<- TU,nr];show(λ(v,a5,e,z)=>by rw[BG f v a5 g b e]at z;show z,λz=>(g,b,aa,z))
   let b1:=U.a5 b5 B;let b8:↑(jp ah ↑(cj ah)<|cj ah)=↑(cj ah):=qB _ _ _;show(.K A.R,U.K.S 0,.K A.a4,U.K.S 3,A.a4,_,_,↑(cj ah),aa,aa,U.K.R 7 aa,?_,?_);.rw[aV,b5,a7,cW,b8];show Sp<|pa _
   rw[b8]at b1
   let c7:wD (kb ah<|gK ↑(cj ah) w)=jp ah ↑(cj ah) (cj ah)++[("name",[],M,Y B,eA ah,M)]:=by
    rw[RU λg b=>?_];.change _++[fx.mk (if(hK (cB ah) w).isSome then _ else _) [] M (hK (cB ah) w) (eA ah) M]=_;rw[b7];rfl
    .cases ah with|nil=>cases b|cons v ah=>cases b;show f.1.K
   let c8:∀g∈ah,∃r,(wD<|kb ah<|gK ↑(cj ah) w)[g.K]? =Y r/\r.K=g.R.X:=λg b=>by
    let(ab,d8,o,ag):=vr ah ↑(cj ah) f g b;show(_,by rw[c7,oc<|by rw[b8];show ab];show ag,aa)
   let e0:ai.X=he [] ah:=c.R;let(c9,e1):=Sl ah [] f;let e2:ai.S.Nodup:=by rw[c.K];show(azb _).nodup_iff.2<|aeH f
   let cond:∀g∈ah,∀r,(wD<|kb ah<|gK ↑(cj ah) w)[g.K]? =Y r->(bp (V.S r.K=V.S "fun")=g.R.a6):=λg b r d=>by
    let(f4,ab,ag):=c8 g b;rw[d]at ab;cases ab;rw[ag];cases g.R<;>first|rfl|decide
   show(.K A.S,b1.K.S 0,A.S,aa,(_,bZ<|b1.K.R 2 aa),nv (xs:=fl ai.S) (auC t w an A ai ah B) ((_,aa),_,b1,aa,c7.symm,aa,?_) (λi D af _ d=>?_) (λi y D af b9 d=>?_)<|λD af d=>?_)
   .change ai.X=_;rw[e0];delta ne;conv=>lhs;rw[<- TZ<|he [] ah]
    show rb λq _=>?_;rw[be<|by simp];rfl
   .let(_,T,h,_,_,e,_):=d;have:=h.K.R 2 aa;rw[e]at this;show bZ this
   .exists e3;let((e4,rfl),T,h,a6,a2,ea,a3):=d;unfold fl at b9;rw[cV]at b9;let(l,a0,rfl):=e_.1 b9;let(g,b,b2):=c6 l (gs a0);let(r,c0,f5):=c8 g b;let e5:l∉ai.S.take i:=λz=>by
     let(j,a1):=uu z;rw[List.getElem?_take]at a1;split at a1;.rename_i e6;show bB (DV e2 a1 a0)<|ie e6
     .cases a1
    let c1:∀k,k>ai.S.take (i+1)↔k>ai.S.take i∨k=l:=λk=>by
     rw[hF,a0,du];simp
    let d0:¬(B<l/\g.R.a6=J)->T.X=ne (λk=>bp<|k>ai.S.take (i+1)/\B<k/\∃g∈ah,g.K=k/\g.R.a6=J) B (he [] ah):=λa8=>by
     rw[a3];show auz λk=>?_;rw[nr,c1];show(λ(ab,ag,v,a9,b0,d1)=>(ab.resolve_right λe=>a8 (e▸ag,?_),ag,v,a9,b0,d1),λ(ab,ag)=>(aQ ab,ag));rw[<- BG f v a9 g b<|by rw[b0,e,b2]];show d1
    show e3<|dH (λc2=>(.K A.R,h.K.S 0,.K A.X,h.K.S 3,_,.S r.K,bZ<|h.K.R 4 aa,tU (λr:fx=>V.S r.K)<|by rw[a2,<- b2];show c0,aa,_,aa,dH (λb3=>?_) λb3=>((_,aa),T,h,a6,a2,ea,d0 λz=>?_))) λc2=>((_,aa),T,h,a6,a2,ea,d0 λz=>?_)
    .let e7:B<l:=by have:=eH c2;show xP.1 this
     let d2:g.R.a6=J:=by rw[<- cond g b r c0];show b3
     let a4:l>(he [] ah).map ek:=by rw[<- b2];show aeF ah [] g b d2
     let(j,a1):=uu a4;rw[cV]at a1;let((m,z),d3,e):=e_.1 a1;let e:m=l:=e;subst e;let d4:bp (m>ai.S.take i/\B<m/\∃g∈ah,g.K=m/\g.R.a6=J)=aX:=iv λz=>e5 z.1;let c3:T.X[j]? =Y (m,z):=by
      rw[a3];delta ne;rw[cV,d3];change Y (if bp _=J then _ else _)=_;rw[be<|by rw[d4];show gh]
     let e8:T.X.map ek=(he [] ah).map ek:=by
      rw[a3];delta ne;rw[dX];show rb λq _=>?_;change(if _ then _ else _:O×#[O]).1=_;split<;>rfl
     let e9:↑z<=1000:=by
      let(d5,e):=aeP ah [] (m,z) (gs d3);let e:z=kq m d5:=e;rw[e];have:=auw m d5;have:=e1 m a4;omega
     show(h.K.X 0,.mk h c3 (by rw[e8];show c9) e9 λaH f0=>((_,aa),_,f0,a6,a2,ea,?_));change T.X.set j (m,y' z B)=_;rw[a3]at c3⊢;show auy c9 c3 d4 (hp ((c1 m).mpr<|bl aa,e7,g,b,b2,d2)) λk a4=>?_;rw[nr,c1];show(λ(ab,ag)=>(ab.resolve_right a4,ag),λ(ab,ag)=>(aQ ab,ag))
    .rw[cond g b r c0,z.2]at b3;cases b3
    .have:=hj c2;omega
   .let((e4,rfl),T,h,a6,a2,ea,a3):=d;show d6 af T B a8 b7 h a6 (a2,?_,?_)
    .rw[a3,RV];change _=he (ka (cB ah)<|gK ↑(cj ah) w) ah++[];rw[show ka (cB ah) (gK ↑(cj ah) w)=[B] by change[(_,hK (cB ah) w)].filterMap ki=_;rw[b7];rfl,e'];delta fl;rw[aV,jQ];let f1:∀g∈ah,g.K>ai.S:=λg b=>by rw[c.K];show Dc.2<|bx.2 (g,b,aa)
     show(aur (w:=[]) ah f (λg b f2=>?_) λk a4=>?_).symm;.rw[nr];show(λz=>z.2.1,λz=>(f1 g b,z,g,b,aa,f2))
     .let(_,_,g,b,e,_):=eH a4;show(g,b,e)
    .rw[ea,c.K,Sm];rfl
  .rw[<- Sj (p:=λl=>bp<|∃g∈ah,g.K=l/\g.R.R=Y w/\↑g.S+1=g.R.K) f gF λg b=>?_,<- c.a0];.show b6
   .rw[<- TU,nr];show(λ(v,a5,e,z)=>by rw[BG f v a5 g b e]at z;show z,λz=>(g,b,aa,z))
def auF(q:dy):∀B∈ec q,jq B=J:=λB e=>by
 let(j,f):=uu e;let b:=(ff.1 f).1;let(g,ab,ag):=GP q j b;have:q[j]? =Y B:=by rwa [<- sy q,oc b]
 grind
set_option tactic.hygienic true in
theorem Sq:∀{ah},ht ah->hK (cB ah) oP=M
 |[],_=>rfl
 |g::ah,v=>by
  change hK (g.R.a2 ↑g.S g.K<|cB ah) oP=M;delta cD.a2
  cases q:g.R.b5 ↑g.S with
  |none=>show Sq v.2
  |some x=>
   let b:g.R.R=Y x:=by
    delta cD.b5 at q;split at q;.rename_i d;rwa [d]
    .rename_i d _;rwa [d]
    .cases q
   rw[aeC,be (v.1.a1 x b).2];show Sq v.2
def aeU{ah}(v:ht ah):∀g∈ah.head?,g.K=↑(cj ah.tail):=λg b=>by
 cases ah with|nil=>cases b|cons d ah=>cases b;show v.1.K
def auG[ci]:eD (fr aAw aAx) 5 aAz "read_leaf" ["self"] aeR:=by
 show aCB.R aAT.K.K _ (ai:=aeT) λz H vs Q au l d _=>?_
 induction d with
 |@mk t an H A ai ah _ _ x c i gF v w=>
  let aD:=aeT.K;show(_,ba (ey 1 aD<|fS aeh (ao 0) l bm)<|a_<|dF (ik<|dT atF l bm<|ak (ao 1) aF) (ba (ey 2 aD<|eX GS (ao 0) l g_<|ak gR aF)<|a_<|Dl (Ar auA aa aBn aa<|ak (ao 1) aF)<|Dk (bV (aAR.K,aAR.a0)<|bV aAT.R<|ao 0) (ao 2) DA)
  <|a_<|dF (nw ql (ao 1) gR aa) (a_<|cw<|eX GS (ao 0) l g_<|ak gR aF)<|a_<|dF (ik<|dT adW l bm<|ak (ao 1) aF) (a_<|cw<|eX auD (ao 0) l g_<|ak (ao 1) aF)<|a_<|tq to aa aa jL.1 jL.2,?_);let T:↑ai.S=↑ah:=by rw[c.K,xG];show aV _
  let m:↑ai.R=↑(cj ah):=by rw[c.S]
  let b9:=ht.K i;let b0:↑(jp ah ↑(cj ah)<|cj ah)=↑(cj ah):=qB _ _ _;show(x.K.X 0,.mk x λal e=>?_);let a2:=auF<|t.drop ai.K;let a3:↑(ec<|t.drop ai.K)<=100000:=by have:=e.a0;have:=e.S;simp only at*;omega
  let U:hu (.K ah) {ai with K:=ai.K+↑(ec<|t.drop ai.K)}:=(c.X,c.R,c.K);let a0:∀kd q,(wP {ai with K:=ai.K+↑(ec<|t.drop ai.K)} kd q).R=jp ah ↑(cj ah) (cj ah)++[(kd,[],M,M,eA ah,M)]:=λkd q=>by
   change nC _ _ _++[(kd,[],M,M,rv _ _,M)]=_;rw[m,c.a2,c.a3 i]
  let b1:∀{y j},j.R=jp ah ↑(cj ah) (cj ah)++hm (cB ah) (eA ah) y->j.X=ai.X->j.S=ai.S->bi y=↑(cj ah)->ka (cB ah) y=[]->gr (cB ah) y=[]->hu (kb ah y) j:=λ{y j} aB a4 a5 b4 a6 b5=>by
   show(?_,?_,?_);.rw[aB,RU<|aeU i,b4]
   .rw[a4,c.R,RV,a6,b5,e'];rfl
   .rw[a5,c.K,Sm];rfl
  generalize c0:ec (t.drop ai.K)=b at e a2 a3 U a0 w v;show .mk a2 a3 (dH (λg=>?_) λg=>(aa,_,aa,dH (λa7=>?_) λa7=>.mk a2 a3 (dH (λa1=>?_) λa1=>?_)))
  .let(k,b2):=CB.1 g;let a8:mC (cB ah) ↑(cj ah) b=Y (jK ↑(cj ah) k):=by delta mC;rw[b2]
   let(aB,a4):=adA b2;let(a5,a6):=auB k a4;show(e.K.X 0,.mk e (by change ↑ai.R<=30;omega) (by change ↑ai.S<=100;omega) (U.a1 i) (λd=>v (aQ (by rw[<- m,<- T];show d)) al e.K.K) λf aH q h=>?_);let f:¬(↑(cj ah)=30∨8<↑ah):=by rw[<- m,<- T];show f
   let b3:=h.a4 (a0 "number" q) k;show(et b,(k:N),aa,by rw[aB];show a5,by rw[kc,aB];show db a6 ⋯,.K A.R,h.K.S 0,.K A.a3,h.K.S 3,A.a3,_,_,↑(cj ah),aa,aa,h.K.R 6 aa,?_,?_);.rw[aV,a0,cW,b0];change pj _ ((↑ai.R:O):N)=_;rw[m];show Sp (pa _)
   .rw[b0]at b3;show w _ _ _ f a8 b3 aa (b1 aa aa aa aa aa aa)
  .let a9:b=oP:=wH (V.S.inj (eH a7));let o:kg b=M:=by cases q:kg b with|none=>rfl|some k=>rw[q]at g;cases g
   let a8:mC (cB ah) ↑(cj ah) b=Y (gK ↑(cj ah) b):=by
    delta mC;rw[o];show bK (by rw[a9];decide,aQ a9)
   show(e.K.X 0,.mk e (by change ↑ai.R<=30;omega) (by change ↑ai.S<=100;omega) (U.a1 i) (λd=>v (aQ (by rw[<- m,<- T];show d)) al e.K.K) λf aH q h=>?_);let f:¬(↑(cj ah)=30∨8<↑ah):=by rw[<- m,<- T];show f
   let p:hK (cB ah) b=M:=by rw[a9];show Sq i
   show w _ _ _ f a8 h aa (b1 ?_ aa aa aa ?_ aa);.rw[a0];change _=_++[fx.mk (if(hK (cB ah) b).isSome then _ else _) [] M (hK (cB ah) b) (eA ah) M];rw[p];rfl
   .change[(_,hK (cB ah) b)].filterMap ki=_;rw[p];rfl
  .let o:kg b=M:=by cases q:kg b with|none=>rfl|some k=>rw[q]at g;cases g
   let b6:b≠oP:=λz=>hj a7 (by rw[z];rfl);show(e.K.X 0,.mk e U i gF (λd=>v (d.imp id λp=>?_)) λaH j B f p h b7 b8=>w aH j _ f ?_ h b7 b8);.delta mC;rw[o];show be λz=>z.2.elim b6 λd=>by rw[p]at d;cases d
   .delta mC;rw[o];show bK (a1,bl (by rw[p];rfl))
  .let o:kg b=M:=by cases q:kg b with|none=>rfl|some k=>rw[q]at g;cases g
   show v (bl ?_) al e.K.K;delta mC;rw[o];show be λz=>by rw[z.1]at a1;cases a1
inductive aeV:cq
 |mk{t:dy}{b h a4 a1 a2}{ah:#[eQ]}{a5 a6}:eU t h a4 a1 a2->hu (.K ah) a2->ht ah->t.drop a2.K=40::b->((↑(cj ah)=30∨8<↑ah)∨oB b=M->∀af,bA h af->a6 (I cN) M af)->
  (∀af a3 f,¬(↑(cj ah)=30∨8<↑ah)->oB b=Y (f,t.drop a3.K)->eU t h af a1 a3->hu (.K<|(↑(cj ah),f,[])::ah) a3->a5 .a0 af)->aeV [.K a1.K] a4 a5 a6
def aeW:fu ["self","kind","label"] ["self"]<|dh<|hk 8:=∅
def aeX(t:dy)(i:O)(kd:E)(rz:bs<|cD×dy):Prop:=
 (kd="fun" /\rz=(oA<|t.drop i).map λq=>(.a0 q.1,q.2))∨(kd="let" /\rz=(oA<|t.drop i).map λq=>(.a3 q.1,q.2))∨∃f:cD,f.X=kd/\f.R=M/\kd≠"fun" /\kd≠"let" /\f.a6=aX/\rz=Y (f,t.drop i)
section
variable{t:dy}{A:ru}{ai:oC}{ah:#[eQ]}{kd:E}{rz:bs<|cD×dy}{Q:ca}{au:fQ}
def aeZ{aj:gQ}(x:eU t an H A ai)(c:hu (.K ah) ai)(a2:ht ah)(a1:aeX t ai.K kd rz)(b0:(↑(cj ah)=30∨8<↑ah)∨rz=M->∀af,bA an af->au (I cN) M af)
 (c1:∀aU af a3 f,¬(↑(cj ah)=30∨8<↑ah)->rz=Y (f,t.drop a3.K)->eU t an af A a3->hu (.K<|(↑(cj ah),f,[])::ah) a3->aj.K aU af):
  ls (sa (Bj aAz "add_node" Si au (fH 0)<|ii (fH 1) kl)<|r' 2) (ls (nu (we<|uF Do (fH 1)<|gA<|.S "fun") (WC (m' aAC "outer"<|m' aAz "program"<|fH 0) (fH 2)<|yg kl) ph)
  <|ls (nu (UH (we<|uF Do (fH 1)<|gA<|.S "fun")<|we<|uF Do (fH 1)<|gA<|.S "let") (sa (vg aAz "read_binder" GR au<|fH 0)<|Kw (m' aAz "names"<|fH 0) (fH 2) K') ph)<|rZ<|ro (m' aAz "around"<|fH 0) λl D H Q=>yU (fH 2) D Q l H) aj [Y<|.K A.K,Y<|.S kd,M] H:=by
 let b1:↑ai.S=↑ah:=by rw[c.K,xG];show aV _
 let m:↑ai.R=↑(cj ah):=by rw[c.S]
 let c0:=ht.K a2;let b2:↑(jp ah ↑(cj ah)<|cj ah)=↑(cj ah):=qB _ _ _;show(x.K.X 0,.mk x (by omega) (by omega) (c.a1 a2) (λd=>b0 (aQ<|by rw[<- m,<- b1];show d) H x.K.K) λa4 al q i=>?_);let a4:¬(↑(cj ah)=30∨8<↑ah):=by rw[<- m,<- b1];show a4
 let a5:(wP ai kd q).R=jp ah ↑(cj ah) (cj ah)++[(kd,[],M,M,eA ah,M)]:=by
  change nC _ _ _++[(kd,[],M,M,rv _ _,M)]=_;rw[m,c.a2,c.a3 a2]
 let fin:∀{aH:ap}{b:oC}{f:cD},eU t an aH A b->b.S=ai.S->rz=Y (f,t.drop b.K)->b.R=jp ah ↑(cj ah) (cj ah)++[(f.X,[],M,M,eA ah,f.R)]->b.X=he [] ((↑(cj ah),f,[])::ah)->
   (rZ<|ro (m' aAz "around"<|fH 0) λl D H Q=>yU (fH 2) D Q l H) aj [Y<|.K A.K,Y<|.S kd,Y<|.R (↑ai.R:O)] aH:=λ{aH b f} h ea p w a6=>by
  let ag:=h.K.R 2 aa;show(.K A.S,h.K.S 0,_,ag,_,ag,?_,?_);.delta fl;rw[aV,ea];show nd<|by omega
  .show c1 _ _ {b with S:=b.S++[↑(cj ah)]} f a4 p (?_,h.R,h.X,h.a0,h.S,h.a1) (?_,a6,?_);.let y:=h.K.a0 2 aa<|.K<|fl b.S++[.R (↑ai.R:O)];unfold qG at y⊢;dsimp only;rw[show fl (b.S++[↑(cj ah)])=fl b.S++[.R (↑ai.R:O)] by delta fl;rw[cs,m];rfl];show y
   .change b.R=cj _;rw[w];rfl
   .change b.S++[↑(cj ah)]=((↑(cj ah)::ah.map eQ.K)).reverse;rw[ea,c.K,uw];rfl
 let T:∀{z:E},An (V.S kd) (V.S z)=J:=λ{z}=>rfl;let b3:∀{aH:ap}{b:oC}{g:lb->cD},eU t an aH A b->b.K=ai.K->b.S=ai.S->b.R=jp ah ↑(cj ah) (cj ah)++[(kd,[],M,M,eA ah,M)]->(∀z,(g z).X=kd/\(g z).R=Y z)->(∀z,b.X=he [] ((↑(cj ah),g z,[])::ah))->rz=(oA<|t.drop ai.K).map (λq=>(g q.1,q.2))->
   sa (vg aAz "read_binder" GR au<|fH 0) (Kw (m' aAz "names"<|fH 0) (fH 2) K') (aj.S<|rZ<|ro (m' aAz "around"<|fH 0) λl D H Q=>yU (fH 2) D Q l H) [Y<|.K A.K,Y<|.S kd,Y<|.R (↑ai.R:O)] aH:=λ{aH b g} h b4 ea w b5 a6 p=>by
  show(h.K.X 0,.mk h (λz j b6 o d5 a7=>?_) λo b6 c2=>b0 (bl<|by rw[p,<- b4,o];rfl) b6 c2);rw[b4]at o;let b7:=a7.a6 w z;show(.K A.a1,a7.K.S 0,A.a1,_,_,↑(cj ah),aa,aa,a7.K.R 1 aa,?_,?_);.rw[aV];change pj ↑b.R ((↑ai.R:O):N)=_;rw[w,cW,b2,m];show Sp<|pa _
  .rw[b2]at b7;show fin (f:=g z) b7 ea (by rw[p,o];rfl) (by rw[(b5 z).1,(b5 z).2])<|a6 z
 let a8:=Sl ah [] a2;show(T,_,aa,dH (λU=>?_) λU=>?_)
 .let c3:=V.S.inj<|eH U;subst c3;show(kT,λB o=>?_);let a0:=i.K.c0 o<|.K [];show(.K A.R,a0.S 0,.K A.a0,a0.S 3,A.a0,_,aa,hX.a0 (k:=((↑ai.R:O):N)) (v:=.K B) (a0.R 9 aa) aa ?_,?_)
  .delta me;rw[aV,rT];let c4:ai.X=he [] ah:=c.R;let ab:=by
    have:=a8.1.length_le_of_subset (l₂:=oS 30) λk a1=>xr.2<|ia (a8.2 k a1) c0.1;rw[xD]at this;show this
   rw[aV]at ab;change pS ↑ai.X _<_;rw[c4];show nd<|by omega
  let c5:gS (me ai.X ai.os) ((↑ai.R:O):N) (.K B)=me (ai.X++[(↑ai.R,[])]) (ai.os++[B]):=by
   let c6:fq (me ai.X ai.os) ((↑ai.R:O):N)=M:=by
    cases q:fq (me ai.X ai.os) ((↑ai.R:O):N)with
    |none=>rfl
    |some y=>
     let(z,hz,e):=bx.1 (ale q);delta me at hz;let(b8,c7,rfl):=bx.1 hz;let ab:=a8.2 b8.1.1<|bx.2 (b8.1,by have:=(sU c7).1;rw[c.R]at this;show this,aa);let e:=e;omega
   rw[Wr _ c6];delta me;rw[TA x.X.symm,cs];rfl
  let c8:=a0.a0 9 aa<|hX.K<|gS (me ai.X ai.os) ((↑ai.R:O):N)<|.K B;let h:eU t an _ A {wP ai "fun" q with X:=ai.X++[(↑ai.R,[])],os:=ai.os++[B]}:=(by
   delta qG t_;dsimp only;rw[<- c5,TA x.X.symm,cs];show c8,i.R,by rw[cW,cW];show dP (·+1) x.X,i.a0,i.S,i.a1);show(T,_,aa,lx<|lx<|b3 (g:=.a0) h aa aa a5 (λz=>(aa,aa)) (λz=>?_) ?_);.change ai.X++[(↑ai.R,[])]=he ([]++[]) ah++([(↑(cj ah),kq _ [])]++[]);rw[m,c.R];rfl
  .let d||d||(f,_,_,d,_):=a1;.show d.2
   .show bB d.1 ⋯
   .show bB aa d
 .let c9:kd≠"fun":=λz=>hj U (by rw[z]);let b9:∀f:cD,f.a6=aX->ai.X=he [] ((↑(cj ah),f,[])::ah):=λf d0=>by
   change ai.X=he ([]++[]) ah++(f.a5 _ _++[]);rw[c.R,show f.a5 ↑(cj ah) _=[] by cases f<;>first|rfl|cases d0];show(e' _).symm
  show(T,_,aa,dH (λd=>bB (d.symm.trans U) ⋯) λ_=>(T,_,aa,dH (λa9=>?_) λa9=>?_))
  .let d1:=V.S.inj (eH a9);subst d1;show b3 (g:=.a3) i aa aa a5 (λz=>(aa,aa)) (λz=>b9 _ aa) ?_;let d||d||(f,_,_,_,d,_):=a1;.show bB d.1 ⋯
   .show d.2
   .show bB aa d
  .let d2:kd≠"let":=λz=>hj a9 (by rw[z]);let d||d||(f,ab,ag,_,_,d3,d4):=a1;.show bB d.1 c9
   .show bB d.1 d2
   .show fin (f:=f) i aa d4 (by rw[a5,ab,ag]) (b9 f d3)
end
set_option tactic.hygienic true in
def auH{w f}(d:vp w=Y f):f.X=et w/\f.R=M/\et w≠"fun" /\et w≠"let" /\f.a6=aX:=by
 delta vp at d;repeat' split at d
 all_goals first|(cases d;done)|(rename_i q;cases d;rw[q];show(by rfl',aa,by rfl',by rfl',aa))
def auK:∀w∈pR,w=eu "fun" ∨w=eu "let" ∨(vp w).isSome=J:=by rfl'
inductive GU:cq|mk{t:dy}{h a3 a1 b}{ah:#[eQ]}{a4 a5}:eU t h a3 a1 b->hu (.K ah) b->ht ah->rt ah->(h_ ah (t.drop b.K)=M->∀af,bA h af->a5 (I cN) M af)->(∀af a2 z,h_ ah (t.drop b.K)=Y (z,t.drop a2.K)->eU t h af a1 a2->hu z a2->a4 .a0 af)->GU [.K a1.K] a3 a4 a5
inductive afa:cq|mk{t:dy}{h a3 a1 b}{g:eQ}{ah:#[eQ]}{a4 a5}:eU t h a3 a1 b->hu (.K<|g::ah) b->ht (g::ah)->(mc g ah (t.drop b.K)=M->∀af,bA h af->a5 (I cN) M af)->(∀af a2 z,mc g ah (t.drop b.K)=Y (z,t.drop a2.K)->eU t h af a1 a2->hu z a2->a4 .a0 af)->afa [.K a1.K] a3 a4 a5
def auP:fu ["self"] ["self"]<|dh<|hk 7:=∅
def afb:fu ["self","label"] ["self"]<|dh<|hk 15:=∅
def auQ[ci]:eD (fr aAw aAx) 4 aAz "begin_form" ["self"] aeV:=by
 show aCz.R aAT.K.K _ (ai:=aeW) λz H vs Q au e d _=>?_;let(a4,a5,a6):=HL.K
 induction d with
 |@mk t r an H A ai ah Q au x c T i U V=>
  let aD:=aeW.K;let a7:=lw e;show(_,ba (cw<|eX BF (ao 0) e g_<|ak gR aF)<|ba (ey 1 aD<|fS aeg (ao 0) e bm)<|ba (dF (lS<|aln (ao 1)<|tv a5) (a_<|cw<|eX BF (ao 0) e g_<|ak (ao 1) aF)<|a_<|ey 1 aD gR)
  <|ba (ey 2 aD<|eX GS (ao 0) e g_<|ak (ao 1) aF)<|ba (dF (nw ql (ao 1) gR aa) (a_<|sh a7 (bV (aAR.K,aAR.a2)<|bV aAT.R<|ao 0) (ao 2) (eP aF) aa) d_)
  <|ba (dF (lr.K<|Ai (nw ql (ao 1) gR aa)<|Ah<|nw ql (ao 1) gR aa) (a_<|Dl (fS aug (ao 0) e g_)<|Dk (bV aAT.a0<|ao 0) (ao 2) DA) d_)
  <|a_<|cw<|ox (bV aAT.S<|ao 0)<|ao 2,(x.K.X 0,.mk (w:=[40]) x (by rfl') (λq al a0 b=>?_) λj=>bB i<|j r));let a8:=by rw[i]at a0;show(ahu a0).2.symm
  subst a8;let g:t.drop (ai.K+1)=q:=by
   have:=dP (HR 1) i;rw[rW]at this;show this
  let a9:hu (.K ah) {ai with K:=ai.K+1}:=(c.X,c.R,c.K);show(b.K.X 0,.mk b ?_);let b:=b;change ls _ _ _ [Y<|.K A.K,Y<|.S<|et<|ec<|t.drop<|ai.K+1,M] _;rw[g];show(a4,wn,_,aa,aa,a6,_,aa,?_);change if(jv (et<|ec q) wn).isSome=J then _ else _;rw[adP];show dH (λh=>?_) λh=>?_
  .let b0:=qf.1 h;show(b.K.X 0,.mk b aa (λc2 aH c3 b1=>?_) λj=>bB (by change t.drop (ai.K+1)=_;rw[g,sy])<|j<|q.drop ↑(ec q));let b2:hu (.K ah) {ai with K:=ai.K+1+↑(ec q)}:=(c.X,c.R,c.K);let b3:t.drop (ai.K+1+↑(ec q))=q.drop ↑(ec q):=by rw[<- rW,g]
   show aeZ (rz:=oB q) b1 b2 T ?_ U λaU af l f m o p v=>V af l f m o p v;delta aeX oB tV;change(_/\_=(oA<|t.drop<|ai.K+1+↑(ec q)).map _)∨(_/\_=(oA<|t.drop<|ai.K+1+↑(ec q)).map _)∨∃f:cD,_/\_/\_/\_/\_/\_=Y (aZ f<|t.drop<|ai.K+1+↑(ec q));rw[b3];let d||d||d:=auK _ b0;.left;rw[bK d];show(by rw[d];decide+kernel,aa)
   .right;left;rw[be<|by rw[d];decide+kernel,bK d];show(by rw[d];decide+kernel,aa)
   .right;right;exists b4;let(f,a1):=CB.1 d;let(b5,b6,a2,a3,b7):=auH a1;show b4 (f,b5,b6,a2,a3,b7,?_);rw[be λz=>a2<|by rw[z];decide+kernel,be λz=>a3<|by rw[z];decide+kernel,a1]
  .let b8:ec q∉pR:=λz=>by rw[qf.2 z]at h;cases h
   show aeZ (rz:=oB q) b a9 T ?_ U λaU af l f m o p v=>V af l f m o p v;let(b9,c0,c1):=adF b8;show bl<|bl (.S,aa,aa,by rfl',by rfl',aa,?_);delta oB tV;rw[be b9,be c0,c1];change Y (aZ cD.S q)=Y (aZ .S<|t.drop<|ai.K+1);rw[g]
set_option tactic.hygienic true in
def afc[ci]:eD (fr aAw aAx) 6 aAz "begin" ["self"] GU:=by
 show aCy.R aAT.K.K _ (ai:=auP) λz H vs Q au h d _=>?_
 induction d with
 |@mk t an H A ai ah Q au x c p gF v T=>
  show(_,a_<|dF (ik<|eX aef (ao 0) h bm<|ak gR aF) (a_<|cw<|fS auQ (ao 0) h g_)<|a_<|cw<|fS auG (ao 0) h g_,(x.K.X 0,.mk (w:=[40]) x (by rfl')<|dH (λe=>?_) λe=>?_))
  .let(r,g):=Db.1 e;let g:t.drop ai.K=40::r:=g.symm;let hz:∀d:¬(↑(cj ah)=30∨8<↑ah),h_ ah (t.drop ai.K)=(oB r).map λq=>(.K<|(↑(cj ah),q.1,[])::ah,q.2):=λd=>by
    rw[g];delta h_;rw[be d];rfl
   show(x.K.X 0,.mk x c p g (λd=>v ?_) λaf i f j l m o=>T af i _ ?_ m o)
   .by_cases b:↑(cj ah)=30∨8<↑ah;.delta h_;rw[bK b]
    .rw[hz b,d.resolve_left b];rfl
   .rw[hz j,l];rfl
  .let hz:∀d:¬(↑(cj ah)=30∨8<↑ah),h_ ah (t.drop ai.K)=(mC (cB ah) ↑(cj ah)<|ec<|t.drop ai.K).map λx=>(kb ah x,(t.drop ai.K).drop ↑(ec<|t.drop ai.K)):=λd=>by
    delta h_;rw[be d];split;.rename_i r q;rw[q]at e;cases e
    .rfl
   show(x.K.X 0,.mk x c p gF (λd=>v ?_) λaf i y j l m U o=>T af i _ ?_ m o)
   .by_cases b:↑(cj ah)=30∨8<↑ah;.delta h_;rw[bK b]
    .rw[hz b,d.resolve_left b];rfl
   .rw[hz j,l,U,<- rW];rfl
set_option tactic.hygienic true in
def auR[ci]:eD (fr aAw aAx) 7 aAz "go_on" ["self"] afa:=by
 show aCH.R aAT.K.K _ (ai:=afb) λz H vs Q au m d _=>?_
 induction d with
 |@mk t an H A ai g ah Q au x c o v a3=>
  let aD:=afb.K;show(_,ba (ey 1 aD<|fT (bV aAT.S<|ao 0)<|Dm Dn cm)<|ba (dF (ik<|eX aew (ao 0) m bm<|ak (ao 1) aF) (ba (cw<|eX BF (ao 0) m g_<|ak gR aF)<|ba (cw<|Pc pf Td ahe Pe<|bV aAT.S<|ao 0)<|a_ UQ) d_)
  <|ba (dF (lr.K<|Ai (nw Vi (fT (bV (aAR.K,aAR.R)<|bV aAT.R<|ao 0)<|ao 1) gR aa)<|Ah<|uG (fT (bV (aAR.K,aAR.S)<|bV aAT.R<|ao 0)<|ao 1)<|λ_=>rfl) (a_<|cw<|eX BF (ao 0) m g_<|ak gR aF) d_)
  <|a_<|cw<|fS afc (ao 0) m g_,?_);let ea:ai.S=(ah.map eQ.K).reverse++[g.K]:=by rw[c.K];change(g.K::ah.map eQ.K).reverse=_;rw[uw]
  let a7:=x.K.R 2 aa;let T:ai.R[g.K]? =Y (g.R.X,g.S.map bi,M,M,eA ah,g.R.R):=by rw[c.S];show aez g ah o.1.K
  let(U,a8,a9):=GQ x.R T;show(.K A.S,x.K.S 0,1,aa,_,.R g.K,bZ a7,?_,?_);.change oj (fl ai.S) (-1)=_;rw[ea];delta fl;rw[cs];show Dz _ _
  let b0:bp (↑(g.S.map bi)=g.R.K)=bp (↑g.S=g.R.K):=by rw[aV]
  show(x.K.X 0,.mk (f:=g.R) x T aa ?_);change if bp (↑(g.S.map bi)=g.R.K)=J then _ else _;rw[b0];show dH (λh=>?_) λh=>?_
  .let h:=eH h;let hz:mc g ah (t.drop ai.K)=(tW 41<|t.drop ai.K).map λr=>(aZ (kb ah<|g.R.mk g.K g.S) r):=by delta mc;rw[bK h]
   show(x.K.X 0,.mk (w:=[41]) x (by rfl') (λq al l b=>?_) λa0 al a1=>v ?_ al a1)
   .let ag:=b.K.R 2 aa;show(.K A.S,b.K.S 0,ps ag,A.S,fl ai.S,.R g.K,aa,aa,ag,?_,?_);.rw[ea];delta fl;rw[cs,cW,pb<|by simp];simp
    .let a2:t.drop (ai.K+1)=q:=by
      have:=dP (HR 1) l;rw[rW]at this;show this
     show a3 _ {ai with K:=ai.K+1,S:=(ah.map eQ.K).reverse} (kb ah<|g.R.mk g.K g.S) ?_ (?_,b.R,b.X,b.a0,b.S,b.a1) (?_,?_,?_);.rw[hz,l];change Y (aZ _ q)=Y (aZ _<|t.drop<|ai.K+1);rw[a2]
     .let y:=b.K.a0 2 aa<|.K (fl ai.S).dropLast;let e:(fl ai.S).dropLast=fl (ah.map eQ.K).reverse:=by
       rw[ea];delta fl;rw[cs];show ayr
      rw[e]at y⊢;show y
     .change ai.R=_;rw[c.X,atr (aeU o.2) h];rfl
     .change ai.X=_;rw[c.R,ats h];rfl
     .rw[Sm]
   .rw[hz];delta tW;split;.rename_i B r q;rw[be λe=>a0 r<|by rw[q,e];rfl];rfl
    .rfl
  .let h:=hj h;let gF:rt<|g::ah:=λc0 b1=>by cases b1;show C' o.1.R h
   let a4:∀{al i},eU t an al A {ai with K:=i}->mc g ah (t.drop ai.K)=h_ (g::ah) (t.drop i)->(rZ<|vg aAz "begin" GU au<|fH 0) (Ae Q) [Y<|.K A.K,Y<|.R g.K] al:=λ{al i} b e=>by
    show(b.K.X 0,.mk b (c.X,c.R,c.K) o gF (λd=>v<|by rw[e];show d) λaf b2 z d b3 b4=>a3 af b2 z (by rw[e];show d) b3 b4)
   let b5:g.R.a1 ↑g.S=[]->mc g ah (t.drop ai.K)=h_ (g::ah) (t.drop ai.K):=λe=>by delta mc;rw[be h,e]
   let b6:g.R.a1 ↑g.S=[32]->mc g ah (t.drop ai.K)=(tW 32<|t.drop ai.K).bind (h_<|g::ah):=λe=>by delta mc;rw[be h,e]
   let a5:g.R.a1 ↑g.S=[32]->(rZ<|Bj aAz "skip" Sg au (fH 0)<|ii (gA<|.S " ") kl) ((Ae Q).S<|rZ<|vg aAz "begin" GU au<|fH 0) [Y<|.K A.K,Y<|.R g.K] H:=λaw=>by
    let a6:=b6 aw;show(x.K.X 0,.mk (w:=[32]) x (by rfl') (λq al l b=>a4 (i:=ai.K+1) b ?_) λa0 al a1=>v ?_ al a1)
    .let a2:t.drop (ai.K+1)=q:=by
      have:=dP (HR 1) l;rw[rW]at this;show this
     rw[a6,l,a2];rfl
    .rw[a6];change(tW 32<|t.drop ai.K).bind _=M;delta tW;split;.rename_i B r q;rw[be λe=>a0 r<|by rw[q,e];rfl];rfl
     .rfl
   let b7:H U=Y (.K<|fl<|g.S.map bi):=x.K.a1 (aZ U _)<|cG _<|dQ _<|gs a9;show(.K A.R,x.K.S 0,.K A.X,x.K.S 3,_,.S g.R.X,bZ<|x.K.R 4 aa,tU (λr:fx=>V.S r.K) T,aa,_,aa,dH (λab=>?_) λab=>(.K A.R,x.K.S 0,.K A.a2,x.K.S 3,_,.K U,bZ<|x.K.R 5 aa,tU V.K a8,_,aQ (_,bZ b7,aa),dH (λag=>?_) λag=>?_))
   .show a5 ?_;let ab:g.R.X≠"call":=λz=>by rw[show(!bp (V.S g.R.X=V.S "call"))=aX by rw[z];rfl]at ab;cases ab
    let e||e:=wG g.R ↑g.S
    .cases j:g.R with|S=>rw[j]at ab;show bB aa ab|_=>rw[j]at e;cases e
    .show e
   .show a5 ?_;let e||e:=wG g.R ↑g.S
    .cases p:g.S with
     |nil=>rw[p]at ag;cases ag
     |cons ae r=>
      rw[p]at e;cases j:g.R<;>rw[j]at e<;>cases e
    .show e
   .let b8:g.R=.S:=by
     let ab:g.R.X="call":=by
      have:bp (V.S g.R.X=V.S "call")=J:=‹ab›
      show V.S.inj<|eH this
     cases j:g.R with|S=>rfl|a0 y=>rw[j]at ab;show bB ab<|show("fun":E)≠"call" by decide|a3 y=>rw[j]at ab;show bB ab<|show("let":E)≠"call" by decide|_=>rw[j]at ab;show bB ab ⋯
    let b9:g.S=[]:=by
     cases p:g.S with|nil=>rfl|cons ae r=>rw[p]at ag;cases ag
    show a4 (i:=ai.K) x<|b5<|by rw[b8,b9];rfl
def Sr{B}(d:oH B=J):md B=J:=by delta md jq;rw[d];rfl
theorem afd:∀n e s,cU e<=n->ir (sx s) e=J->∀B∈hB e,md B=J
 |0,e,_,h,_=>bB (HT e)<|np.2 h
 |n+1,e,s,h,j=>by
  let (l,k,rfl)||(l,y,rfl)||(f,l,bb,ab,rfl,_,_):=RS e;.intro B b;have:=jS.1 (zv k<|eH j).2.2 B b;delta md jq;rw[this,ayH];rfl
  .show λB b=>Sr<|(uk ((fV _ _).mp j).1).2.1 B b
  .let(ga,p):=(RX ab s).mp j;rw[RW ab]at h;let q:∀i,∀B∈f.a1 i,md B=J:=λi B b=>by
    let e||e:=wG f i<;>rw[e]at b;.cases b
    .rw[dj.1 b];decide
   let v:∀B∈f.a4,md B=J:=λB b=>by
    let z||z:=du.1 b
    .have:f.b8.all oH=J:=by cases f<;>first|rfl|decide
     show Sr<|jS.1 this B z
    .cases m:f.R with
     |none=>rw[m]at z;cases z
     |some x=>
      rw[m]at z;let z||z:=cc.1 z;.rw[z];decide
      .show Sr<|(uk (ga x m).1).2.1 B z
   let w:∀g i,qD f l s i g->kX g<=n->∀B∈jD f i g,md B=J:=by
    intro g
    induction g with
    |nil=>show λ_ _ _ B b=>(by cases b)
    |cons ae g A=>
     intro i o aw B b;let aw:cU ae+kX g<=n:=aw;let z||z:=du.1 (b);.show q i B z
     let z||z:=du.1 z;.show afd n ae _ (by lia) o.1 B z
     .show A _ o.2 (by lia) B z
   rw[GA ab];intro B b;let z||z:=cc.1 b;.rw[z];decide
   let z||z:=du.1 z;.show v B z
   let z||z:=du.1 z;.show w bb 0 p (SF h) B z
   .rw[dj.1 z];decide
theorem auS{t}(d:nj t=Y e):t.all md=J:=by
 let(ab,rfl):=HZ.1 d;show jS.2<|afd _ e [] dw (Cx.1 ab).1
def afe{t}(d:nj t=Y e):cR e:=by
 let(ab,_):=HZ.1 d;let(_,ag,b,_):=Cx.1 ab;show(ag,b)
def Ss{ah r z}(d:h_ ah r=Y (z,b)):z≠.K []:=by
 delta h_ at d;split at d;.cases d
 .split at d;.let(_,_,ag):=e_.1 d;grind
  .let(x,_,ag):=e_.1 d;cases ag;cases ah<;>show(nomatch ·)
noncomputable def fv(H af:ap):ap:=λB=>match H B with|M=>af B|Y _=>M
theorem auT{B}(d:H B=M):fv H af B=af B:=by delta fv;rw[d]
def aff{aC}:∀{l:#[α]}{m:#[eB]},↑l=↑m->(∀(i:O) x y,l[i]? =Y x->m[i]? =Y y->aC x y)->eq aC l m:=by
 intro l
 induction l with
 |nil=>intro m d _;cases m with|nil=>show ed|cons=>cases d
 |cons x l b=>intro m d f;cases m with|nil=>cases d|cons y m=>show eS (f 0 x y aa aa)<|b (Hz d) λi=>f<|i+1
theorem eU.a7{t:dy}{A:ru}{ai:oC}(x:eU t an H A ai)(c:hu (.R e) ai)(aq:cR e){cT:ap}(a8:bA cT an):lZ (fv cT H) A.R<|dr e:=by
 let g:∀q∈qG A t ai++(qH ai.R ai.a0++t_ ai.X ai.os),fv cT H q.1=Y q.2:=λq m=>by rw[auT<|a8.S<|x.K.a2 q m];show x.K.a1 q m
 let b:∀{a o}(i:O),(qG A t ai)[i]? =Y (aZ a o)->fv cT H a=Y o:=λi d=>g (aZ _ _)<|dQ _<|gs d;rw[atp aq];let p:ai.R=hm [] M e:=c.X;let v:ai.X=gr [] e:=c.R;rw[<- p,<- v];show((A.X,A.a2,A.a3,A.a4,A.a5,A.a0,ai.a0,ai.os),(A.a7,(b 3 aa)),?_,b 5 aa,?_,?_,?_,?_,?_,?_);.change _=Y (bF.K<|(ai.R.map fx.K).map V.S);rw[b 4 aa,dX];rfl
 .change eq _ (ai.R.map λr=>cu r.R) ai.a0;show aff (by rw[aV,x.R]) λi l a ab ag=>?_;rw[cV]at ab;let(r,h,rfl):=e_.1 ab;let(w,f,j):=GQ x.R h;rw[ag]at f;cases f;have:=g _<|cG _<|dQ _<|gs j;rwa [dX ..]
 .change _=Y (bF.K<|(ai.R.map λr=>r.X.map λn:O=>(n:N)).map mx);rw[b 6 aa,dX];rfl
 .change _=Y (bF.K<|(ai.R.map λr=>r.a0.map λn:O=>(n:N)).map mx);rw[b 7 aa,dX];rfl
 .change _=Y (bF.K<|(ai.R.map λr=>r.a1.map λn:O=>(n:N)).map mx);rw[b 8 aa,dX];rfl
 .change fv cT H A.a0=Y (bF.a1 ((((ai.X.map λq=>(aZ ((q.1:Int))<|cu q.2)).map (·.1)).zip ai.os).map λe=>(aZ (eZ e.1)<|V.K e.2)));rw[b 9 aa,dX,agR,dX];change Y (bF.a1<|(me ai.X ai.os).map _)=_;delta me;rw[dX];rfl
 .change eq _ (ai.X.map λq=>(aZ ((q.1:Int))<|cu q.2)) ai.os;show aff (by rw[aV,x.X]) λi l a ab ag=>?_;rw[cV]at ab;let(r,h,rfl):=e_.1 ab;let(w,f,j,_):=aej x.X h;rw[ag]at f;cases f;have:=g _<|cG _<|cG _<|gs j;rwa [dX ..]
inductive afg:cq|mk{a1 b h a2 a3}:a1 b=M->a1 h=M->h≠b->(∀af k p n B d o,df a1 af [(o,.a1 []),(d,.K []),(B,.K []),(n,.K []),(p,.K []),(k,.K []),(b,.S aAC h<|Fv (.K k) (.K p) (.K n) (.K B) (.K d)<|.K o)]->a2 .a0 af)->afg [.K b] (a' (a' a1 h<|.a2 b) b<|.S aAC h []) a2 a3
inductive afh:cq|mk{t:dy}{h b a1 a2 a3}:↑t<=2000->t.all md=J->h b=M->h a1=M->a1≠b->(∀af A,A.K=b->eU t h af A (0,[],[],[],[],[])->a2 .a0 af)->afh [.K b,.S<|et t] (a' (a' h a1<|.a2 b) b<|.S aAz a1 []) a2 a3
inductive afi:cq|mk{t:dy}{b h a1 a2}:b h=Y (.K<|t.map λB=>V.R (B.toNat:Nat))->↑t<=2000->(∀e p af,nj t=Y e->bA b af->lZ (fv b af) p (dr e)->a1 (.K p) af)->(nj t=M->∀af,bA b af->a2 (I cN) M af)->afi [.K h] b a1 a2
def auU:fu ["self"] ["self"]<|dh<|jk (cr 62) 0:=∅
def auV:fu ["self","signs"] ["self","signs"]<|dh<|hk 0:=∅
def auW[ci]:qt bH 1 aAC "Program" ["self"] afg:=by
 show aCP.K _ (ai:=auU) λz H vs Q au U d _=>?_
 induction d with
 |@mk H x aG _ _ ab ag j l=>
  show(_,ba (ib (aAR.K,aAR.R) (ao 0)<|eP aF)<|ba (ib (aAR.K,aAR.S) (ao 0)<|eP aF)<|ba (ib (aAR.K,aAR.a0) (ao 0)<|eP aF)<|ba (ib (aAR.K,aAR.X) (ao 0)<|eP aF)<|ba (ib (aAR.K,aAR.a1) (ao 0)<|eP aF)<|a_<|ib (aAR.K,aAR.a2) (ao 0) yr,(kT,λk m=>?_));let b:=(df.a6 ab ag j).a3 m<|.K [];show(aG,_,b.R 1 aa,(⋯:0<1000),kT,λp q=>?_);let e:=(b.a0 1 aa<|.S aAC aG [("kinds",.K k)]).a3 q<|.K [];show(aG,_,e.R 2 aa,(⋯:1<1000),kT,λn v=>?_);let f:=(e.a0 2 aa<|.S aAC aG [("kinds",.K k),("parts",.K p)]).a3 v<|.K [];show(aG,_,f.R 3 aa,(⋯:2<1000),kT,λB w=>?_);let g:=(f.a0 3 aa<|.S aAC aG [("kinds",.K k),("parts",.K p),("numbers",.K n)]).a3 w<|.K [];show(aG,_,g.R 4 aa,(⋯:3<1000),kT,λd A=>?_);let h:=(g.a0 4 aa<|.S aAC aG [("kinds",.K k),("parts",.K p),("numbers",.K n),("binders",.K B)]).a3 A<|.K [];show(aG,_,h.R 5 aa,(⋯:4<1000),λo T=>?_);let i:=(h.a0 5 aa<|.S aAC aG [("kinds",.K k),("parts",.K p),("numbers",.K n),("binders",.K B),("homes",.K d)]).a3 T<|.a1 [];show(aG,_,i.R 6 aa,(⋯:5<1000),l _ k p n B d o<|i.a0 6 aa<|.S aAC aG<|Fv (.K k) (.K p) (.K n) (.K B) (.K d)<|.K o)
def auX[ci]:qt bH 3 aAz "Reader" ["self","signs"] afh:=by
 show aCU.K _ (ai:=auV) λz H vs Q au l d _=>?_
 induction d with
 |@mk t H x aG _ _ m q ab ag v w=>
  show(_,ba (ib aAT.K (ao 0)<|ao 1)<|ba (ib aAT.X (ao 0) cm)<|ba (ib aAT.R (ao 0)<|aaw auW l bm)<|ba (ib aAT.a0 (ao 0)<|eP aF)<|a_<|ib aAT.S (ao 0)<|eP aF,?_);let y:=df.a6 (ar:=aAz) ab ag v;let e:=y.a0 0 aa<|.S aAz aG [(aZ "signs"<|.S<|et t)];show(aG,_,y.R 0 aa,(⋯:0<1000),aG,_,e.R 0 aa,(⋯:1<1000),λp A T U V=>.mk T U V λa3 k f n B d o a0=>(aa,?_));let g:=(e.a0 0 aa<|.S aAz aG [(aZ "signs"<|.S<|et t),(aZ "place"<|.R 0)]).b1 a0;show(aG,_,g.R 7 aa,(⋯:2<1000),kT,λb a1=>?_);let h:=(g.a0 7 aa<|.S aAz aG [(aZ "signs"<|.S<|et t),(aZ "place"<|.R 0),(aZ "program"<|.K p)]).a3 a1<|.K [];show(aG,_,h.R 8 aa,(⋯:3<1000),kT,λi a2=>?_);let j:=(h.a0 8 aa<|.S aAz aG [(aZ "signs"<|.S<|et t),(aZ "place"<|.R 0),(aZ "program"<|.K p),(aZ "names"<|.K b)]).a3 a2<|.K [];show(aG,_,j.R 9 aa,(⋯:4<1000),w _ (x,aG,p,A,b,i,k,f,n,B,d,o) aa ((j.a0 9 aa<|.S aAz aG [(aZ "signs"<|.S<|et t),(aZ "place"<|.R 0),(aZ "program"<|.K p),(aZ "names"<|.K b),(aZ "around"<|.K i)]).a5<|(uv (l₁:=[_,_])).trans<|HB _<|(uv (l₁:=[_])).trans<|HB _<|(ahw).trans<|(azb [(aZ o _),(aZ d _),(aZ B _),(aZ n _),(aZ f _),(aZ k _),(aZ p _)]).append_right _,aa,aa,ex _,m,q))
def afj[ci]:cX (fr aAw aAx) 8 "read_program" ["text"] afi:=by
 show aFf.S ["text","reader"] λz H vs Q au l d aD=>?_
 induction d with
 |@mk t H a _ _ b0 a4 b1 o=>
  show(_,ba (ey 1 aD<|yF auX l bm<|ak (dT atV l g_<|ak (ao 0) aF) aF)<|ba (cw<|fS afc (ao 1) l g_)<|ba (x_ xR (uG (bV aAT.S<|ao 1)<|λ_=>rfl)<|a_<|cw<|fS auR (ao 1) l g_)
  <|ba (dF (jm ack (bV aAT.X<|ao 1)<|mW ym aa aAV aa<|ak (bV aAT.K<|ao 1) aF) (a_<|tq to aa aa jL.1 jL.2) d_)<|a_<|cy<|bV aAT.R<|ao 1,.mk b0 a4 (λp al j r c7 ab ag b2=>.mk a4 p ab ag b2 λaH A b3 x=>(aa,?_)) λp al j=>o ?_ al j)
  .subst b3;show(x.K.X 0,.mk (ah:=[]) x (aa,aa,aa) lG (λ_ d=>nomatch d) (λhz a5 a0=>o (aut hz) a5<|j.K a0) λa5 v z hz b4 b5=>?_);let hz:h_ [] t=Y (z,t.drop v.K):=hz;show(λm D af=>D=[Y<|.K a,Y<|.K A.K]/\∃ai b,eU t al af A ai/\hu b ai/\wF b/\b≠.K []/\kr (z,t.drop v.K) (b,t.drop ai.K)/\m=↑(t.drop ai.K),(_,aa,v,z,b4,b5,(GD (ah:=[]) lG (λ_ d=>nomatch d) hz).1,Ss hz,.K _,aa),?_);rintro m D a6 ⟨rfl,w,a7,f,T,a1,a8,a2,rfl⟩;show(.K A.S,f.K.S 0,_,aQ (_,bZ<|f.K.R 2 aa,aa),dH (λa3=>?_) λa3=>?_)
   .cases a7 with
    |R e=>show bB (a3)<|by rw[T.K];change¬(!([]:#[V]).isEmpty)=J;decide
    |K ah=>
    cases ah with
    |nil=>show bB aa a8
    |cons g ah=>
    show(λaU af=>aU=[Y<|.K a,Y<|.K A.K]/\∃ai b,eU t al af A ai/\hu b ai/\wF b/\b≠.K []/\kr (z,t.drop v.K) (b,t.drop ai.K)/\↑(t.drop ai.K)<↑(t.drop w.K),λaU af z=>by let(aB,ai,b,b6,b7,b8,b9,c0,c1):=z;show(_,c1,aB,ai,b,b6,b7,b8,b9,c0,aa),(f.K.X 0,.mk f T a1 (λc2 a9 a0=>o (auu hz a2 c2) a9<|j.K a0) λa9 c3 c4 h c5 c6=>(aa,c3,c4,c5,c6,(adD a1 h).1,(by
      delta mc at h;split at h;.let(_,_,ag):=e_.1 h;cases ag;cases ah<;>show(nomatch ·)
      .split at h;.show Ss h
       .let(_,_,ag):=xS.1 h;show Ss ag),a2.R<|.step h<|.K _,aus a1 h)))
   .cases a7 with
    |K ah=>
     cases ah with|nil=>show bB aa a8|cons g ah=>show bB (a3)<|by rw[T.K];change(!(fl<|(g.K::ah.map eQ.K).reverse).isEmpty)≠aX;rw[uw];delta fl;rw[cs];simp
    |R e=>
    let U:=auv hz a2;let aw:=kc t;show(.R w.K,f.K.S 0,.S<|et t,f.K.S 0,_,aa,by rw[aw];show j'<|by lia,dH (λi=>?_) λi=>?_);.show o ?_ a6<|j.K f.K.K;rw[U,be];intro z;have:=dP mR z;rw[sV]at this;let i:(!bp (((w.K:O):N)=((et t).length:O)))=J:=i;rw[aw,hp<|by have:=f.a0;simp only[List.length_nil]at*;lia]at i;cases i
    .let i:=i;let c8:=by
      have:bp (((w.K:O):N)=((et t).length:O))=J:=‹i›
      have:=eH this;omega
     rw[bK<|azc<|by omega]at U;show(.K A.R,f.K.S 0,b1 e A.R a6 U (j.K f.K.K)<|f.a7 T (afe U) j)
  .cases q:nj t with|none=>rfl|some e=>rw[auS q]at p;cases p
set_option tactic.hygienic true in
def afk{B o}(d:fv H af B=Y o):H B=M/\af B=Y o:=by
 delta fv at d;split at d;.rename_i q;show(q,d)
 .cases d
inductive afl:cq|mk{a3 a8 b a4 h a5 a1 a6}{p:L}{g:L}{a2}{dc:#[N×V]}{a7 a9}:fd a3 a8 a4 h a5 a1 a6 p g dc->cR b->lZ h a2 (dr b)->(∀af b0,fd a3 b a4 h af a1 a6 a2 b0 []->a7 .a0 af)->afl [.K a1,.K a2] a5 a7 a9
inductive Su(ask:pZ)(a3:ap->#[V]->Prop):cq|mk{a4 b h a1 a5 a2 a6}{p:L}{g:L}{dc:#[N×V]}{a7 a8 a9}:fd a4 b h a1 a5 a2 a6 p g dc->a3 a1 a7->(∀en af b0 b1 b2 l,bA a1 en->fd a4 (p' (b,h) ask).1.prog (p' (b,h) ask).1.most en af a2 a6 b0 b1 b2->a1 l=M->en l=Y (.K<|(fw<|hh (b,h) ask).map V.R)->a8 (.K l) af)->Su ask a3 (.K a2::a7) a5 a8 a9
noncomputable def auZ(t:dy):#[V]:=t.map λB=>V.R (B.toNat:Nat)
def afm:cq:=λvs H Q au=>∃t,Su (xm t) (λan vs=>∃a,vs=[.K a]/\an a=Y (.K<|auZ t)/\↑t<=2000) vs H Q au
def afn:cq:=λvs H Q au=>∃z,Su (Cu z) (λ_ vs=>vs=[.R z]) vs H Q au
inductive afo:cq|mk{a1 b h a2 a3}:a1 b=M->a1 h=M->h≠b->(∀en af p g,bA a1 en->fd [] (jK 0 0) 1 en af b h p g []->en b=M->a2 .a0 af)->afo [.K b] (a' (a' a1 h<|.a2 b) b<|.S aAD h []) a2 a3
def ava:fu ["self","program"] ["self","program"]<|dh<|uW 1:=∅
def avb:fu ["self"] ["self"]<|dh<|uW 0:=∅
def avc[ci]:eD bH 1 aAD "change_program" ["self","program"] afl:=by
 show aCm.K aAW.K.K _ (ai:=ava) λz H vs Q aW o d _=>?_
 induction d with
 |@mk aC e q k an H s aG p g b dc _ _ x i j l=>
  show(_,ba (ib aAW.K (ao 0)<|ao 1)<|a_<|ib aAW.S (ao 0) yr,(aG,_,x.K.R 0 aa,(⋯:3<1000),λf m=>?_));let h:=(x.K.a0 0 aa<|.S aAD aG<|qA b g k).a3 m<|.a1 [];show(aG,_,h.R 1 aa,(⋯:3<1000),l _ f (i,x.X,(((h.a0 1 aa<|.S aAD aG<|qA b f k)).a9<|((ahp aC).cons _).cons₂ _|>.cons₂ _).a5<|vC _ _ _,x.a2,j,(λn y d=>(by cases d)),(ex _,lP,λ_ d=>(by cases d))))
def avd[ci]:cX bH 1 "answer_strings" ["subject","most"] afn:=by
 show aFh.K ["subject","most","before"] λz H vs Q aW q d aD=>?_;let(z,d):=d
 induction d with
 |@mk aC e k an H s aG p g dc _ _ _ x j b=>
  subst j;show(_,ba (dF (nt<|KQ ti ti cm (ao 1)<|cH aBc) (a_<|cy<|eP<|ak (cH HJ) aF) d_)<|ba (ey 2 aD<|bV aAW.R<|ao 0)<|ba (ib aAW.R (ao 0)<|ao 1)<|a_<|cy<|eP<|ak (ao 2) aF,?_);let m:hh (e,k) (Cu z)=if z<0∨(2:N)<z then pU 2 else mm ((e,z.toNat),[k]):=aa;delta p' at b;rw[m]at b;show RR aa (λo=>?_) λo=>?_;.rw[bK<|by omega]at b;show(hZ,λl f=>?_);let(h,y):=x.a4 f (bF.K [V.R<|-2]);show b _ _ _ _ _ l h y (x.K.K.S f)<|by rw[bG];rfl
  .rw[be<|by omega]at b;obtain⟨n,rfl⟩:∃n:O,z=n:=(z.toNat,by lia);show(.R k,x.K.S 0,aG,_,x.K.R 0 aa,(⋯:3<1000),hZ,λl f=>?_);let i:fd aC e n an (a' H s<|.S aAD aG<|qA p g n) s aG p g dc:=(x.R,by lia,(x.K.a0 0 aa<|.S aAD aG<|qA p g n),x.a2,x.S,x.a1,x.a0);let(h,y):=i.a4 f (bF.K [V.R k]);show b _ _ _ _ _ l h (by rwa [pd]) (i.K.K.S f)<|by rw[bG];rfl
def ave[ci]:qt (fr aAw aAx) 9 aAD "Subject" ["self"] afo:=by
 show aCS.X _ (ai:=avb) λz H vs Q aW V d _=>?_
 induction d with
 |@mk H x aG _ _ ab ag a0 a1=>
  show(_,ba (ib aAW.K (ao 0)<|dT afj V g_<|ak (eP<|ak (mW Vm aa O_ aa<|ak gR aF) aF) aF)<|ba (ib aAW.R (ao 0) cm)<|a_<|ib aAW.S (ao 0) yr,?_);let y:=df.a6 (ar:=aAD) ab ag a0;show("0",aa,aa,hZ,λa a2=>?_);let i:nj [48]=Y (jK 0 0):=by rfl'
  let j:=cf (o:=.K [.R 48]) a2;show .mk (t:=[48]) bG ⋯ (λe p af f a3 a4=>?_) λf=>?_
  .rw[i]at f;cases f;let l:=y.a8<|j.K a3;let m:=l.a0 0 aa<|.S aAD aG [("program",.K p)];show(aG,_,l.R 0 aa,(⋯:0<1000),aG,_,m.R 0 aa,(⋯:1<1000),λg v=>?_);let w:=(m.a0 0 aa<|.S aAD aG [("program",.K p),("most",.R 1)]).a3 v<|.a1 [];show(aG,_,w.R 1 aa,(⋯:2<1000),?_);let(A,a5,a6):=((w.a0 1 aa<|.S aAD aG<|qA p g 1).a5<|vC _ _ _).a7 λ_ _ d=>d;show a1 _ _ p g a5 ((aa,⋯),⋯,A,(λ_ d=>(by cases d)),a4.K λB o h=>?_,(λn y d=>(by cases d)),(ex _,lP,λ_ d=>(by cases d)))<|A.a2 (x,_)<|cp _;let(T,h):=afk h;let b:B≠x:=λz=>by
    let d:=j _ _<|y.R 0 aa;rw[z]at T;have:=T.symm.trans d;cases this
   let U:B≠g:=λz=>by
    have:=v;rw[<- z,bS b,bS b,h]at this;cases this
   rw[nb λz=>?_];.rwa [bS b,bS U,bS b,bS b]
   .let q||q:=cc.1 z;.show b q
    .show U<|dj.1 q
  .rw[i]at f;cases f
set_option tactic.hygienic true in
def avf[ci]:cX bH 9 "answer_program" ["subject","text"] afm:=by
 show aFg.K ["subject","text","program"] (λz H vs Q aW U d aD=>?_) (hx:=λvs H Q au d=>by let(t,d):=d;cases d;rename_i d _ _;let(a,rfl,_):=d;rfl);let(t,d):=d
 induction d with
 |@mk aC e k an H s aG p g dc _ _ _ x a4 f=>
  let(a,rfl,a5,b):=a4;let a6:∀a7 a8 a9 b0 b1,tr (iy bH ["subject","text","program"] "answer_program" (dh<|cr 104) z H aW).b1 [Tk (Y<|ge "NotAProgram" a7) M [Hi (Y<|.List [ge "NO_PROGRAM" a8] a9) b0] b1] [(cN,r_<|yg<|ii (gA<|.R<|-1) kl)]:=
   λ_ _ _ _ _=>.K aa jL.1 jL.2 ⋯ (λ_=>a_<|cy<|eP<|ak (cH aBF) aF) .R;show(_,ba (Xa λam b5=>(a_<|ey 2 aD<|dT afj U (PH (a6 _ _ _ _ _) aa aa)<|ak (ao 1) aF))<|ba (cw<|eX avc (ao 0) U bm<|ak (ao 2) aF)<|a_<|cy<|eP<|ak (na aAV<|bV (aAR.K,aAR.R)<|ao 2) aF,?_);let a0:∀o,nj t=o->hh (e,k) (xm t)=kB o 1 λe=>mm ((e,k),[↑(dC e)]):=λo b2=>by rw[<- b2];rfl
  delta p' at f;show .mk (x.K.K _ _ a5) b (λh b6 al m q b3=>?_) λm al q=>(cN,aa,?_)
  .rw[a0 _ m]at f;let(aH,i,j,a1):=x.a3 q;let a2:=b3.K λB o v=>by
    let(b4,v):=afk v;show a1 B o b4 v
   show(j.K.X 0,.mk j (afe m) a2 λb7 b8 w=>?_);let(ax,a3):=a2.K w.K.K;show(.K ax.K,(_,a3.R,aa),_,bZ a3.S,hZ,λl b=>?_);let aB:(↑((dr h).R.map V.S):N)=(↑(dC h):O):=by
    rw[aV];change(↑((bR h).map _):N)=(↑((bR h).map _):N);rw[aV,aV]
   rw[aB];let(A,T):=w.a4 b (bF.K [V.R (↑(dC h):O)]);show f _ _ _ _ _ l (i.K A) T ((i.K w.K.K).S b)<|by rw[bG];rfl
  .rw[a0 _ m]at f;unfold ts;rw[bK aa];let(aH,i,j,a1):=x.a3 q;show(hZ,λl b=>?_);let(A,T):=j.a4 b (bF.K [V.R<|-1]);show f _ _ _ _ _ l (i.K A) T ((i.K j.K.K).S b)<|by rw[bG];rfl
inductive mD:#[N]->pZ->#[N]->Prop|K(t:dy)(r:#[N]):↑t<=2000->mD (0::(↑t:O)::((t.map λB=>((B.toNat:Nat):N))++r)) (xm t) r|R(k:N)(r:#[N]):mD (1::k::r) (Cu k) r|S(r:#[N]):mD (2::r) .facts r|X(l:N)(r:#[N]):mD (3::l::r) (TW l) r|a0(l:N)(c r:#[N]):↑c<=4->mD (4::l::(↑c:O)::(c++r)) (.at_ l c) r|a1(r:#[N]):mD (5::r) .arrows r|a2(l:N)(r:#[N]):mD (6::l::r) (HK l) r|a3(r:#[N]):mD (7::r) T' r|a4(k:N)(r:#[N]):mD (8::k::r) (T_ k) r|a5(r:#[N]):mD (9::r) .dead r|a6(i:N)(r:#[N]):mD (10::i::r) (Ua i) r|a7(l:N)(r:#[N]):mD (11::l::r) (HG l) r|a8(r:#[N]):mD (12::r) .size r
def nD{A:Type}{s:State}{o:bs A}{n:O}{f:A->Out_}(d:∀a x,f a=mm x->x.1=s):∀x,kB o n f=mm x->x.1=s:=by
 cases o with|none=>show λx q=>(by cases q)|some a=>show d a
def GV{s l f}(d:∀a x,f a=mm x->x.1=s):∀x,nZ s l f=mm x->x.1=s:=λx q=>by
 delta nZ at q;split at q;.cases q
 .show nD d x q
def rx{s l}:∀x,p_ s l=mm x->x.1=s:=λx q=>by cases q;rfl
theorem Sv(s:State)(a:pZ)(d:(∀t,a≠xm t)/\∀k,a≠Cu k):(p' s a).1=s:=by
 show((λd=>by
   delta p'
   cases q:hh s a with|error n=>rfl|ok x=>show d x q)<|λx q=>?_)
 cases a with
 |program t=>show bB aa<|d.1 t
 |strings k=>show bB aa<|d.2 k
 |facts=>show nD (λ_=>rx) x q
 |values l=>show GV (λ_=>nD λ_=>rx) x q
 |at_ l c=>show GV (λ_=>nD λ_=>nD λ_=>rx) x q
 |arrows=>show nD (λ_=>rx) x q
 |bodies l=>
  show GV (λy z q=>?_) x q;split at q;.cases q
  .show nD (λ_=>rx) z q
 |ladder=>show nD (λ_=>nD λ_=>nD λ_=>rx) x q
 |parts k=>
  let q:(if k<1∨(2:N)<k then(pU 2:Out_)else _)=_:=q;split at q;.cases q
  .show nD (λ_=>nD λ_=>rx) x q
 |dead=>show nD (λ_=>rx) x q
 |check i=>
  let q:(if i<0∨(10:N)<=i then(pU 2:Out_)else _)=_:=q;split at q;.cases q
  .show nD (λ_=>rx) x q
 |name l=>
  show GV (λy z q=>?_) x q;cases y<;>first|(cases q;done)|show nD (λ_=>rx) z q
 |size=>show rx x q
section
variable{aC:#[L×bF]}{k:O}{s aG p g c ip n:L}{dc:#[N×V]}{i j:O}{xs:#[V]}
theorem fd.a7(x:fd ((c,iD ip n i)::aC) e k an H s aG p g dc)(y:df (lD H [c]) af [(c,iD ip n j)]):fd ((c,iD ip n j)::aC) e k an af s aG p g dc:=
 (x.R,x.X,x.K.b3 2 y aa,λq b=>(cc.1 b).elim (λz=>by simp_all) λz=>x.a2 q<|eo _ z,x.S,x.a1,x.a0)
theorem fd.a5(x:fd ((c,iD ip n i)::aC) e k an H s aG p g dc)(d:fa aAv an n xs):fa aAv (lD H [c]) n xs:=by
 show bA.X (λB o b=>?_) d;rw[nb λz=>?_];.show x.K.K _ _ b
 .rw[dj.1 z,x.K.a2 (c,_)<|eo _<|eo _<|cp _]at b;cases b
def fd.a8{r o}(x:fd ((c,iD ip n i)::aC) e k an H s aG p g dc)(y:df (lD H [c]) af [(r,o),(c,iD ip n j)]):∃al,bA an al/\fd ((c,iD ip n j)::aC) e k al af s aG p g dc/\al r=Y o:=by
 let b:=x.a7<|y.a9<|(ahp _).cons _;let(l,f,U):=b.K.a7 λ_ _ d=>d;show(_,f,(b.R,b.X,l,b.a2,b.S.K f,λn y d=>?_,b.a0),?_);.let(m,t,aB,v,w):=b.a1 n y d;show(m,t,aB,v,w.K f)
 .rw[nb λz=>?_];.show y.R 0 aa
  .let h:=y.a2 (r,o)<|cp _;let A:r≠c:=λq=>(f_.1 y.a4).1 (by rw[q];show(cp _));rw[nb<|‹A›]at h;have:r>((s,bF.S aAD aG<|qA p g k)::(g,hX.K dc)::(c,iD ip n i)::aC).map (·.1):=z;let(q,T,e):=bx.1 this;have:=x.K.a1 q T;rw[e,h]at this;cases this
end
inductive Sw:cq
 |mk{aC:#[L×bF]}{e:aW}{k:O}{an H:ap}{s aG p g c ip n:L}{dc:#[N×V]}{co:#[N]}{i:O}{ask:pZ}{hS:#[N]}{Q:ca}{au:fQ}:fd ((c,iD ip n i)::aC) e k an H s aG p g dc->fa aAv an n (co.map V.R)->mD (co.drop i) ask hS->
  (∀en af b h a1 l j,bA an en->co.drop j=hS->i<j->j<=↑co->fd ((c,iD ip n j)::aC) (p' (e,k) ask).1.prog (p' (e,k) ask).1.most en af s aG b h a1->en l=Y (.K<|(fw<|hh (e,k) ask).map V.R)->Q (.K l) af)->Sw [.K s,.K c] H Q au
structure avg:Prop where
 K:eD bH 1 aAH "take" ["self"] Gd
 R:eD bH 2 aAH "take_row" ["self"] Rc
 S:cX bH 9 "answer_program" ["subject","text"] afm
 X:cX bH 1 "answer_strings" ["subject","most"] afn
 a0:cX bH 17 "answer_facts" ["subject"]<|oz .facts λ_ vs=>vs=[]
 a1:cX bH 17 "answer_values" ["subject","label"]<|rr TW
 a2:cX bH 17 "answer_at" ["subject","label","string"] adl
 a3:cX bH 17 "answer_arrows" ["subject"]<|oz .arrows λ_ vs=>vs=[]
 a4:cX bH 17 "answer_bodies" ["subject","label"]<|rr HK
 a5:cX bH 17 "answer_ladder" ["subject"]<|oz T' λ_ vs=>vs=[]
 a6:cX bH 17 "answer_parts" ["subject","most"]<|rr T_
 a7:cX bH 17 "answer_dead" ["subject"]<|oz .dead λ_ vs=>vs=[]
 a8:cX bH 17 "answer_check" ["subject","given"]<|rr Ua
 a9:cX bH 17 "answer_name" ["subject","label"]<|rr HG
 b0:cX bH 17 "answer_size" ["subject"]<|oz .size λ_ vs=>vs=[]
def qK{i t aj}(aw:dU D 2=Y (.R i))(a:t (aj.S nf) D H):ls (nu (Bo (λi j=>bp<|i=j) (fH 2)<|gA<|.R i) t ph) nf aj D H:=by
 delta ls nu Bo fH gA UR;simp_all
theorem bU{i j t}(aw:dU D 2=Y (.R i))(a:nf aj D H)(d:autoParam (bp (i=j)=aX) r_1):ls (nu (Bo (λi j=>bp<|i=j) (fH 2)<|gA<|.R j) t ph) nf aj D H:=by
 delta ls nu Bo fH gA;rw[aw];dsimp only;rw[d];show rk a
def oD{t i D}(d:t D H λx al=>nf aj (D.set i<|Y x) al):ls (sa t<|r' i) nf aj D H:=d
def jF{l r:#[N]}{i:O}{z:N}(d:l.drop i=z::r):l[i]? =Y z/\l.drop (i+1)=r/\i+1<=↑l:=by
 show(?_,?_,?_);.have:=ayR (xs:=l) (i:=i) (j:=0);rw[d]at this;show this.symm
 .have:=dP (HR 1) d;rw[rW]at this;show this
 .have:=dP mR d;grind
def jG[ci]:avg:=(ace,aqy,avf,avd,asp,asu,asT,asr,asF,ate,asV,asz,atf,asx,asA)
def avh[ci]:cX bH 18 "answer_next" ["subject","cursor"] Sw:=by
 show aFv.K ["subject","cursor","call","label"] λz H vs Q aW q d aD=>?_
 induction d with
 |@mk aC e k an H s aG p g c ip n dc co i ask hS Q au x a4 b1 U=>
  show(_,ba (ey 2 aD<|fS jG.K (ao 1) q bm)
  <|ba (dF (jm mb (ao 2) cm) (a_<|cy<|dT jG.S q bm<|ak (ao 0)<|ak (fS jG.R (ao 1) q bm) aF) d_)
  <|ba (dF (jm mb (ao 2) cm) (a_<|cy<|dT jG.X q bm<|ak (ao 0)<|ak (fS jG.K (ao 1) q bm) aF) d_)
  <|ba (dF (jm mb (ao 2) cm) (a_<|cy<|dT jG.a0 q bm<|ak (ao 0) aF) d_)
  <|ba (dF (jm mb (ao 2) cm) (a_<|cy<|dT jG.a1 q bm<|ak (ao 0)<|ak (fS jG.K (ao 1) q bm) aF) d_)
  <|ba (dF (jm mb (ao 2) cm) (ba (ey 3 aD<|fS jG.K (ao 1) q bm)<|a_<|cy<|dT jG.a2 q bm<|ak (ao 0)<|ak (ao 3)<|ak (fS jG.R (ao 1) q bm) aF) d_)
  <|ba (dF (jm mb (ao 2) cm) (a_<|cy<|dT jG.a3 q bm<|ak (ao 0) aF) d_)
  <|ba (dF (jm mb (ao 2) cm) (a_<|cy<|dT jG.a4 q bm<|ak (ao 0)<|ak (fS jG.K (ao 1) q bm) aF) d_)
  <|ba (dF (jm mb (ao 2) cm) (a_<|cy<|dT jG.a5 q bm<|ak (ao 0) aF) d_)
  <|ba (dF (jm mb (ao 2) cm) (a_<|cy<|dT jG.a6 q bm<|ak (ao 0)<|ak (fS jG.K (ao 1) q bm) aF) d_)
  <|ba (dF (jm mb (ao 2) cm) (a_<|cy<|dT jG.a7 q bm<|ak (ao 0) aF) d_)
  <|ba (dF (jm mb (ao 2) cm) (a_<|cy<|dT jG.a8 q bm<|ak (ao 0)<|ak (fS jG.K (ao 1) q bm) aF) d_)
  <|ba (dF (jm mb (ao 2) cm) (a_<|cy<|dT jG.a9 q bm<|ak (ao 0)<|ak (fS jG.K (ao 1) q bm) aF) d_)
  <|a_<|cy<|dT jG.b0 q bm<|ak (ao 0) aF,?_);let ee:∀{al:ap}{j:O}{z:N}{r:#[N]}{ax:ca}{au:fQ},fd ((c,iD ip n j)::aC) e k an al s aG p g dc->co.drop j=z::r->(∀aH,fd ((c,iD ip n<|j+1)::aC) e k an aH s aG p g dc->ax (.R z) aH)->Rb aAH "take" Gd au ax c al:=λ{al j z r ax au} h b f=>
   (h.K.X 2,.mk (h.K.b0 2) (h.a5 a4) (jF b).1 λaH y=>f aH<|h.a7 y);let V:∀{al:ap}{j:O}{a:pZ},(∀t,a≠xm t)/\(∀z,a≠Cu z)->ask=a->fd ((c,iD ip n j)::aC) e k an al s aG p g dc->co.drop j=hS->i<j->j<=↑co->oz a (λ_ vs=>vs=[]) [.K s] al Q qp:=λ{al j a} aw a2 h b ab ag=>by
   subst a2;show .mk h aa λen af w l A y _ T=>U en af p g w l j A b ab ag (by rw[Sv _ _ aw];show y) T
  let a0:∀{al:ap}{j:O}{f:N->pZ}{z:N},(∀t,f z≠xm t)/\(∀y,f z≠Cu y)->ask=f z->fd ((c,iD ip n j)::aC) e k an al s aG p g dc->co.drop j=hS->i<j->j<=↑co->rr f [.K s,.R z] al Q qp:=λ{al j f z} aw a2 h b ab ag=>by
   show(z,.mk h aa λen af w l A y _ T=>U en af p g w l j A b ab ag (by rw[a2,Sv _ _ aw];show y)<|by rw[a2];show T)
  generalize m:co.drop i=c0 at b1
  cases b1 with
  |K t r T=>
   exists b4;let b:=jF m;let o:=jF b.2.1;let a5:↑(t.map λB=>((B.toNat:Nat):N))=↑t:=aV _;let a6:(co.drop<|i+1+1).take ↑t=t.map λB=>((B.toNat:Nat):N):=by rw[o.2.1,<- a5,ahv]
   let a7:co.drop (i+1+1+↑t)=hS:=by rw[<- rW,o.2.1,<- a5,aht]
   let a1:i+1+1+↑t<=↑co:=by
    have:=dP mR o.2.1;rw[sV,cW,a5]at this;omega
   show b4<|oD<|ee x m λal h=>qK aa (h.K.X 2,.mk (h.K.b0 2) (h.a5 a4) o.1 a1 λaH r y=>?_);let(b5,b6,b7,b2):=h.a8 y;rw[a6,dX]at b2;show(t,.mk b7 (r,aa,b2,T) λen af a8 a9 w l A z _ b0=>U en af a8 a9 w l _ (b6.K A) a7 (by omega) a1 z b0)
  |R z r=>
   let b:=jF m;let o:=jF b.2.1;show oD<|ee x m λal h=>bU aa<|qK aa<|ee h b.2.1 λaH v=>(z,.mk v aa λen af a8 a9 w l A y _ T=>U en af a8 a9 w l _ A o.2.1 (by omega) o.2.2 y T)
  |S r=>
   let b:=jF m;show oD<|ee x m λal h=>bU aa<|bU aa<|qK aa<|V ((λ_ d=>nomatch d),λ_ d=>nomatch d) aa h b.2.1 (Uc i) b.2.2
  |X z r=>
   let b:=jF m;let o:=jF b.2.1;show oD<|ee x m λal h=>bU aa<|bU aa<|bU aa<|qK aa<|ee h b.2.1 λaH v=>a0 ((λ_ d=>nomatch d),λ_ d=>nomatch d) aa v o.2.1 (by omega) o.2.2
  |a0 z t r T=>
   let b:=jF m;let o:=jF b.2.1;let a3:=jF o.2.1;let a6:(co.drop<|i+1+1+1).take ↑t=t:=by rw[a3.2.1,ahv]
   let a7:co.drop (i+1+1+1+↑t)=hS:=by rw[<- rW,a3.2.1,aht]
   let a1:i+1+1+1+↑t<=↑co:=by
    have:=dP mR a3.2.1;rw[sV,cW]at this;omega
   show oD<|ee x m λal h=>bU aa<|bU aa<|bU aa<|bU aa<|qK aa<|oD<|ee h b.2.1 λaH v=>(v.K.X 2,.mk (v.K.b0 2) (v.a5 a4) a3.1 a1 λb5 r y=>?_);let(c1,b8,b9,b3):=v.a8 y;rw[a6]at b3;show(z,t,.mk b9 (r,aa,b3,T) λen af w l A y _ b0=>U en af p g w l _ (b8.K A) a7 (by omega) a1 (by rw[Sv (e,k) (.at_ z t) ((λ_ d=>nomatch d),λ_ d=>nomatch d)];show y) b0)
  |a1 r=>
   let b:=jF m;show oD<|ee x m λal h=>bU aa<|bU aa<|bU aa<|bU aa<|bU aa<|qK aa<|V ((λ_ d=>nomatch d),λ_ d=>nomatch d) aa h b.2.1 (Uc i) b.2.2
  |a2 z r=>
   let b:=jF m;let o:=jF b.2.1;show oD<|ee x m λal h=>bU aa<|bU aa<|bU aa<|bU aa<|bU aa<|bU aa<|qK aa<|ee h b.2.1 λaH v=>a0 ((λ_ d=>nomatch d),λ_ d=>nomatch d) aa v o.2.1 (by omega) o.2.2
  |a3 r=>
   let b:=jF m;show oD<|ee x m λal h=>bU aa<|bU aa<|bU aa<|bU aa<|bU aa<|bU aa<|bU aa<|qK aa<|V ((λ_ d=>nomatch d),λ_ d=>nomatch d) aa h b.2.1 (Uc i) b.2.2
  |a4 z r=>
   let b:=jF m;let o:=jF b.2.1;show oD<|ee x m λal h=>bU aa<|bU aa<|bU aa<|bU aa<|bU aa<|bU aa<|bU aa<|bU aa<|qK aa<|ee h b.2.1 λaH v=>a0 ((λ_ d=>nomatch d),λ_ d=>nomatch d) aa v o.2.1 (by omega) o.2.2
  |a5 r=>
   let b:=jF m;show oD<|ee x m λal h=>bU aa<|bU aa<|bU aa<|bU aa<|bU aa<|bU aa<|bU aa<|bU aa<|bU aa<|qK aa<|V ((λ_ d=>nomatch d),λ_ d=>nomatch d) aa h b.2.1 (by omega) b.2.2
  |a6 z r=>
   let b:=jF m;let o:=jF b.2.1;show oD<|ee x m λal h=>bU aa<|bU aa<|bU aa<|bU aa<|bU aa<|bU aa<|bU aa<|bU aa<|bU aa<|bU aa<|qK aa<|ee h b.2.1 λaH v=>a0 ((λ_ d=>nomatch d),λ_ d=>nomatch d) aa v o.2.1 (by omega) o.2.2
  |a7 z r=>
   let b:=jF m;let o:=jF b.2.1;show oD<|ee x m λal h=>bU aa<|bU aa<|bU aa<|bU aa<|bU aa<|bU aa<|bU aa<|bU aa<|bU aa<|bU aa<|bU aa<|qK aa<|ee h b.2.1 λaH v=>a0 ((λ_ d=>nomatch d),λ_ d=>nomatch d) aa v o.2.1 (by omega) o.2.2
  |a8 r=>
   let b:=jF m;show oD<|ee x m λal h=>bU aa<|bU aa<|bU aa<|bU aa<|bU aa<|bU aa<|bU aa<|bU aa<|bU aa<|bU aa<|bU aa<|bU aa<|V ((λ_ d=>nomatch d),λ_ d=>nomatch d) aa h b.2.1 (by omega) b.2.2
inductive za:#[N]->#[pZ]->Prop|K:za [] []|R{b h a1 a2}:mD b a1 h->za h a2->za b (a1::a2)
noncomputable def vt:State->#[pZ]->#[#[N]]|_,[]=>[]|s,a::r=>fw (hh s a)::vt (p' s a).1 r
theorem avi(s:State)(a:pZ):aAs (p' s a).2=fw (hh s a):=by
 delta p' fw;cases hh s a<;>rfl
theorem avj{s c a}(d:azd c=Y a):zq s c=((p' s a).1,fw<|hh s a):=by
 delta zq;rw[d,<- avi]
theorem afp{l x s}(d:Ud l=Y (aZ x s)):l=((↑x:O):N)::(x++s):=by
 cases l with
 |nil=>cases d
 |cons n r=>
  let d:(if 0<=n/\n.toNat<=↑r then Y (aZ (r.take n.toNat)<|r.drop n.toNat)else M)=Y (aZ x s):=d;grind [List.length_take,Nat.min_eq_left,List.take_append_drop,Int.toNat_of_nonneg]
def avk{x:#[N]}(d:x.all (λz=>aAt z 8)=J):x=(x.map λz=>HQ z.toNat).map λB=>((B.toNat:Nat):N):=by
 rw[dX];show(TZ x).symm.trans<|rb λz hz=>?_;have:=jS.1 d z hz;let(ab,ag):=(fV _ _).mp this;change z=((HQ z.toNat).toNat:N);rw[UInt8.toNat_ofNat_of_lt'<|by lia];lia
set_option tactic.hygienic true in
def GW{p n k r t c}(d:xn n_ (p::r)=Y (c,t))(aw:n_ p=Y (n,k)):n<=↑r/\∃xs,ahy k (r.drop n)=Y (xs,t)/\c=(p::r.take n)::xs:=by
 delta xn at d;dsimp only at d;rw[aw]at d;dsimp only at d;split at d;.cases d
 .rename_i b
  cases q:ahy k (r.drop n)with|none=>rw[q]at d;cases d|some x=>rw[q]at d;cases d;show(uq b,_,aa,aa)
def afq{s t}(d:ahy 1 s=Y (aZ xs t)):∃x,Ud s=Y (aZ x t)/\xs=[x]:=by
 let d:(match Ud s with|M=>M|Y (aZ x s)=>(match(Y<|aZ [] s:bs (#[#[N]]×#[N]))with|M=>M|Y (aZ xs t)=>Y<|aZ (x::xs) t))=Y (aZ xs t):=d
 cases q:Ud s with|none=>rw[q]at d;cases d|some x=>rw[q]at d;cases d;show(_,aa,aa)
def BH{z r t c}(d:xn n_ (z::r)=Y (c,t))(aw:n_ z=Y (0,0)):c=[[z]]/\t=r:=by
 let(_,_,e,rfl):=GW d aw;cases e;show(aa,aa)
def zb{z r t c}(d:xn n_ (z::r)=Y (c,t))(aw:n_ z=Y (1,0)):∃y,r=y::t/\c=[[z,y]]:=by
 let(l,_,e,rfl):=GW d aw;cases e
 cases r with|nil=>cases l|cons y r=>show(y,aa,aa)
def avl{p r t c}(d:xn n_ (p::r)=Y (aZ c t))(h:aze (xo c)=J):∃a,mD (p::r) a t/\azd (xo c)=Y a:=by
 by_cases f:p=0
 .subst f;let(_,_,e,rfl):=GW d aa;let(x,q,rfl):=afq e;let(g,b):=(fV _ _).mp h;let a0:=avk g;show(xm<|x.map λz=>HQ z.toNat,?_,?_);.rw[afp (l:=r) q];have:=mD.K (x.map λz=>HQ z.toNat) t (by rw[aV];show eH b);rw[<- a0,aV]at this;show this
  .change(azf x).map xm=_;delta azf;rw[bK];.rfl
   .show jS.2 λz hz=>?_;have:=jS.1 g z hz;let(ab,ag):=(fV _ _).mp this;let ab:=eH ab;let ag:=eH ag;rw[hp ab,hp<|by omega];rfl
 by_cases ab:p=1;.subst ab;let(y,rfl,rfl):=zb d aa;show(_,.R _ _,aa)
 by_cases ag:p=2;.subst ag;let(rfl,rfl):=BH d aa;show(_,.S _,aa)
 by_cases i:p=3;.subst i;let(y,rfl,rfl):=zb d aa;show(_,.X _ _,aa)
 by_cases j:p=4
 .subst j;let(l,_,e,rfl):=GW d aa
  cases r with
  |nil=>cases l
  |cons y r=>
   let(x,q,rfl):=afq e;let b:=((fV _ _).mp ((fV _ _).mp h).2).2;rw[afp (l:=r) q];show(_,.a0 y x t<|eH b,aa)
 by_cases m:p=5;.subst m;let(rfl,rfl):=BH d aa;show(_,.a1 _,aa)
 by_cases o:p=6;.subst o;let(y,rfl,rfl):=zb d aa;show(_,.a2 _ _,aa)
 by_cases v:p=7;.subst v;let(rfl,rfl):=BH d aa;show(_,.a3 _,aa)
 by_cases w:p=8;.subst w;let(y,rfl,rfl):=zb d aa;show(_,.a4 _ _,aa)
 by_cases A:p=9;.subst A;let(rfl,rfl):=BH d aa;show(_,.a5 _,aa)
 by_cases T:p=10;.subst T;let(y,rfl,rfl):=zb d aa;show(_,.a6 _ _,aa)
 by_cases U:p=11;.subst U;let(y,rfl,rfl):=zb d aa;show(_,.a7 _ _,aa)
 by_cases V:p=12;.subst V;let(rfl,rfl):=BH d aa;show(_,.a8 _,aa)
 .have:n_ p=M:=by
   delta n_;rw[be f,be ab,be ag,be i,be j,be m,be o,be v,be w,be A,be T,be U,be V]
  delta xn at d;dsimp only at d;rw[this]at d;cases d
theorem afr:∀f l b,HS n_ f l=Y b->(b.map xo).all aze=J->∃as,za l as/\∀s,ahz zq s (b.map xo)=vt s as
 |f,[],b,d,_=>by
  let d:Y []=Y b:=by rw[<- d];cases f<;>rfl
  cases d;show([],.K,λs=>rfl)
 |0,p::r,b,d,_=>(by cases d)
 |f+1,p::r,b,d,e=>by
  let d:(match xn n_ (p::r)with|M=>M|Y (c,t)=>match HS n_ f t with|M=>M|Y bo=>Y (c::bo))=Y b:=d
  cases q:xn n_ (p::r)with
  |none=>rw[q]at d;cases d
  |some iH=>
   let(c,t):=iH;rw[q]at d;let d:(match HS n_ f t with|M=>M|Y bo=>Y (c::bo))=Y b:=d
   cases g:HS n_ f t with
   |none=>rw[g]at d;cases d
   |some bo=>
    rw[g]at d;cases d;rw[fg,uo,fV]at e;let(as,ab,ag):=afr f t bo g e.2;let(a,h,i):=avl q e.1;show(a::as,.R h ab,λs=>?_);change(zq s (xo c)).2::ahz zq (zq s (xo c)).1 (bo.map xo)=_;rw[avj i,ag];rfl
def avm{l}(d:ahb l=J):∃as,za l as/\Tt l=zr (vt Ue as)/\↑(Tt l)<=10000000:=by
 delta ahb at d
 cases q:HS n_ ↑l l with
 |none=>simp_all
 |some b=>
  rw[q]at d;simp only[fV]at d;let(((_,_),e),f):=d;let(as,g,h):=afr _ _ _ q ((fV _ _).mp e).1;show(as,g,?_,eH f);delta Tt PyVacfac.calls;rw[q];change zr (ahz zq aAu<|b.map xo)=_;rw[h];rfl
def afs:fu ["calls","subject","cursor","told","answer"] ["calls"]<|dh<|cr 122:=∅
def avn:kP (fr aAw aAx) C qp:=λ_ _ _ _ _ _ _ d=>by
 let(_,_,_,_,_,_,_,_,_,_,_,_,_,d):=d;show d.elim
inductive aft(co:#[N])(as:#[pZ])(a s c ae ip aG:L)(i:O)(H:ap):Prop|mk{st:State}{b}{p:L}{g:L}{dc:#[N×V]}{wR:#[pZ]}{cK:#[N]}:fd [(c,iD ip a i),(ae,.K<|cK.map V.R)] st.prog st.most b H s aG p g dc->fa aAv b a (co.map V.R)->za (co.drop i) wR->i<=↑co->zr (vt Ue as)=cK++zr (vt st wR)->aft co as a s c ae ip aG i H
inductive Sx(co:#[N])(as:#[pZ])(a s c ae ip aG:L)(p:O->Prop):ck->ap->Prop|mk{a1 b h}:aft co as a s c ae ip aG b h->p b->Sx co as a s c ae ip aG p [Y<|.K a,Y<|.K s,Y<|.K c,Y<|.K ae,a1] h
def avo[ci]:km aAw aAx aAv aAy aAB bH 19 aAP aAQ ["calls"]<|yz aAv:=by
 show aFw.S afs (λvs H Q au d=>by induction d;rfl)<|λz H vs Q aW T d=>?_
 induction d with
 |@mk a co H _ _ a5 b5 a6=>
  let aD:=afs.K;show(_,ba (ey 1 aD<|aaw ave T avn)<|ba (ey 2 aD<|yF aqw T bm<|ak (ao 0) aF)<|ba (ey 3 aD<|eP aF)
  <|ba (x_ jg (nt<|ik<|fS aqx (ao 2) T bm)<|ba (ey 4 aD<|dT avh T bm<|ak (ao 1)<|ak (ao 2) aF)<|ba (cw<|ox (ao 3)<|na aAV<|ao 4)<|a_<|cw<|BC (ao 3)<|ao 4)
  <|a_<|cy<|ao 3,?_);let(as,b6,b7,a7):=avm b5;rw[b7]at a6 a7;show λs aG ab ag b8=>.mk ab ag b8 λal aH p g a8 x _=>(aa,λc ip b9 c0 c1=>.mk b9 c0 c1 λc2 y=>(aa,kT,λae c3=>?_));let(e0,e1,e2,_):=x.a3 y.K;let e3:=(a8.K x.K.K).X a5;let c4:fd [(c,iD ip a 0)] (jK 0 0) 1 al c2 s aG p g []:=by
   let a9:=x.K.b1 y;show(x.R,x.X,a9.a5<|ahw (l₁:=[_,_]),λq A=>by rw[dj.1 A];show λ_=>(bF.noConfusion ·),x.S,x.a1,x.a0)
  let h:=c4.a6 (o:=.K []) c3 λ_=>(bF.noConfusion ·);let c5:fd [(c,iD ip a 0),(ae,.K [])] (jK 0 0) 1 al _ s aG p g []:=(h.R,h.X,h.K.a5<|HB _<|HB _<|vC _ _ _,λq A=>h.a2 q<|(vC _ _ _).mem_iff.1 A,h.S,h.a1,h.a0);show(λm=>Sx co as a s c ae ip aG λi=>m=↑co - i,(_,.mk (.mk (st:=Ue) (wR:=as) (cK:=[]) c5 (a8.X a5) b6 (ex _) aa) aa),?_);rintro m D c6 @⟨e4,i,_,@⟨st,an,p,g,dc,wR,cK,z,a1,U,aR,v⟩,rfl⟩;show(z.K.X 2,.mk (z.K.b0 2) (z.a5 a1)<|dH (λa2=>?_) λa2=>?_)
  .let e5:=by
    have:bp (↑co<=i)=aX:=‹a2›
    have:=hj this;omega
   generalize b0:co.drop i=e6 at U
   cases U with
   |K=>
    have:=dP mR b0;rw[sV]at this;show bB this<|by change ↑co - i≠0;omega
   |@R _ r b a3 a0 c7=>
    rw[<- b0]at a0;show(Sx co as a s c ae ip aG (i<·),λaU af c8=>by obtain @⟨_,j,_,q,a9⟩:=c8;show(↑co - j,by omega,.mk q aa),Sw.mk z a1 a0 λen af c9 d0 d1 l j d2 d3 d4 d5 f a4=>?_);let b1:=f.K.K _ _ a4;let b2:=f.K.R 3 aa;let d6:l≠ae:=λq=>by rw[q,f.K.a2 (ae,_)<|el _<|el _<|el _ ig]at a4;cases a4
    let b3:zr (vt st<|b::a3)=((↑(fw<|hh st b):O):N)::(fw (hh st b)++zr (vt (p' st b).1 a3)):=aa;let e7:↑cK+(1+↑(fw<|hh st b))<=10000000:=by
     rw[v,b3,cW,hs,cW]at a7;omega
    let b4:∀m,m<=10000001->m<ch:=λm d=>kF d ⋯;show(_,b2,_,bZ b1,_,b2,b4 _<|by rw[aV];omega,?_);let d7:=f.K.a0 3 aa<|.K<|cK.map V.R++[.R (↑((fw<|hh st b).map V.R):O)];show(_,bG,l,_,_,aa,bG,aQ<|by rw[bS d6];show b1,sT<|b4 _<|by rw[cW,aV,aV];change ↑cK+1+↑(fw<|hh st b)<=_;omega,.mk (.mk (st:=(p' st b).1) (p:=c9) (g:=d0) (dc:=d1) (wR:=a3) (cK:=cK++((↑(fw<|hh st b):O):N)::fw (hh st b)) ?_ (d2.X a1) (by rw[d3];show c7) d5 ?_) d4)
    .let d8:=d7.a0 3 aa<|.K<|cK.map V.R++[.R (↑((fw<|hh st b).map V.R):O)]++(fw<|hh st b).map V.R;let e:cK.map V.R++[V.R (↑((fw<|hh st b).map V.R):O)]++(fw<|hh st b).map V.R=(cK++((↑(fw<|hh st b):O):N)::fw (hh st b)).map V.R:=by
      rw[cs,fg,aV,fi];rfl
     rw[<- e];show(f.R,f.X,d8,λq A=>by
      let w||w:=cc.1 A;.rw[w];show λ_=>(bF.noConfusion ·)
      .rw[dj.1 w];show λ_=>(bF.noConfusion ·),f.S,f.a1,f.a0)
    .rw[v,b3,fi];rfl
  .let d9:=by
    have:bp (↑co<=i)=J:=‹a2›
    show eH this
   rw[azc d9]at U
   cases U with
   |K=>
    let v:zr (vt Ue as)=cK++[]:=v;rw[e']at v;show a6 c6 ae ?_;rw[v];show z.K.R 3 aa
   |R a0 _=>cases a0
def zc(as:agz)(ay:#[E]):dq:=as.posonlyargs.isEmpty&&as.kwonlyargs.isEmpty&&as.vararg.isNone&&as.kwarg.isNone&&as.args.map (·.arg)==ay&&bp ay.Nodup
def avp{ay:#[E]}(b:#[bc])(d:↑b=↑ay)(n:ay.Nodup):∀p∈ay.zip b,(ay.zip b).lookup p.1=Y p.2:=by
 induction ay generalizing b with
 |nil=>simp
 |cons p ay e=>
  let _||(u,b):=b;.simp
  have(a,B):=f_.1 n;intro q m;let rfl||m:=cc.1 m;.simp
  rw[vH,sZ,un.2 λz:q.1=p=>a<|z▸(sU m).1];show e b (Hz d) B q m
theorem afu{f:E->bs (E×bc)}:{ay:#[E]}->(b:#[bc])->↑b=↑ay->(∀p∈ay.zip b,f p.1=Y p)->ay.filterMap f=ay.zip b
 |[],b,d,_=>by simp
 |p::ay,u::b,d,n=>by
  rw[vH,q',n (p,u)<|cp _];show dP _<|afu b (Hz d) λq m=>n q<|eo _ m
def avq{x q:E}{as:agz}{a1:#[dK]}{cB:mQ}{ay:#[E]}{iZ ke eF kf hw iH b}(c:zc as ay=J)(h:↑b=↑ay):S' (pV x q as a1 cB go iZ ke eF kf hw iH) (b,[])=gt (ay.zip b):=by
 dsimp only[zc]at c;let (_||_,l,_||_,_||_,ae,_||_,e):=as<;>simp at c;let(rfl,n):=c;generalize g:l.map (·.arg)=ay at*;let z:=afu (f:=λn=>((ay.zip b).lookup n).map λx=>aZ n x) b h λq m=>by simp[avp b h n q m]
 let y:(ay.filter λn=>((ay.zip b).lookup n).isNone)=[]:=by
  rw[CT];intro n m;have:=List.filterMap_length_eq_length.1 (.trans (dP _ z)<|by simp[h]) n m;rw[zK]at this;rw[<- Option.not_isSome,this];nofun
 simp[S',seqItems?,pV,h,g,z];rw[show notAStandIn go=gt ()from aa];simp[sX,g,y]
section
variable{ae:bz}{d:ez}{ar f:L}{m q x:E}{st:dK}{ay:#[E]}{gb:bc}{ei kf:bs L}{pP:gv<|bs bc}{iZ ke eF hw iH:bc}
def Sy(B:zc (on st) ay=J)(l:ae.aAv.lookup f=Y (gb,ei,xd<|pV x q (on st) (nx st) (dh st) go iZ ke eF kf hw iH,pP))(c:xe ae.aAv hw q=J)(k:rD ae.aAv (I f)=J):qs ae.aAv x q st f ay:=
 letI:=ae;(_,PF l c k,(PF l c k).X λ_ _ _ _ _ _ _=>avq B)
def azh(B:autoParam (zc (on st) ay=J) r_5)(a:autoParam (sC ae.aAv (I ar) m=Y (Y<|I f)) r_10)(i:autoParam (Hn ae.aAv (I f)=J) r_10)(l:autoParam (ae.aAv.lookup f=Y (gb,ei,xd<|pV m q (on st) (nx st) (dh st) go iZ ke eF kf hw iH,pP)) r_10)(c:autoParam (xe ae.aAv hw q=J) r_10)(k:autoParam (rD ae.aAv (I f)=J) r_10):@fk ae ar m q st ay:=
 (f,(a,i,k),Sy B l c k)
def azi(C:ae.aAv.In d)(az:d.Ns iP ae.aAy)(B:autoParam (zc (on st) ay=J) r_5)(a:autoParam (nS ae.aAv iP x=Y (Y<|I f)) r_10)(l:autoParam (ae.aAv.lookup f=Y (gb,ei,xd<|pV x x (on st) (nx st) (dh st) go iZ ke eF kf hw iH,pP)) r_10)(c:autoParam (xe ae.aAv hw x=J) r_10)(k:autoParam (rD ae.aAv (I f)=J) r_10):@dB ae x st ay:=
 (f,mg_of C az a,Sy B l c k)
def azj(C:ae.aAv.In d)(az:d.Ns iP ae.aAy)(B:autoParam (zc (on st) ay=J) r_5)(n:autoParam (nS ae.aAv iP x=Y (Y<|I ar)) r_10)(a:autoParam (sC ae.aAv (I ar) "__init__"=Y (Y<|I f)) r_10)(i:autoParam (Hn ae.aAv (I f)=J) r_10)(l:autoParam (ae.aAv.lookup f=Y (gb,ei,xd<|pV "__init__" q (on st) (nx st) (dh st) go iZ ke eF kf hw iH,pP)) r_10)(c:autoParam (xe ae.aAv hw q=J) r_10)(k:autoParam (rD ae.aAv (I f)=J) r_10)(b:autoParam (makesIn ae.aAv ar=J) r_10)(fU:autoParam (rD ae.aAv (I ar)=J) r_10):@oq ae ar x q st ay:=
 (f,(b,a,i,fU),mg_of C az n,Sy B l c k)
def azk(b:autoParam (SX ae.aAv ar Str.empty=J) r_10)(h:autoParam (agb ae.aAv ar=J) r_10)(a1:autoParam (aga ae.aAv ar=J) r_10)(a2:autoParam (sC ae.aAv (I ar) "__setattr__"=Y (Y<|ju "object.__setattr__")) r_10):kK ae.aAv ar:=(b,h,a1,a2)
def azl(n:autoParam (sC ae.aAv (I ar) x=Y M) r_10):jW ae.aAv ar x:=n
def azm{ga q br b sub h a1}
 (l:autoParam (ae.aAv.lookup ar=Y (Ti ga q ar br b tp a2 a3 sub a4 h a5 a6 a7 a1 a8 a9 "Exception.__new__")) r_10)(n:nsOkIn ae.aAv br=J:=by kernel_rfl)(i:autoParam (nS ae.aAv br "__init__"=Y M) r_10):uS ae.aAv ar:=
 (ga,q,br,b,a2,a3,sub,a4,h,a5,a6,a7,a1,a8,a9,l,n,i)
def azn{a bf}(l:ae.aAv.lookup a=Y (cF "dict",M,i' bf dz, #[]))(r:agC dk bf.toList aj)(s:autoParam ((a==lg)=aX) r_5):mv ae.aAv a aj:=
 (s,_,bf,dz,l,(aa,aa,aa),aa,r)
inductive zd(b:E->bs bc):#[vA]->#[E×E]->Prop|K:zd b [] []|R{h a1 a2}{t:nl}{f:L}{a3 a4}:h.key=nk a1 t->h.val=I f->b a2=Y (I f)->zd b a3 a4->zd b (h::a3) ((a1,a2)::a4)
theorem zd.S{l}(g:zd ae.aAy bf l)(aD:(l.map (·.1)).Nodup):∃aj,agC dk bf aj/\∀q∈l,∃f,jv q.1 aj=Y (.K f)/\ae.aAy q.2=Y (I f):=by
 induction g with
 |K=>show([],.nil,λ_ d=>nomatch d)
 |@R e x ga t f bf l ab ag h _ i=>
  let(aj,r,d):=i (f_.1 aD).2;show((x,.K f)::aj,.cons ab ag r,λq b=>?_);let rfl||b:=cc.1 b;.show(f,bK<|hp aa,h)
  .let(g,a,B):=d q b;show(g,(be ?_).trans a,B);intro z;show(f_.1 aD).1<|bx.2 (q,b,eH z)
def azo{a bf l}(C:ae.aAv.In d)(az:d.Ns iP ae.aAy)(aD:(l.map (·.1)).Nodup)(n:nS ae.aAv iP x=Y (Y<|I a))(b:ae.aAv.lookup a=Y (cF "dict",M,i' bf dz, #[]))(r:zd ae.aAy bf.toList l)(s:autoParam ((a==lg)=aX) r_5):@tx ae x l:=by
 let(aj,ab,ag):=r.S aD;show(a,aj,mg_of C az n,(s,_,bf,dz,b,(aa,aa,aa),aa,ab),ag)
end
def qj{ae}(aC:@ci ae):km ae.aAw ae.aAx ae.aAv ae.aAy ae.aAB bH 19 ae.aAP ae.aAQ ["calls"]<|yz ae.aAv:=bk λn=>
 have B:P' hW:=Classical.epsilon_spec (p:=P') (ae,aC,n)
 B.2 (@avo B.1)
def azp{w aA d a2 f iZ iH}(C:aA.In d)(az:d.Ns iP h)(b2:h "answers"=Y (I a2))
 (b3:nS aA iP "Table"=Y (Y<|I ar))
 (b4:nS aA iP "Program"=Y (Y<|I a3))
 (b5:nS aA iP "Run"=Y (Y<|I a4))
 (b6:nS aA iP "Frame"=Y (Y<|I a5))
 (b7:nS aA iP "Subject"=Y (Y<|I a6))
 (b8:nS aA iP "Cursor"=Y (Y<|I a7))
 (b9:nS aA iP "Reader"=Y (Y<|I a8))
 (c1:nS aA iP "WrongRun"=Y (Y<|I a9))
 (c2:nS aA iP "LongRun"=Y (Y<|I b0))
 (c3:nS aA iP "NotAProgram"=Y (Y<|I b1))
 (a:nS aA iP "answers"=Y (Y<|I f))(l:aA.lookup f=Y (gb,ei,xd<|pV "answers" "answers" (on<|cr 122) (nx<|cr 122) (dh<|cr 122) go iZ ke eF kf hw iH,pP))(c:xe aA hw "answers"=J)(k:rD aA (I f)=J)
 (V:∀ae b dv,ae=(aq,w,aA,h,b,ar,a3,a4,a5,a6,a7,a8,a9,b0,b1,f,dv)->uR aA "answers" "answers" (cr 122) f dv->@ci ae):
  ∃dv:qW,(∀s a1,↑a1=↑(["calls"]:#[E])->Cd s dv (a1,[]) ((["calls"]:#[E]).zip a1))/\∀b:ez,aA.In b->b.Ns iP h->km aq w aA h b bH 19 a2 dv ["calls"] (yz aA):=by
 let e:=b2.symm.trans<|mg_of C az a;cases e;show(pV "answers" "answers" (on<|cr 122) (nx<|cr 122) (dh<|cr 122) go iZ ke eF kf hw iH,λs a1 g=>by let(_,rfl):=ayC.1 g;show .of_eq aa,λb _ _=>qj<|V _ b _ aa<|by letI:bz:=(aq,w,aA,h,b,ar,a3,a4,a5,a6,a7,a8,a9,b0,b1,0,Tu);show PF l c k)
def azq{aA a}(b:Cm Cv.args Cv.asked a=J)(h:po aA H xs<|zo Cv.args a):
  yz aA xs H (λv af=>jZ aA af v<|Cv.ret.enc<|Cm Cv.args Cv.f a) λ_ _ _=>fC:=by
 cases h with
 |K ab ag=>
  cases ag
  cases ab with
  |K aw g=>
   let e:=Xx a.1 _ g;subst e;show .mk aw b λaf p i=>.K (fa.K i)<|Xw _
end
end
namespace PySem.W.Fast
def tw1002476553824308881:=True
def tw15128946946421652871:=True
def tw12117418385372593283:=True
def tw99762967836103574:=True
def tw591291616713308202:=True
def tw12672333513157286215:=True
def tw14734716371285138613:=True
def tw17073787941652441936:=True
def tw13417752548041661729:=True
def tw15082088825873572297:=True
def tw7630833923124192047:=True
def tw12984015421441785790:=True
def tw14811675757750544200:=True
def tw10074146775968567944:=True
def tw8949053356094337064:=True
def tw3394318062323854677:=True
def tw17472241692252254637:=True
def tw15797157141916805969:=True
def tw647255384314430005:=True
def tw4387038310313712159:=True
def tw11126406471658059249:=True
def tw6736842162301537215:=True
def tw2640470552369788987:=True
def tw11242679426607376792:=True
def tw16251707008080060703:=True
def tw4045665306905963041:=True
def tw10566394763583447055:=True
def tw10024421979334491910:=True
def tw4365722371804224720:=True
def tw7567234115376875962:=True
def tw11109291643160992305:=True
def tw16557311061933665849:=True
def tw3964643006168208041:=True
def tw10517330800987901344:=True
def tw17857422990532313450:=True
def tw11343441837913465603:=True
def tw8333918353831403999:=True
def tw2572294226833031888:=True
def tw14184935298923731595:=True
def tw14748315366462406768:=True
def tw14917055868981399843:=True
def tw13208523961057183125:=True
def tw403086179183627121:=True
def tw7635995975590047127:=True
def tw6223490687662226741:=True
def tw9485330163238119627:=True
def tw7032455408259383409:=True
def tw4755017360085223654:=True
def tw16172276760555983458:=True
def tw11514978692912935203:=True
def tw284563642160538988:=True
def tw4237892155550147193:=True
def tw3053729364561076990:=True
def tw6705919447114057583:=True
def tw11091124990889328632:=True
def tw11873660101161617300:=True
def tw6991945856452542005:=True
def tw16330512538031482734:=True
def tw11865530007003129180:=True
def tw9674708826938329258:=True
def tw3211317194253033002:=True
def tw10293506076101524250:=True
def tw8604541774981132101:=True
def tw8295390740762278326:=True
def tw18308998233047567536:=True
def tw16620510917354189806:=True
def tw10595710359554105932:=True
def tw15073982250597686067:=True
def tw7263158264902952130:=True
def tw4275195569308132511:=True
def tw1222007600090037613:=True
def tw8784356223481266231:=True
def tw1380902416461732809:=True
def tw12667578949450208735:=True
def tw12836509835342998930:=True
def tw12090831400561607837:=True
def tw15141178919933635576:=True
def tw12519967842471093713:=True
def tw14763727825467557350:=True
def tw18161770407796113205:=True
def tw15969084994623631243:=True
def tw11596117667564108361:=True
def tw12289802114995752898:=True
def tw1374379452662535348:=True
def tw6658892603599064314:=True
def tw3991544491055414778:=True
def tw6818643811105184051:=True
def tw8322464544238145925:=True
def tw3963497392198782357:=True
def tw16694708222110116957:=True
def tw14921608670567067373:=True
def tw1279559543193181584:=True
def tw11415003742113339087:=True
def tw12486307563143412973:=True
def tw6251685702899772679:=True
def tw5826051566927139244:=True
def tw12118084998597942222:=True
def tw18226285943151482677:=True
def tw13698457191828707366:=True
def tw8448587423075395230:=True
def tw4503734661116711345:=True
def tw16256300698405177415:=True
def tw8507316331846949852:=True
def tw12318836689784597710:=True
def tw2993314306065802208:=True
def tw12904020102320857407:=True
def tw15444198556463371787:=True
def tw15791823817707820781:=True
def tw6595596566529729319:=True
def tw3493884073874064385:=True
def tw2851708306626976662:=True
def tw7219911296631853318:=True
def tw4362380970575225251:=True
def tw1127585365402187835:=True
def tw18040142824726980812:=True
def tw2625584840254282483:=True
def tw16362166601222001324:=True
def tw370795923146222457:=True
def tw4422142991001883397:=True
def tw15257076947010671303:=True
def tw15491071176095976933:=True
def tw8737761563823489502:=True
def tw9485607772411029891:=True
def tw4142958692093869122:=True
def tw14695631742408942543:=True
def tw13071013868367492361:=True
def tw2138327063613702377:=True
def tw4637655171102586639:=True
def tw9573664893202228086:=True
def tw8691422855736811763:=True
def tw7848271876323163990:=True
def tw10329704222965712859:=True
def tw8374749499707319423:=True
def tw4308605986476992823:=True
def tw17405840812044927204:=True
def tw15286423940744062768:=True
def tw3592348725546813518:=True
def tw6702009901634528897:=True
def tw3354387242537645791:=True
def tw509195842118463273:=True
def tw911083744289346708:=True
def tw16217622742110474418:=True
def tw5197274508908338531:=True
def tw10336255937122847501:=True
def tw609263314963855517:=True
def tw5133663867183878645:=True
def tw15003582335474020166:=True
def tw7771478606141068003:=True
def tw12739224373652672219:=True
def tw3618441939760033171:=True
def tw4736291384285745398:=True
def tw8051161569672734414:=True
def tw1249869831666701487:=True
def tw12631910116831601750:=True
def tw10837318696985914155:=True
def tw16798331857989043278:=True
def tw6516104967280475231:=True
def tw6505906497618961440:=True
def tw4863682803664976582:=True
def tw15501892184688197667:=True
def tw9426755354287636630:=True
def tw16099210725394187165:=True
def tw3059449340586848283:=True
def tw9069215570718748496:=True
def tw2978143308783267947:=True
def tw14224064140708576978:=True
def tw12677505293107180441:=True
def tw10312716373584078772:=True
def tw4118908263242366056:=True
def tw12214594596116858267:=True
def tw13665302617795011733:=True
def tw14467115917473375049:=True
def tw822835891718352156:=True
def tw18332750302983099312:=True
def tw6489483321423562431:=True
def tw14279366182951528453:=True
def tw13372130588262992431:=True
def tw11219310033636547724:=True
def tw16973804199465031065:=True
def tw16037655616446724226:=True
def tw17851742180823244320:=True
def tw17073493827764735101:=True
def tw4202755637687706462:=True
def tw7274172234568679015:=True
def tw6518793295086071634:=True
def tw8834239473661658761:=True
def tw17120536909585345003:=True
def tw4144356427048689166:=True
def tw2336952346406353554:=True
def tw13285256596589275705:=True
def tw432475581349119956:=True
def tw1667083622080275384:=True
def tw10753561458211917702:=True
def tw10210843804000292464:=True
def tw9069419340660380862:=True
def tw9918994470137178744:=True
def tw480380926199060472:=True
def tw4672589728737638823:=True
def tw10803710041047542171:=True
def tw15576785187329343779:=True
def tw3663659603994007677:=True
def tw17172886718196504666:=True
def tw511573581818932465:=True
def tw11892443725782552823:=True
def tw10259261629013660555:=True
def tw17909375394652347549:=True
def tw16080272811244608034:=True
def tw14540222468936057391:=True
def tw11861542048819294715:=True
def tw1428952315584991161:=True
def tw3797095395939468534:=True
def tw10267244328025651214:=True
def tw11558113848599624331:=True
def tw4093119360752172391:=True
def tw16719059325163999032:=True
def tw15160342209395665664:=True
def tw4798532503787155408:=True
def tw14597104908926883255:=True
def tw416940377430503403:=True
def tw13671133903157502062:=True
def tw5711368533168987159:=True
def tw6626271402624209142:=True
def tw999156413029756223:=True
def tw13728815632810680383:=True
def tw6488129082753925320:=True
def tw2017429705277820584:=True
def tw6474782417419180920:=True
def tw13055516023091308745:=True
def tw14406429544536434084:=True
def tw13747683384873710898:=True
def tw5167284655132207170:=True
def tw4718648636441397000:=True
def tw9800845738417280126:=True
def tw1969831177962090263:=True
def tw9308549616568929686:=True
def tw15218848125231896802:=True
def tw12054267247023882590:=True
def tw10583001224931934821:=True
def tw15593231298696463264:=True
def tw13718583168038256511:=True
def tw8763210450503370323:=True
def tw3881954794204231701:=True
def tw14766509096220156536:=True
def tw3016956557978392078:=True
def tw12460606797823476469:=True
def tw8211838393528241462:=True
def tw5332304052523503449:=True
def tw5836660693191743798:=True
def tw4205991709736690198:=True
def tw14794838942231808921:=True
def tw6221755124147834238:=True
def tw11368043181802021707:=True
def tw8715459619711494886:=True
def tw14411833213322153859:=True
def tw7712617180239331885:=True
def tw5368095504694588673:=True
def tw4116257206742616493:=True
def tw13254799120175627174:=True
def tw9086830843626166156:=True
def tw7256033981570844145:=True
def tw5440481141513804175:=True
def tw4784058311398461929:=True
def tw12377149089964152459:=True
def tw2983805136272874837:=True
def tw1111996397991569816:=True
def tw14723032992057381867:=True
def tw10549941392357000950:=True
def tw5844644191500152080:=True
def tw9159936555721601760:=True
def tw3992575318246596675:=True
def tw387411280385261188:=True
def tw5279005337434301622:=True
def tw7188912589262491637:=True
def tw9502925985478983839:=True
def tw2355961351449683017:=True
def tw10249807100506278484:=True
def tw4976497887741238443:=True
def tw18040740214027545954:=True
def tw10906290704309201430:=True
def tw8768051478801014503:=True
def tw12353950771590161980:=True
def tw15504018583803622408:=True
def tw3471832415710112944:=True
def tw4507999047609116444:=True
def tw11619881255891972076:=True
def tw6791207474672621036:=True
def tw2858369852606195703:=True
def tw3515859280801104784:=True
def tw13881090604746614429:=True
def tw1525000389530374090:=True
def tw16525800455013189122:=True
def tw12387291135109927959:=True
def tw13323556993458227562:=True
def tw86265269009030090:=True
def tw1696615224491856977:=True
def tw14235671457332855729:=True
def tw10760628939030325061:=True
def tw5629822560633714024:=True
def tw410914578925615106:=True
def tw11565399838788174979:=True
def tw17381425636107038382:=True
def tw2869715700961635714:=True
def tw7238834901230976987:=True
def tw5159964472822038226:=True
def tw3807572424084159212:=True
def tw2067009754289904267:=True
def tw15400666174603870377:=True
def tw5887823555755771956:=True
def tw4531955124700074115:=True
def tw12163104088446186004:=True
def tw13502677160764160219:=True
def tw11241086149429513979:=True
def tw12287450731028918238:=True
def tw1420696099786150257:=True
def tw16559536677860125195:=True
def tw14032456529415837864:=True
def tw10623990502204476724:=True
def tw3448277731351750066:=True
def tw1599377575403348762:=True
def tw9491245633959968605:=True
def tw11517923751512310456:=True
def tw10735996181774426976:=True
def tw11929998557683190237:=True
def tw17547571724101103417:=True
def tw617770517605447714:=True
def tw2957647206984840478:=True
def tw6655987556647633923:=True
def tw9391183883102896718:=True
def tw15988510804446123667:=True
def tw3096449081923454806:=True
def tw8295904702405423225:=True
def tw1517892987698477460:=True
def tw5254612189981507183:=True
def tw6044271590412885590:=True
def tw2215547409494076526:=True
def tw14954914089290890561:=True
def tw16336508376246224273:=True
def tw12612360695853710967:=True
def tw17224207032125166153:=True
def tw14344040565410662914:=True
def tw15386769321408215365:=True
def tw9008626809644034559:=True
def tw17614135136243070459:=True
def tw17045471424825888769:=True
def tw3813311654102455259:=True
def tw15082921833918824153:=True
def tw9031835408954303281:=True
def tw631130015000589170:=True
def tw4667316963487665798:=True
def tw16039894226448645492:=True
def tw3659024404764114004:=True
def tw10817179292826803820:=True
def tw782878305652075227:=True
def tw5335656667250322422:=True
def tw5279206372494309433:=True
def tw4256246663617557883:=True
def tw16165631003853846551:=True
def tw16463034355757416756:=True
def tw811241684424822380:=True
def tw8947480588195375051:=True
def tw818756482831948005:=True
def tw3427261300858336908:=True
def tw247816449209892416:=True
def tw18112043605925994036:=True
def tw17098902457591828575:=True
def tw16925507851610139417:=True
def tw14942495758209876000:=True
def tw643275414956849381:=True
def tw17573503010790301921:=True
def tw17127431164897240374:=True
def tw15787665321879175217:=True
def tw14999870303708832913:=True
def tw3024539288280714710:=True
def tw2845328562568159823:=True
def tw17312406827475961803:=True
def tw15602882169755461802:=True
def tw15598750250901981643:=True
def tw14934265545169053872:=True
def tw10368194877650273235:=True
def tw13533741917662064589:=True
def tw108789232051058310:=True
def tw18002651850402477546:=True
def tw5807583481544873324:=True
def tw11376157758312508761:=True
def tw10255930343348453480:=True
def tw16857995803083016290:=True
def tw3895192705671818472:=True
def tw15108293137322220096:=True
def tw661846746265052163:=True
def tw13966928005743998406:=True
def tw6855189235436694561:=True
def tw15846997210095899385:=True
def tw4076358220101809408:=True
def tw10259314266676023746:=True
def tw15117907278595760033:=True
def tw5874485275864903512:=True
def tw5069077117876604737:=True
def tw17037994211067137446:=True
def tw16112763831175279263:=True
def tw3816995858628463778:=True
def tw15367203336409296201:=True
def tw8512944154261148043:=True
def tw8027720313102535159:=True
def tw647238962276815382:=True
def tw5220291971296412731:=True
def tw2916547243730537220:=True
def tw18374142037538923378:=True
def tw17312250518635949528:=True
def tw15371760983189672854:=True
def tw14214440017585449509:=True
def tw6466282982411223806:=True
def tw16033678112877783181:=True
def tw14980560280643876861:=True
def tw3881895826180960679:=True
def tw10267505457783831825:=True
def tw2862690444852668586:=True
def tw10411281160601371303:=True
def tw15582956307711411771:=True
def tw9448153380278826933:=True
def tw7129078364226296056:=True
def tw2175563748161010542:=True
def tw13794514450554563601:=True
def tw13077311743764708795:=True
def tw12633433792539587607:=True
def tw12119836517861586271:=True
def tw10272312114691490358:=True
def tw8594812051008242112:=True
def tw5908489669840162634:=True
def tw4231925509124426589:=True
def tw18412758176479907354:=True
def tw1763292718106604736:=True
def tw16580252821026419603:=True
def tw16348835304638669915:=True
def tw13690038482036418063:=True
def tw11345057714027867861:=True
def tw6185256496724379924:=True
def tw9486616641958753791:=True
def tw9424575303108710003:=True
def tw8406716352056309648:=True
def tw7545309918007186908:=True
def tw7264021688462110922:=True
def tw6373243772252114907:=True
def tw628185264138444814:=True
def tw6134686597871803946:=True
def tw5447703740446233596:=True
def tw5281227579140092074:=True
def tw5228657846791575289:=True
def tw4836618620594498729:=True
def tw4208171190173541903:=True
def tw3390450171169928714:=True
def tw2625762080609546746:=True
def tw2458591089452846078:=True
def tw2380070635674548206:=True
def tw212875145556441174:=True
def tw17618432395958892014:=True
def tw16578999710821707138:=True
def tw15492430545401412305:=True
def tw13710587420067348993:=True
def tw13647507771108851921:=True
def tw12957614719502376501:=True
def tw12645669230476421767:=True
def tw12322039879816065297:=True
def tw10943996679937725694:=True
def tw10208192556844435234:=True
def tw8446542054806062467:=True
def tw16815566006884404438:=True
def tw10258188570796547562:=True
def tw8357950486918194319:=True
def tw4774859064629074594:=True
def tw3010755791397369539:=True
def tw220253675605879394:=True
def tw17442141547460064423:=True
def tw8444097009779304590:=True
def tw14887985891864570818:=True
def tw6387897599338539005:=True
def tw6245008349359169498:=True
def tw613246957902032021:=True
def tw6038904034051552168:=True
def tw3814994077250064464:=True
def tw2651317628622711351:=True
def tw18217579498371944001:=True
def tw16575340605031976426:=True
def tw15943964363877085038:=True
def tw1571998124429750660:=True
def tw14398392484318370995:=True
def tw13742696453742147167:=True
def tw12764306200889854997:=True
def tw12316336744097743921:=True
def tw12845109599768355745:=True
def tw9713896539031912133:=True
def tw4456137075468583895:=True
def tw4186032233902278271:=True
def tw17605641141960468687:=True
def tw11212480052209148742:=True
def tw968565922708175339:=True
def tw9325886277621021716:=True
def tw9161952126533948119:=True
def tw9102886321806236606:=True
def tw9012495777772423392:=True
def tw8570608172490679099:=True
def tw8085683060449901057:=True
def tw783970375752738936:=True
def tw7747424724236225590:=True
def tw7650680847257425526:=True
def tw7503937275794127708:=True
def tw6800958827351869591:=True
def tw5869808015447855510:=True
def tw5816047189006270638:=True
def tw4925416434185395973:=True
def tw3793857290073967907:=True
def tw3648441675938026946:=True
def tw3579695031170931420:=True
def tw3539762555533313662:=True
def tw2288690574706311380:=True
def tw1958612838964168017:=True
def tw18414627020610194731:=True
def tw18404973916075304057:=True
def tw18082554404956308839:=True
def tw17927951393627708401:=True
def tw17431431307024329860:=True
def tw17270798629391603184:=True
def tw172173425467538369:=True
def tw16475908841025935406:=True
def tw15389506991753871315:=True
def tw153645941447988685:=True
def tw15256619963543297049:=True
def tw15224664146362942886:=True
def tw15175622028286084317:=True
def tw15052202862008007081:=True
def tw14858114562900724866:=True
def tw14653147981363394453:=True
def tw1463569777915669066:=True
def tw14201625078126970617:=True
def tw13610145661711787899:=True
def tw13444500607887660499:=True
def tw13250482246464102077:=True
def tw131874792489165302:=True
def tw12955668224795552638:=True
def tw12640894181293612097:=True
def tw12346018393656114860:=True
def tw12208609745169663359:=True
def tw12120878045129914342:=True
def tw12090447559944136706:=True
def tw11976475900131778284:=True
def tw11921174644538510466:=True
def tw1150967088285279947:=True
def tw1130346462080749642:=True
def tw10835942077581181370:=True
def tw10658415929319216661:=True
def tw10307826333958800776:=True
def tw1003505553282860619:=True
def tw15074147629399202331:=True
def tw13898075835868985336:=True
def tw14905132464798932036:=True
def tw14037042494191412093:=True
def tw15158127007915113799:=True
def tw8108853197996957624:=True
def tw7527031547764357182:=True
def tw6873135176582984708:=True
def tw5459665132244904270:=True
def tw3491480707022109414:=True
def tw12557549717569527069:=True
def tw11668937633041783007:=True
def tw2240170424680292637:=True
def tw5185123566452657616:=True
def tw7555523241253367467:=True
def tw14961055101297518214:=True
def tw9348013176647998779:=True
def tw3341295287130944639:=True
def tw16935056139990186389:=True
def tw9588755042832188452:=True
def tw8267109771885533662:=True
def tw5453046013839094425:=True
def tw4737497118114155196:=True
def tw3914521019793230966:=True
def tw9962547053565412504:=True
def tw9604474386445257256:=True
def tw9195247663755853700:=True
def tw8756689369945608751:=True
def tw8753313007077129530:=True
def tw8637725685748185987:=True
def tw847675218557058244:=True
def tw8433336766611943827:=True
def tw781818847891082453:=True
def tw7798835724042469528:=True
def tw7471318407978611735:=True
def tw7368754831051646417:=True
def tw7325786392236394303:=True
def tw7045316533448356029:=True
def tw7036274936168292072:=True
def tw7015391152108341880:=True
def tw6759689368130194524:=True
def tw6606065820166503700:=True
def tw6573299634912709045:=True
def tw6549082963966750797:=True
def tw5997438045964600264:=True
def tw5564060522733661724:=True
def tw5338615876904102363:=True
def tw506413435039424850:=True
def tw5008079802792418100:=True
def tw479116061871866362:=True
def tw4783937430469841835:=True
def tw4288486959110319117:=True
def tw3985562184407131495:=True
def tw3530923128197306021:=True
def tw3468593969301763868:=True
def tw3395798721108193305:=True
def tw333955071351613112:=True
def tw3035528669571491941:=True
def tw2675570793187226462:=True
def tw2516834718542662719:=True
def tw2471289361758812047:=True
def tw2467834074772204456:=True
def tw2405913476031848811:=True
def tw2090741586284026744:=True
def tw2016624296430495824:=True
def tw18186758249732686446:=True
def tw1809275702658800939:=True
def tw17987140413279466109:=True
def tw17834960459320893017:=True
def tw17700642983219187870:=True
def tw17669693046750144980:=True
def tw17556718776455477476:=True
def tw17512585422393792203:=True
def tw16632412646405863010:=True
def tw16171079827568377465:=True
def tw16111143236273564424:=True
def tw15839217758416730843:=True
def tw15671422170062835688:=True
def tw15630975350119686441:=True
def tw15551721841591467282:=True
def tw15340704249092173877:=True
def tw15165589025990843892:=True
def tw14621329409476830893:=True
def tw14465631149209072574:=True
def tw13690374400799911213:=True
def tw13596853016670638296:=True
def tw13576614674735996538:=True
def tw13196144301135198406:=True
def tw13024510229141855195:=True
def tw13008473579939357396:=True
def tw12816270527561181899:=True
def tw1278439832027383453:=True
def tw12428666176620585046:=True
def tw12373734858553553874:=True
def tw11930666787746965326:=True
def tw11622046544630060755:=True
def tw11495589942620545244:=True
def tw11436824940056412632:=True
def tw10977125204433074156:=True
def tw10918595824137371575:=True
def tw10842400841563176010:=True
def tw10668813369555312409:=True
def tw10307031640359994275:=True
def tw10116280429768140906:=True
end PySem.W.Fast
open PySem PySem.W PyProof.Rows
set_option tactic.hygienic true
set_option bootstrap.genMatcherCode true
set_option maxHeartbeats 0
theorem PySem.Challenge.cw_callstrings_s01_answers_holds : PySem.Challenge.rw_callstrings_s01_answers.Holds := by
  have wS := ws0
  w_on; k_headS; (case hw => exact ⟨[.list [.int 2]], by decide +kernel, by decide +kernel⟩)
  k_fillS
  refine _root_.azg (r := PySem.Challenge.rw_callstrings_s01_answers) (k := 19) (da := _root_.bH) (ay := ["calls"]) (bX := _root_.yz) (by decide +kernel) rfl rfl ⟨rfl, by decide, by decide⟩ (fun w h Y => PySem.W.kIn_of Y) ?F ?S (fun _ _ _ _ z => z)
  case S => exact fun K H xs a _ _ hask hx => _root_.azq hask hx
  case F =>
    intro w mg fa h Y KX G hmg
    exact _root_.azp KX G hmg (by k_is) (by k_is) (by k_is) (by k_is) (by k_is) (by k_is) (by k_is) (by k_is) (by k_is) (by k_is) (by k_is) (by k_is) (by k_is) (by k_is) (by
        intro d _ _ e hF
        subst e
        apply @_root_.ci.mk (_)
        all_goals try first | apply @_root_.PX.mk (_) | apply @_root_.PZ.mk (_) | apply @_root_.Za.mk (_) | apply @_root_.Zb.mk (_) | apply @_root_.amR.mk (_) | apply @_root_.amS.mk (_) | apply @_root_.amT.mk (_)
        all_goals try apply @_root_.j_.mk (_)
        all_goals first
          | exact hF
          | exact _root_.azh
          | exact _root_.azk
          | exact _root_.azl
          | exact _root_.azi KX G
          | exact _root_.azj KX G
          | exact PySem.W.mg_none_of KX G (by k_is)
          | exact ⟨_, PySem.W.mg_of KX G (by k_is)⟩
          | exact ⟨PySem.W.mg_of KX G (by k_is), _root_.azm⟩
          | exact _root_.azo KX G (by decide) (by (try dsimp only); k_is) (by (try dsimp only); k_is) (by repeat' first | exact .K | refine .R rfl rfl (PySem.W.mg_of KX G (by (try dsimp only); k_is)) ?_)
          | exact ⟨_, PySem.W.mg_of KX G (by (try dsimp only); k_is), _root_.azn (by (try dsimp only); k_is) (by repeat' first | exact .nil | refine .cons rfl ⟨_, rfl⟩ ?_)⟩)
