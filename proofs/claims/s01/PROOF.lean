import PyProof.Rows.All
import Wide.All
import OpenK.AllK
import Wide.FinOn
import PyProof.EqAt
import PyProof.EqKinds
import PyProof.TupleCall
import KE.BitLaws
import PySem.Challenge.RW_tangledfiles_s01_answers
import Open.SpecLaws
import KE.OsHead
import KE.OsGo
import PyValitc
import ValitcNeutral
import Open.Pieces
set_option Elab.async false
set_option linter.all false
set_option maxRecDepth 100000
set_option maxHeartbeats 0
set_option bootstrap.genMatcherCode false
set_option compiler.extract_closed false
set_option genSizeOf false
noncomputable section
open _root_ renaming rfl->D,List->J,Nat->M,Int->Z,Option->É,if_neg->Ó,if_pos->à,Bool->ě,congrArg->Ğ,decide_eq_false->Ņ,decide_eq_true->ő,Array->ŕ,beq_eq_false_iff_ne->Ş,UInt8->ϔ,False->Ϡ,Except->di,decide_eq_true_eq->dN,beq_iff_eq->gI,of_decide_eq_true->iy,DecidableEq->iW,String->jC,if_false->lH,if_true->oK,True->Cm,Unit->Vc,of_decide_eq_false->Vh,Decidable->Yc,beq_self_eq_true->YA
open Option renaming some->B,none->g,map_eq_some_iff->Ü,map_some->iY,bind_some->kO,isSome_iff_exists->oE,isSome_map->wz,bind_eq_some_iff->ES,isSome_some->LB,getD_none->OG
open List renaming length->L,mem_of_getElem?->υ,length_map->Ε,length_append->Ω,mem_cons_of_mem->Ç,getElem?_map->Ë,getElem?_eq_some_iff->Ð,length_cons->Ñ,mem_cons_self->Ö,map_append->Ý,mem_cons->ç,mem_append->î,mem_append_right->ò,append_nil->ö,map_cons->þ,getElem?_eq_getElem->ą,flatMap_append->ċ,take_length->č,mem_singleton->đ,contains_iff_mem->ē,flatMap_cons->ĕ,all_eq_true->Ě,take_succ->Ĝ,size_toArray->ġ,map_map->Ħ,take_append_drop->Ĩ,drop_eq_getElem_cons->ĩ,mem_append_left->Ĭ,foldl_append->ļ,length_take->ŀ,mem_map->ń,mem_flatMap->ŋ,mem_map_of_mem->ō,length_nil->ŭ,flatMap_nil->Ů,getElem?_of_mem->ŵ,eq_nil_of_length_eq_zero->Ŷ,zipIdx_cons->ż,range->ſ,append_assoc->ϊ,nodup_cons->ϐ,length_singleton->Ϝ,drop_of_length_le->Ϭ,map_congr_left->ϰ,find?_cons->ϲ,length_drop->Ϸ,getElem?_set_self->dM,flatMap_def->dY,getElem?_eq_none->eg,nodup_nil->fU,getElem?_cons_succ->fV,take_of_length_le->gm,dropLast_concat_getLast->gz,mem_zipIdx_iff_getElem?->gA,countP_singleton->gG,length_filter_le->gH,nodup_append->gP,map_nil->iA,filter_cons->iC,getElem?_append_left->iG,filterMap_cons->iQ,length_filterMap_le->jh,foldl_cons->ju,mem_filterMap->jy,countP_append->jz,contains_cons->jA,filter_append->jB,all_map->j5,flatMap_map->lE,all_cons->lI,getElem?_set_ne->lU,nil_append->mu,getD_eq_getElem?_getD->nH,take_zero->nI,any_cons->pK,cons_append->qt,getElem?_cons_zero->qu,zipWith->qZ,mem_filter->q1,of_mem_zip->q3,lookup->tM,dropLast_concat->tR,getElem?_zipIdx->tS,length_pos_iff->u9,map_fst_zip->zB,map_snd_zip->zC,drop_length->zE,range_succ->Cf,filter_nil->Ci,getElem?_append_right->Dn,drop_zero->Dv,exists_cons_of_ne_nil->Dz,map_drop->Ge,sum_cons->Gh,take_nil->Gk,length_eq_zero_iff->Gz,getLast?_cons_cons->GD,getElem?_toArray->JL,set_append_right->JN,filterMap_append->JP,length_dropLast->LH,mem_erase_of_ne->LJ,mem_of_mem_take->LK,mem_of_mem_drop->LL,take_succ_cons->M0,zipIdx_append->OJ,lookup_cons->RM,prefix_refl->RW,any_eq_true->RX,mem_reverse->RY,length_set->Sb,filter_map->Sm,mem_range->Uy,replicate->UA,forIn_nil->UB,map_take->Vi,drop_nil->Vl,any_map->XU,flatMap->XX,all_nil->XZ
open PySem renaming Addr->O,Str->S,Value->z,wpAny_bind->Λ,wpAny_pure->Ê,Shared->Í,sizeLine_eq->Î,starEach->ë,wpAny->ô,model->ă,Paired->ď,mainGlobals->ĺ,mem_of_lookup->Ľ,World->ś,Program->Ŝ,eval->Ŧ,wpAny_holding->Ũ,IsTupleKey->ū,compareOp->Ų,Around->ź,wpAny_mono->Ż,Expr->Ž,Heap->ό,cellsFrom->ϑ,tupleKind->ϗ,sysModules->ϟ,wpAny_truthy_bool->Ϣ,backTo->ϴ,wpAny_Call_Name_kw->c5,treeTable->dO,Stmt->dP,typeLookup->dR,cLine->d_,attributeBase->eo,keywordEach->er,DictEntry->ez,NameKind->fQ,SetTable->fR,Obj->gf,wpAny_typeNameOfWhole_keyiter->gE,codeAny_mono->gJ,tupleKind_room_in1->gM,wpAny_passesOwn->g7,codeAny_builtin->g8,behindInMarks->ic,plainId_quiet->ie,compEnvC->iX,wpAny_typeLookup_exc->i8,FuncData->jR,call->jS,backToKw->jT,wpAny_typeNameOf_keyiter->jX,codeAny->j4,OsState->j6,importedModules->j7,Scope->kK,swapsWith->kL,hashByValue->kN,Pos->kX,wpAny_pyIter_list->lF,wpAny_newObj_type->lJ,wpAny_seqItems->lK,wpAny_dictEntries->lM,wpAny_setField->lN,wpAny_setState_of->lO,plainObj_wpAny_Assign_Attribute->lX,wpAny_notOrdered_dict->mq,rawInt->mz,wpAny_call->mC,holding->ni,wpAny_standAt->nj,Keyword->nq,sliceBounds->nE,codeAny_call_builtin->nF,wpAny_execs_nil->n_,storedH->oM,wpAny_typeOf->oN,pushCells->pL,foldedSetIterable->qS,Builtin->qU,Env->sG,GenState->sY,binaryOp->sZ,getMethod->s7,noteFrame->s9,wpAny_call_entry->s_,wpAny_callSpecial?_slot->tg,boot_len->tn,KeyKind->tL,bootBuiltins->uh,assignEach->um,wpAny_pyNext_list_item->uo,call_meets->uq,instanceDict->ux,pushCells_keeps->u5,Within->vc,wpAny_pyNext_list_end->vd,atKey->wI,wpAny_field->wM,setAttr->xN,setFlight->xS,setSearchFrom->zz,pyNext->z5,PyData->z6,wpAny_rule->z8,Params->z_,standAt->Co,BindsTo->Cp,callWith->Cq,concat_meets->Cr,valueAt->Ct,call_meetsIn->Cu,callerA->Cy,ofAClassStatement->CA,wpAny_lookBehind->EJ,pastItsLine_dict->EK,noFill_tuple_add->EL,wpAny_forIn_list->ET,subscripted->Gd,letOwnedTupleGo->Gu,wpAny_dictEpoch->Gw,size_of_entries->Gx,getAttr->Jh,getItem->Jl,notedBy->Jm,builtinsNs->Jz,assign->JA,Operator->JB,wpAny_loadPart->JC,recursionLimit->JE,wpAny_newFunctionEnv_cells->JG,seq_tuple_add->MV,wpAny_attempt->MX,Arguments->OF,Result->OX,pyIter->OY,wpAny_nsSet1->OZ,seqIndex_neg->O0,typeOf->O2,wpAny_isTrue_Compare1->RJ,codeAny_call_function->RL,wpAny_isOneOf_keyiter->RN,wpAny_eqIsQuiet_tuple->RT,wpAny_loadName_local->R7,bindArgs->R8,bindL->R9,bindC->R_,seqIndex_of->Sa,storedH_new->Sl,wpAny_loadName_cell->Uz,isTrue->Vd,wpAny_Name->Ve,Tok->Xy,wpAny_assign_Name->XC,slot_list_getitem->XF,wpAny_Call_method->XG,wpAny_pyIter_slot->XH,wpAny_pyIter_enum->XI,wpAny_storeSet_of->XN,wpAny_loadPart_at->XT,Sem->Yd,storeName->Ye,wpAny_execs_cons->Yg,inplaceOp->Yh,PassesOwn->Yi,wpAny_getItem_of->Yx,wpAny_Dict_empty->Yy,kt_code_dict_new->Yz,onTheHeap->YF
open Bool renaming true->U,false->Τ,and_eq_true->ø,false_ne_true->Ę,and_eq_true_iff->Ő,noConfusion->Ř,true_and->Ϟ,false_and->Ϫ,and_false->ϭ,eq_iff_iff->ϱ,not_eq_false->fB,false_or->jg,or_eq_false_iff->tQ,false_eq_true->wu,true_eq_false->wB,true_or->xO,beq_comm->Gf,and_true->Gm,not_eq_true'->O_,not_eq_true->RU,or_eq_true->Sd,and_assoc->UG,not_true->Vk,or_true->XQ
open PySem.W renaming Frag->Ζ,kitOne->Ģ,findIn->Ń,keepIn->ũ,kia_one->ϛ,emptyDict->ϧ,nsIn->϶,instObj->cZ,callWith_K->dQ,fnOf->eB,boot_heap->eH,WData->i0,plainGet->kj,codeIn->mD,segRunT->nA,topStub->nB,hasDictIn->nG,isFn->pU,cellsFrom_some->pV,makesIn->qs,methodCall_KW->qJ,lookIn->q2,plainGet_of->s6,mroIn->tN,alive->tP,Looks->tT,boot_drawn->uv,plainOver->ve,specialIn->vf,WellAll->xP,boot_toks->xQ,takerIn->yJ,takesIn->yK,length_le_weightAllW->yN,nsOkIn->Ac,WalkOS->ER,callWith_K0->Jj,os_pre_some->Jp,codeRec_of->JF,enter_call->JH,openSeen->JJ,openGood->JK,isNs_of_in->JM,methodObj->Lx,kitx_list->Lz,kitx_dict->LA,handedIn->MU,WRecords->MY,recOk->XJ,OpenSpec->aab,Well->abg,Codec->abh,ReadsW->abj,ReadsAllW->abk
open Nat renaming zero_le->Ò,le_refl->Õ,le_trans->Ć,ne_of_lt->ė,lt_of_lt_of_le->ĭ,le_of_lt->š,zero_add->ύ,not_lt_zero->ϳ,succ_pos->cU,lt_succ_self->d9,lt_trans->fE,lt_irrefl->gD,le_succ_of_le->g6,le_of_eq->iF,add_zero->iH,ne_of_gt->ki,lt_succ_of_lt->ko,add_le_add_left->nt,le_of_succ_le->pM,lt_trichotomy->pO,min_eq_right->qL,min_eq_left->sH,sub_self->yO,le_of_lt_succ->yP,le_succ->Cb,not_lt->EU,mul_le_mul->EX,add_sub_cancel_left->Jt,eq_of_beq_eq_true->LM,mul_le_mul_right->M3,mul_add->M4,mul_le_mul_left->OM,mod_lt->O7,lt_of_le_of_ne->O9,succ_le_succ->Sf,strongRecOn->UD,le_antisymm->UH,sub_zero->YB,beq->YC
open PySem.Heap renaming get?_push_of_some->ß,lt_size->û,get?_push_size->Ą,get?_update_self->Ū,size_push->ϝ,SameBut->ϡ,get?_update_other->ϫ,get?_update_ne->iR,get?_none_of_le->Ly,size_update->RV
open Decidable renaming decide->ã
open PySem.Value renaming ref->æ,none->ž,type->d8,bool->nC,int->pS,builtin->u6,str->yI,float->Jy,isStrOf->Ux,isInt->Xx,bytes->Xz
open Valita renaming Text->ê,Document->ó,chunksOf->ć,putNew->Ċ,Name->Đ,isShort->ħ,lineCount->į,usedInLine->ķ,settingIn->ĸ,namesOf->Ĺ,sameName->Ō,filesOf->Ŗ,partsOf->ř,namesIn->Ś,Reading->Š,Piece->Ť,isArgument->ű,distinct->ų,settingsOf->Ŵ,usedIn->ŷ,cutAt->ώ,isSign->ϒ,paramsIn->ϸ,isSmall->ϻ,isName->cP,isDigit->eu,lineRead->gu,piecesOf->g5,Chunk->iz,allOf->iB,scan->i7,innerRead->jt,withLine->lP,outerRead->mE,Line->oO,readDocument->oQ,linesRead->pP,useOf->pX,CHUNK->qv,isGreat->sI,feed->uw,isPath->wC,lineOf->wL,withLit->xR,FILE->yQ,NEST->yR,Block->zF,headOf->EV,IF->EW,ELSE->Jr,paramsOf->JQ,END->LI,FI->OI,argumentsOf->Sh,BLOCKS->Si,isWord->Sj,Fault->UE,Scan->YE,Place->abl,linesOf->abm
open Valitc renaming Place->ú,placeOf->Ĕ,textOf->ę,Fault->ł,useMade->Ŋ,liveFrom->Œ,Call->ş,does->ŧ,placeNumbers->ϓ,natural->ϙ,linesMade->ϩ,indented->ϯ,toldText->ϵ,State->Ϲ,pairNumbers->cV,idle->dZ,Made->e8,tell->e9,placesWhere->e_,homeNumbers->fG,Code->fL,tangled->fS,step->f5,lineMade->gw,placeIn->iD,pieceAt->iI,onMade->iS,codeOf->jv,settingsIn->jQ,pieceMade->kP,Result->kY,aloneOf->oG,isLive->oH,argBytes->qW,isLit->qX,isArg->qY,reached->q6,Using->u7,one->u_,isCodeLine->wD,usedBy->wN,Byte->Gg,Env->GA,Alone->GB,litBytes->GC,isOk->Js,faultNumbers->JS,doArgument->M5,toldTexts->ON,doWhere->RZ,putNew->Sk,start->UI,differAt->aac,Home->abi,reachFrom->abn
open PySem.PassesOwn renaming never->ğ
open Option.some renaming inj->ĥ,injEq->iZ
open Array renaming getElem?_eq_some_iff->Ĵ,getElem?_eq_getElem->ϕ,getElem?_toList->Ϙ,getD_eq_getD_getElem?->gF,length_toList->iE,getElem?_eq_none->jW,mem_toList_iff->lG,replicate->Ae,toList->Gs,find?_toList->MT,forIn_toList->MZ,size_map->Se
open PySem.SetTable renaming insertAt->Ļ,runEnd->jE,turns->oF,fill->tu,tooFull->wA,below->zy,laid->Cg,fresh->OH,bits->O6,slot->O8,leap->Vj,Probe->XM
open PySem.W.Fast renaming te10110043849684766642->ľ,te14364793385576792824->Ŀ,te4187177175401517315->qV
open False renaming elim->ŏ
open ValitcNeutral renaming whole60->ŗ,text?->ţ,natural->Ϩ,step->fF,asked1->oR,callOf->Af,encode->YG,asked->YH
open Int renaming toNat_natCast->Ţ,toNat_of_nonneg->dI,zero_add->JO
open PySem.PyData renaming int->Ŭ,depthAll->eG,canLayAll0->e7,eqvAll->fz,eqv->jf,canLay0->Ce,depth->UC
open PySem.F renaming plainAttrs_list->ϋ,slot_dict_keyiterator_next->Ϧ,store_Exception->cX,attrBase_Exception->dS,called_set->i6,slot_list_index->je,slot_list_append->jD,slot_list_getattribute->kq,args_tuple_add_2->oi,type_list_append->oj,entry_tuple_add->oJ,slot_tuple_add->pW,slot_dict_get->qK,slot_list_pop->ur,slot_dict_setdefault->yS,kt_typeCall_dict_1->z7,args_list_index_2->Cc,slot_dict_getitem->Cd,excBase_Exception->Cj,entry_list_index->Cs,args_dict_init_2->Cv,args_dict_keyiterator_next_1->Cw,args_dict_get_3->Dq,plainAttrs_dict->Dr,entry_dict_init->Ds,entry_dict_keyiterator_next->Du,type_list_index->Dy,entry_dict_get->EM,kt_called_dict->EN,slot_dict_keyiterator_iter->EO,type_list_pop->Gj,slot_list_extend->JR,slot_dict_iter->Vg,slot_dict_len->XW
open True renaming intro->Ϗ
open Ne renaming symm->Ϛ
open PyValitc renaming shape->Ϻ,answers->j9,answers_asked->pQ,whole->OO,calls->OP
open PySem.Heap.SameBut renaming update->eE
open PySem.Around renaming under_plainId->eZ,under->Gb,frames_deeper->Jk
open Valita.Block renaming chunk->fc,prose->XY
open PySem.Obj renaming mapFields->fK,data_mapFields->gr,isFreed_of_fields->gO,mapSeq->q4,putSet->wK,data_mapDictKeys->M1,cls_mapFields->RO
open PyFlat renaming calls->gg,rows->jw,played->So,told->Vm
open Prod.mk renaming injEq->gn
open PyProof.Rows renaming envOfC->gK,callWith_type1->kM,callWith_builtin1->tO,AllBare->xM,IsTup->Ga,Constant_none->MS,subscriptTail_builtinR->O1,iadd_int->RK,Subscript_->Vf
open Classical renaming byContradiction->gZ,not_not->Jq
open PySem.Calls renaming spliced_cons->jr,callWith_builtin->jU,evalArgs_plain->s8,spliced_nil->wH,Name_function_global->Cn
open PySem.SeqAt renaming shaped->jV,readOf->wO,list_indexAt->MW,EqAt->Yv
open PySem.W.Codec renaming encAll->jY,denoteAll->lY,app->ny,withinAll->Aa,encAll_of_decAll->Gy
open PyProof.Rows.F renaming plain_set_update_loop->j8,entry_set_update_loop->LG
open PySem.Builtin.List renaming listTooLong->mj
open PySem.W.Looks renaming ld->mF,here->Yt
open Or renaming inl->nv,inr->RP
open ForInStep renaming yield->pN
open List.cons renaming inj->sJ
open PySem.SetTable.layClean renaming free->tw
open Except renaming ok->tD
open PySem.SetTable.probe renaming go->wJ
open PySem.Builtin.Dict renaming updateFrom->yL,showsAll->z9
open PySem.Str renaming ofString->yM
open UInt8 renaming ofFin->zA,ofNat->zD,toNat_inj->Ab
open PySem.Within renaming cons->Ca
open PySem.SetTable.below renaming go->Cz
open Sum renaming inl->Dl,inr->Jx
open PySem.SeqAt.EqAt renaming int_str->F9,str_int->F_
open PySem.Builtin.ObjectAttr renaming storeInDict->Gi,noDictFor->OL
open PySem.Code renaming isFrame->Ji,frames->Yu
open PySem.Heap.DictOf renaming new->Jo
open PySem.Heap.Ns1 renaming of_empty->JD
open PySem.W.OpenSpec renaming post_iff->JI
open Prod renaming ext->LC,snd->LF
open PySem.Value.type renaming inj->LD
open PySem.NameKind renaming free->O3,cell->O4
open PySem.W.WData renaming layableAll->O5,weightAll->RQ
open Nat.succ renaming inj->RS
open PySem.Builtin.Frozenset renaming updateFrom->Sg
open PySem.CmpOp renaming NotIn->XA
open PySem.Heap.IsSliceOf renaming new->XE
open PySem.Moved renaming trans->XO
open Valita.Piece renaming param->XS
open PySem.Data renaming fields->Yj
open PySem.Builtin.Range renaming rangeSize->Yk
open PySem.EqMixed renaming eq_bool_str->Yl,eq_int_str->Ym,eq_str_bool->Yn,eq_str_int->Yo,ne_bool_str->Yp,ne_int_str->Yq,ne_str_bool->Yr,ne_str_int->Ys
open PySem.Walks renaming list->Yw
open List.Pairwise renaming filterMap->YD
open PySem.EqNone renaming eq_none_none->Z5,eq_none_bool->Z6,eq_none_int->Z7,eq_none_str->Z8,eq_bool_none->Z9,eq_int_none->Z_
open PySem PySem.Spec PyProof.Rows
theorem bM{p:Prop}[Yc p](h:ã p=U:=by exact rfl):p:=iy h
variable{C œ a b ξ f p:O}{K:Ζ}{e:Ž}{Η ï i j m:M}{Δ θ:J S}{E:z->Í->Prop}{Α:ŕ<|Z×z}{v:z}{P prog:Ŝ}{w:ś}{Č Ī η:S->É z}{Ξ h h':ό}{st:dP}{Ä:jR}{o:gf}{c:iz}{Q:Vc->Í->Prop}{Ν:Type}{q:S}{é:ŕ<|É M}{n:Đ}{Χ:OX->Í->Prop}{l on:J Đ}{nest:J ě}{d:ó}{χ:J O}{Ø:J ê}{ĝ:kX}{vs:ŕ z}{ns:J M}{aC:J<|O×gf}
theorem aL{p:Prop}(h:p:=by lia):p:=h
theorem bh{p:Prop}(h:p:=by simp):p:=h
theorem fX{p:Prop}(h:p:=by simp_all):p:=h
theorem xV{p:Prop}(h:p:=by grind):p:=h
namespace L2
variable{Ï Μ:J z}{C a b d:O}{o:gf}{P prog:Ŝ}{w:ś}{h h':ό}{e ĉ:Ž}{K:Ζ}{aC:J<|O×gf}{i n t':M}{ch:J O}{è:Model}{A:ź}{E Q:z->Í->Prop}{Ν:Type}{ý:CmpOp}{Α:ŕ ez}{f:z->z->Yd z}{ù:Yd ě}{Č η:S->É z}{eU:J<|S×z}{Ä:jR}{θ:J S}{Ρ:kK}{own:J<|S×M}{eO:ś->ό->Prop}
def bx{G:Prop}(h:∀P:Prop,(G->P)->P):G:=h G id
abbrev bW:=Sum Z S
noncomputable def pB:bW->z->ě
 |.inl k,v=>Xx k v
 |.inr x,v=>Ux x v
noncomputable def aba (w:ś):bW->Z
 |.inl k=>hashInt k
 |.inr x=>hashStr w x
theorem cT:∀{k:bW} {v:z},pB k v=U->(∃i t,k=Dl i/\v=pS i t)\/(∃x t,k=Jx x/\v=yI x t)
 |.inl i,v,a=>by obtain⟨t,b⟩:=Value.isInt_shape (k:=i) (v:=v) a;exact .inl ⟨i,t,D,b⟩
 |.inr x,v,a=>by obtain⟨t,b⟩:=Value.isStrOf_shape (x:=x) (v:=v) a;exact .inr ⟨x,t,D,b⟩
def Ng(i:Z)(t:Xy):pB (.inl i) (.int i t)=U:=by simp[pB,Xx]
def Oe(x:S)(t:Xy):pB (.inr x) (.str x t)=U:=by simp[pB,Ux]
theorem Xd(a b:Z):ã ((Dl a:bW)=Dl b)=(a==b):=by lia
theorem Xk(a b:S):ã ((Jx a:bW)=Jx b)=ã (a=b):=by simp
theorem VS(a:Z)(b:S):ã ((Dl a:bW)=Jx b)=Τ:=Ņ (λd=>nomatch d)
theorem VY(a:S)(b:Z):ã ((Jx a:bW)=Dl b)=Τ:=Ņ (λd=>nomatch d)
noncomputable def aZ (prog:Ŝ) (w:ś):tL prog w bW where
 is:=pB
 hash:=aba w
 inj:=λv a b m l=>by
  rcases cT m with⟨i,t,rfl,rfl⟩|⟨x,t,rfl,rfl⟩
  .rcases cT l with⟨j,u,rfl,e⟩|⟨y,u,rfl,e⟩
   .injection e with d _;rw[d]
   .exact nomatch e
  .rcases cT l with⟨j,u,rfl,e⟩|⟨y,u,rfl,e⟩
   .exact nomatch e
   .injection e with d _;rw[d]
 byValue:=λk v h=>by rcases cT h with⟨i,t,rfl,rfl⟩|⟨x,t,rfl,rfl⟩<;>rfl
 pyHash:=λf h=>by
  rcases cT f with⟨i,t,rfl,rfl⟩|⟨x,t,rfl,rfl⟩
  .exact wpAny_pyHash_int h
  .exact wpAny_pyHash_str h
 eqBool:=λn f h=>by
  rcases cT n with⟨i,t,rfl,rfl⟩|⟨x,t,rfl,rfl⟩
  .rcases cT f with⟨j,u,rfl,rfl⟩|⟨y,u,rfl,rfl⟩
   .rw[Xd]at h;exact wpAny_eqBool_int h
   .rw[VS]at h;exact F9 i t y u _ _ _ _ h
  .rcases cT f with⟨j,u,rfl,rfl⟩|⟨y,u,rfl,rfl⟩
   .rw[VY]at h;exact F_ x t j u _ _ _ _ h
   .rw[Xk]at h;exact wpAny_eqBool_str h
 «strs»:=λk x t v h=>by
  rcases cT h with⟨i,u,rfl,e⟩|⟨y,u,rfl,e⟩
  .exact nomatch e
  .injection e with d _;subst d;cases v<;>rfl
def GN(prog:Ŝ)(w:ś)(i:Z)(t:Xy):(aZ prog w).is (.inl i) (.int i t)=U:=Ng i t
def HC(prog:Ŝ)(w:ś)(x:S)(t:Xy):(aZ prog w).is (.inr x) (.str x t)=U:=Oe x t
inductive V where
 |b_|bl (b:ě)|int (i:Z)|str (x:S)|H7 (b:ŕ ϔ)|U4 (b:UInt64)|ref (a:O)|ty (n:jC)
 deriving iW
variable{N:J V}{y:V}{Β:J<|J bW×V}
def bE:V->z->Prop
 |.b_,u=>u=ž
 |.bl b,u=>u=nC b
 |.int i,u=>∃t,u=pS i t
 |.str x,u=>∃t,u=yI x t
 | .H7 b,u=>∃t,u=Xz b t
 | .U4 b,u=>∃t,u=Jy b t
 |.ref a,u=>u=æ a
 |.ty n,u=>u=d8 n
abbrev bz:J V->J z->Prop:=ď bE
theorem bz.length(r:bz N Μ):L N=L Μ:=Paired.length r
theorem bz.get:∀{N:J V} {Μ:J z} {i:M} {x:V},bz N Μ->N[i]?=B x->∃u,Μ[i]?=B u/\bE x u
 |_,_,_,_,.nil,a=>by simp at a
 |_,_,0,_,.cons b _,a=>by simp at a;subst a;exact⟨_,D,b⟩
 |_,_,i+1,x,.cons _ d,a=>by obtain⟨u,e,f⟩:=bz.get (i:=i) (x:=x) d (by simpa using a);exact⟨u,by simpa using e,f⟩
theorem bz.set{x:V}{u:z}(r:bE x u):∀{N:J V} {Μ:J z} (i:M),bz N Μ->bz (N.set i x) (Μ.set i u)
 |_,_,_,.nil=>.nil
 |_,_,0,.cons _ a=>.cons r a
 |_,_,i+1,.cons b a=>.cons b<|bz.set r i a
theorem bz.append:∀{N Å:J V} {Μ b:J z},bz N Μ->bz Å b->bz (N++Å) (Μ++b)
 |_,_,_,_,.nil,a=>a
 |_,_,_,_,.cons d e,a=>.cons d<|bz.append e a
theorem bz.take:∀{N:J V} {Μ:J z} (n:M),bz N Μ->bz (N.take n) (Μ.take n)
 |_,_,0,_=>.nil
 |_,_,_+1,.nil=>.nil
 |_,_,n+1,.cons a b=>.cons a<|bz.take n b
theorem bz.drop:∀{N:J V} {Μ:J z} (n:M),bz N Μ->bz (N.drop n) (Μ.drop n)
 |_,_,0,a=>a
 |_,_,_+1,.nil=>.nil
 |_,_,n+1,.cons _ b=>bz.drop n b
def l_:É V->É z->Prop
 |some v,B u=>bE v u
 |none,g=>Cm
 |_,_=>Ϡ
def KV{ñ:Type}:J (ñ×V)->J (ñ×z)->Prop:=ď λ(p:ñ×V) (q:ñ×z)=>p.1=q.1/\bE p.2 q.2
noncomputable def kV:bW->V
 |.inl i=>.int i
 |.inr x=>.str x
inductive HO where
 |Y(N:J V)
 |bO(N:J V)
 |dK(Β:J<|bW×V)|dT (Β:J<|J bW×V)
 |set(χ:Z->ě)(n:M)
 |aE(C ξ:O)(fs:J<|S×V)
 |own(x:O)
 |xd(fs:J<|S×V)
 |met(f x:O)
 |rng(lo Á:Z)
 |jZ(o:gf)(u:HO)
 |UU(θ:ŕ z)
 |ext(a:ό->Prop)
abbrev Hp:=O->É HO
variable{H R:Hp}
noncomputable def T (H:Hp) (a:O) (o:HO):Hp:=λb=>if b=a then B o else H b
theorem af{o:HO}:T H a o a=B o:=by unfold T;rw[à D]
theorem au{o:HO}(h:b≠a):T H a o b=H b:=by unfold T;rw[Ó h]
theorem cy{o u:HO}:T (T H a o) a u=T H a u:=by funext b;unfold T;split<;>rfl
theorem bB{o u:HO}(h:H a=B o)(h':H b=B u)(d:o≠u):a≠b:=by lia
theorem ao{o:HO}(h:H a=B o)(h':H b=g):a≠b:=by lia
section
variable(P:Ŝ)(w:ś)
def cL(H:Hp)(h:ό)(a:O):HO->Prop
 | .Y N=>L N<=sizeLine/\∃(Ï:J z) (n:M),bz N Ï/\h.get? a=B {cls:=.type "list",data:=.seq Ï.toArray n}
 |.bO N=>L N<=sizeLine/\∃Ï:J z,bz N Ï/\Ga h a Ï.toArray
 |.dK Β=>L Β<=sizeLine/\(a==ϟ)=Τ/\∃vs,KV Β vs/\h.DictOf (aZ P w) a vs
 |.dT Β=>L Β<=sizeLine/\(a==ϟ)=Τ/\∃N:J<|J bW×O×z,
  ď (λ(p:J bW×V) (q:J bW×O×z)=>p.1=q.1/\H q.2.1=B (.bO<|p.1.map kV)/\bE p.2 q.2.2) Β N/\
  ∃o Α ï,h.get? a=B o/\o.ExactDict/\o.data=.dict Α ï/\Α.toList=N.map (entryOfKey<|ϗ<|aZ P w)/\(N.map (·.1)).Nodup
 |.set χ n=>h.SetOf (intKind P w) a χ n
 |.aE C ξ fs=>H ξ=B (.own a)/\L fs<=1000/\ξ≠a/\h.get? a=B (cZ C ξ)/\
  ∃Č,h.Ns1 ξ Č/\(∀f,l_ (fs.lookup f)<|Č f)/\vc Č (fs.map (·.1))
 |.own _=>∃o,h.get? a=B o
 |.xd fs=>∃Č,h.Ns1 a Č/\∀f,l_ (fs.lookup f)<|Č f
 |.rng lo Á=>∃t u v,h.get? a=B {cls:=.type "range",data:=.fields #[.int lo t,.int Á u,.int 1 v]}
 |.jZ o u=>h.get? a=B o/\cL H h a u
 | .UU θ=>h.get? a=B {cls:=.none,data:=.fields θ}
 |.met f x=>h.get? a=B (Lx (.ref f)<|.ref x)
 |.ext b=>b h/\(∃o,h.get? a=B o)/\∀á í:ό,b á->(∀o,á.get? a=B o->í.get? a=B o)->b í
def qN(H:Hp)(h:ό):Prop:=∀a o,H a=B o->cL P w H h a o
end
section
variable{o:HO}
theorem cL.lt(x:cL P w H h a o):a<h.objs.size:=by
 cases o with
 |Y d=>obtain⟨_,_,_,_,b⟩:=x;exact û b
 |bO d=>obtain⟨_,_,_,e⟩:=x;exact e.lt
 |dK f=>obtain⟨_,_,_,_,o,_,_,b,_⟩:=x;exact û b
 |dT f=>obtain⟨_,_,_,_,o,_,_,b,_⟩:=x;exact û b
 |set k l=>obtain⟨o,_,_,_,b,_⟩:=x;exact û b
 |aE m n i=>obtain⟨_,_,_,b,_⟩:=x;exact û b
 |own j=>obtain⟨_,b⟩:=x;exact û b
 |xd i=>obtain⟨_,⟨_,_,_,b,_⟩,_⟩:=x;exact û b
 |rng lo p=>obtain⟨_,_,_,b⟩:=x;exact û b
 |jZ q r=>obtain⟨b,_⟩:=x;exact û b
 |UU s=>exact û<|show h.get? a=B _ from x
 |met t j=>exact û<|show h.get? a=B _ from x
 |ext u=>obtain⟨_,⟨_,b⟩,_⟩:=x;exact û b
theorem Paired.VP{Ν d:Type}{e G:Ν->d->Prop}:∀{f:J Ν} {h:J d},ď e f h->(∀a b,e a b->G a b)->ď G f h
 |_,_,.nil,_=>.nil
 |_,_,.cons j k,i=>.cons (i _ _ j)<|Paired.VP k i
def cL.stay(x:cL P w H h a o)(k:∀b u,(b=a\/H b=B (.own a))->h.get? b=B u->h'.get? b=B u)
  (A:∀b,H b=B (.own a)->R b=B (.own a)) (C:∀b N,H b=B (.bO N)->R b=B (.bO N)):cL P w R h' a o:=by
 induction o with
 |Y N=>obtain⟨e,q,v,f,d⟩:=x;exact⟨e,q,v,f,k _ _ (.inl D) d⟩
 |bO N=>obtain⟨e,q,f,j,d,i⟩:=x;exact⟨e,q,f,j,k _ _ (.inl D) d,i⟩
 |dK E=>obtain⟨e,n,F,f,j,l,m,d,i⟩:=x;exact⟨e,n,F,f,j,l,m,k _ _ (.inl D) d,i⟩
 |dT E=>
  obtain⟨e,n,N,f,j,l,m,d,i⟩:=x;exact⟨e,n,N,Paired.VP f λy p e=>⟨e.1,C _ _ e.2.1,e.2.2⟩,j,l,m,k _ _ (.inl D) d,i⟩
 |set Q v=>obtain⟨j,l,m,r,d,i⟩:=x;exact⟨j,l,m,r,k _ _ (.inl D) d,i⟩
 |aE S T G=>
  obtain⟨z,e,I,d,s,⟨t,l,m,J,i⟩,f⟩:=x;exact⟨A _ z,e,I,k _ _ (.inl D) d,s,⟨t,l,m,k _ _ (.inr z) J,i⟩,f⟩
 |own n=>obtain⟨j,d⟩:=x;exact⟨j,k _ _ (.inl D) d⟩
 |xd G=>obtain⟨s,⟨t,l,m,d,i⟩,f⟩:=x;exact⟨s,⟨t,l,m,k _ _ (.inl D) d,i⟩,f⟩
 |rng lo V=>obtain⟨r,u,K,d⟩:=x;exact⟨r,u,K,k _ _ (.inl D) d⟩
 |jZ j u L=>obtain⟨d,p⟩:=x;exact⟨k _ _ (.inl D) d,L p⟩
 |UU M=>
  show h'.get? a=B {cls:=.none,data:=.fields M};exact k a _ (.inl D) x
 |met O n=>
  show h'.get? a=B (Lx (.ref O)<|.ref n);exact k a _ (.inl D) x
 |ext W=>obtain⟨y,⟨o,d⟩,st⟩:=x;exact⟨st _ _ y λo p=>k _ _ (.inl D) p,⟨o,k _ _ (.inl D) d⟩,st⟩
theorem qN.lt(x:qN P w H h)(e:H a=B o):a<h.objs.size:=(x a o e).lt
theorem qN.fresh(x:qN P w H h)(e:h.objs.size<=a):H a=g:=by
 cases b:H a with
 |none=>rfl
 |some d=>exact absurd (ĭ (x.lt b) e)<|gD _
def qN.kept(x:qN P w H h)(k:∀b u,h.get? b=B u->h'.get? b=B u):qN P w H h':=λd e f=>
 (x d e f).stay (λb u _ a=>k b u a) (λ_ a=>a) λ_ _ a=>a
theorem qN.laid(x:qN P w H h)(k:∀b u,h.get? b=B u->h'.get? b=B u)(l:h.objs.size<=a)(m:cL P w (T H a o) h' a o):qN P w (T H a o) h':=λb u e=>by
 have i:=x.fresh l;by_cases j:b=a
 .subst j;rw[af]at e;cases e;exact m
 .rw[au j]at e;exact(x b u e).stay (λf n _ d=>k f n d) (λf d=>au (ao d i)▸d) λf p d=>au (ao d i)▸d
end
def Rd(H:Hp)(a:O)(u:HO):Prop:=H a=B u\/∃o,H a=B (.jZ o u)
theorem Rd.ok{u:HO}(r:Rd H a u)(x:qN P w H h):cL P w H h a u:=by
 rcases r with r|⟨d,r⟩
 .exact x a u r
 .obtain⟨_,b⟩:=x a _ r;exact b
def UP:É HO->Prop
 |some (.Y _)=>Cm
 |some (.dK _)=>Cm
 |some (.dT _)=>Cm
 |some (.set _ _)=>Cm
 |some (.aE _ _ _)=>Cm
 |some (.ext _)=>Cm
 |_=>Ϡ
section
variable{x e:O}{ĳ:HO}
def qN.write(ok:qN P w H h)(f:UP<|H x)(y:e=x\/H e=B (.own x))(k:∀b u,b≠e->h.get? b=B u->h'.get? b=B u)(p:∃u,h'.get? e=B u)
  (z:cL P w (T H x ĳ) h' x ĳ):qN P w (T H x ĳ) h':=λb u j=>by
 have q:∀a n,H a=B (.own n)->a≠x:=λa n d l=>by subst l;rw[d]at f;exact f
 have r:∀a i,H a=B (.bO i)->a≠x:=λa i d l=>by subst l;rw[d]at f;exact f
 by_cases s:b=x
 .grind[af]
 .rw[au s]at j;by_cases t:b=e
  .have o:H b=B (.own x):=by lia
   rw[j]at o;cases o;obtain⟨m,v⟩:=p;exact⟨m,t▸v⟩
  .refine(ok b u j).stay (λa m A d=>k a m ?_ d) (λa d=>au (q a b d)▸d) λa i d=>by rw[au<|r a i d];exact d
   grind
end
structure Un(fs ex:J O)(H R:Hp)(h h':ό):Prop where
 keep:∀b o,h.get? b=B o->H b=g->b∉fs->b∉ex->h'.get? b=B o
 slot:∀b o,h.get? b=B o->H b=g->b∈fs->b∉ex->∃Ė,h'.get? b=B {o with slots:=Ė}
 free:∀b o,h.get? b=B o->H b=g->b∉ex->R b=g
 there:∀b o,h.get? b=B o->b∉ex->∃ĳ,h'.get? b=B ĳ
 tups:∀b N,H b=B (.bO N)->R b=B (.bO N)
 Dj:∀b o u,H b=B (.jZ o u)->R b=B (.jZ o u)
 G1:∀b θ,H b=B (.UU θ)->∃more,R b=B (.UU<|θ++more)
section
variable{fs k_ ex U6:J O}{ο Θ:Hp}{á í:ό}{x e:O}{o:HO}
theorem Un.any(u:Un fs ex H ο h á){ob:gf}(q:h.get? b=B ob)(n:H b=g)(Ο:b∉ex):∃Ė,á.get? b=B {ob with slots:=Ė}:=by
 by_cases a:b∈fs
 .exact u.slot b ob q n a Ο
 .exact⟨ob.slots,u.keep b ob q n a Ο⟩
def Un.kept(k:∀b u,h.get? b=B u->h'.get? b=B u):Un fs ex H H h h':=
 ⟨λb d a _ _ _=>k b d a,λb d a _ _ _=>⟨d.slots,k b d a⟩,λ_ _ _ e _=>e,λb d a _=>⟨d,k b d a⟩,λ_ _ a=>a,λ_ _ _ a=>a,λ_ f a=>⟨#[],by rw[a];rfl⟩⟩
theorem Un.refl:Un fs ex H H h h:=Un.kept λ_ _ a=>a
theorem Un.laid(k:∀b u,h.get? b=B u->h'.get? b=B u)(f:h.objs.size<=a)(e:H a=g):Un fs ex H (T H a o) h h' where
 keep:=λb u d _ _ _=>k b u d
 slot:=λb u d _ _ _=>⟨u.slots,k b u d⟩
 free:=λb u d i _=>au (ė<|ĭ (û d) f)▸i
 there:=λb u d _=>⟨u,k b u d⟩
 tups:=λb j d=>au (ao d e)▸d
 Dj:=λb u j d=>au (ao d e)▸d
 G1:=λb l d=>⟨#[],by rw[au<|ao d e,d];rfl⟩
def Un.write(j:UP<|H x)(p:e=x\/H e=B (.own x))(k:∀b u,b≠e->h.get? b=B u->h'.get? b=B u)(q:∃u,h'.get? e=B u):Un fs ex H (T H x o) h h':=by
 have m:∀b,H b=g->b≠x:=λb d f=>by subst f;rw[d]at j;exact j
 have l:∀b,H b=g->b≠e:=λb d f=>by simp_all
 have i:∀b u,H b=B u->¬UP (B u)->b≠x:=λb u a r f=>fX;refine⟨λb u a d _ _=>k b u (l b d) a,λb u a d _ _=>⟨u.slots,k b u (l b d) a⟩,λb u a d _=>au (m b d)▸d,λb u a _=>?_,λb n a=>by rw[au<|i b _ a λf=>f];exact a,λb u n a=>by rw[au<|i b _ a λf=>f];exact a,λb s a=>⟨#[],by rw[au<|i b _ a λf=>f,a];rfl⟩⟩
 grind
end
noncomputable def trk (h:ό) (H:Hp):J O:=(ſ h.objs.size).filter λa=>(H a).isSome
noncomputable def H8 (h:ό) (H:Hp):ό:=PySem.W.hideAll h<|trk h H
def M7(h:ό)(H:Hp):(H8 h H).objs.size=h.objs.size:=PySem.W.hideAll_size _ _
def Qw(e:h.get? b=B o)(n:H b=g):(H8 h H).get? b=B o:=
 PySem.W.hideAll_get _ e λd=>by have a:(H b).isSome=U:=(q1.mp d).2;rw[n]at a;simp at a
def Uv{h:ό}{H:Hp}{b:O}{o:gf}(e:(H8 h H).get? b=B o):h.get? b=B o/\H b=g:=by
 have a:h.get? b=B o:=PySem.W.of_hideAll (trk h H) e;refine⟨a,?_⟩;cases d:H b with
 |none=>rfl
 |some i=>
  have f:(H8 h H).get? b=g:=PySem.W.hideAll_none (trk h H) (q1.mpr ⟨Uy.mpr<|û a,by simp[d]⟩);rw[f]at e;cases e
structure Mod(K:Ζ)(η:S->É z)(base:ό):Prop where
 QW:K.In base
 glob:base.Ns ĺ η
 blt:∃a,base.Ns Jz a/\∀x:S,x≠"__name__"->a x=uh x
 nolimit:base.NoLimit
structure Cx(K:Ζ)where
 prog:Ŝ
 w:ś
 mg:S->É z
 base:ό
 A:ź
 N:J S
 CJ:Í
 V7:Hp
 env:sG
 outer:J sG
 stack:J sG
 ex:J O
 fn:S->ě
 calm:ě
 pn:J<|O×gf
 xe:z->Í->Prop
variable{X:Cx K}
noncomputable def Gp (l:J sG):J O:=l.filterMap (·.frame)
noncomputable abbrev Cx.fs (X:Cx K):J O:=Gp X.outer
def Vis(ü:kK)(x:S):Prop:=ü.names.lookup x=B .local\/ü.names.lookup x=B .cell\/ü.names.lookup x=B .free
def VX(ü:kK)(x:S):Prop:=ü.names.lookup x=B .local\/ü.names.lookup x=B .cell
def aaK(env:sG)(h:ό)(m:S->É z)(x:S)(u:z):Prop:=
 (env.kindOf x=B .local/\m x=B u)\/((env.kindOf x=B .cell\/env.kindOf x=B .free)/\∃c,env.cells.lookup x=B c/\h.IsCell c (B u))
structure Cx.Ok(X:Cx K):Prop where
 mod:Mod K X.mg X.base
 kind:X.env.scope.kind=.function
 glob:X.env.globals=ĺ
 blt:X.env.builtins=Jz
 above:X.CJ.heap.objs.size<=X.env.locals
 inj:∀x y c,X.env.cells.lookup x=B c->X.env.cells.lookup y=B c->x=y
 has:∀x,(X.env.kindOf x=B .cell\/X.env.kindOf x=B .free)->∃c,X.env.cells.lookup x=B c
 R0:∀x c,X.fn x=U->X.env.cells.lookup x=B c->X.CJ.heap.objs.size<=c
 hd:X.calm=U->X.A.handled=g
 frames:X.A.frames=B X.stack
 stk:X.stack=X.outer\/(X.stack=X.env::X.outer/\X.env.frame=B X.env.locals)
 SD:∀b∈X.ex,b≠X.env.locals/\∀x c,X.env.cells.lookup x=B c->c≠b
 bs:∀b o,X.base.get? b=B o->X.CJ.heap.get? b=B o/\X.V7 b=g
 Jw:X.base.objs.size<=X.CJ.heap.objs.size
 CW:∀b o,X.base.get? b=B o->b∉X.ex
 C0:∀b∈X.ex,b∉X.fs
 qR:X.CJ.heap.FunFrames X.base X.outer
 Ow:∀b∈X.fs,X.V7 b=g
structure Inv(X:Cx K)(aC:J<|O×gf)(σ:J<|É V)(H:Hp)(s:Í):Prop where
 ok:X.Ok
 os:s.os=X.CJ.os
 bare:xM s.gens
 base:Un X.fs X.ex X.V7 H X.CJ.heap s.heap
 loc:∃m,s.heap.Ns X.env.locals m/\∀(i:M) (x:S) (v:V),X.N[i]?=B x->σ[i]?=B (B v)->Vis X.env.scope x->∃u,bE v u/\aaK X.env s.heap m x u
 cell:∀x c,X.env.cells.lookup x=B c->∃v,s.heap.IsCell c v
 free:H X.env.locals=g
 jL:∀x c,X.env.cells.lookup x=B c->H c=g
 pin:∀p∈X.pn++aC,s.heap.get? p.1=B p.2/\H p.1=g/\p.1≠X.env.locals/\p.1∉X.fs/\∀v,p.2.data≠.cell v
 hok:qN X.prog X.w H s.heap
 len:L σ=L X.N
section
variable{σ:J<|É V}{s:Í}
def Cx.Ok.aaV(ok:X.Ok)(e:X.base.get? b=B o):b∉X.fs:=λa=>by have:=(ok.qR.mem a).1;lia
theorem Inv.bs(I:Inv X aC σ H s):∀b o,X.base.get? b=B o->s.heap.get? b=B o/\H b=g:=λb o a=>
 ⟨I.base.keep b o (I.ok.bs b o a).1 (I.ok.bs b o a).2 (I.ok.aaV a)<|I.ok.CW b o a,I.base.free b o (I.ok.bs b o a).1 (I.ok.bs b o a).2<|I.ok.CW b o a⟩
def Inv.bk(I:Inv X aC σ H s):∀b o,X.base.get? b=B o->s.heap.get? b=B o:=λb o a=>(I.bs b o a).1
theorem Inv.mod(I:Inv X aC σ H s):Mod K X.mg X.base:=I.ok.mod
def Inv.lV(I:Inv X aC σ H s):K.In s.heap:=I.ok.mod.QW.keeps I.bk
def Inv.fr(I:Inv X aC σ H s):∃m,Fr X.base X.env.locals s.heap m:=
 let⟨m,a,_⟩:=I.loc
 ⟨m,a,I.bk,Ć I.ok.Jw I.ok.above⟩
theorem Inv.lt(I:Inv X aC σ H s):X.env.locals<s.heap.objs.size:=let⟨_,a,_⟩:=I.loc;a.lt
theorem Inv.sz(I:Inv X aC σ H s):X.CJ.heap.objs.size<=s.heap.objs.size:=Ć I.ok.above<|š I.lt
def Inv.aa5(I:Inv X aC σ H s)(h:s.heap.objs.size<=a):a∉X.fs:=λb=>by obtain⟨_,e,d,_⟩:=I.ok.qR.mem b;exact absurd (ĭ (û d)<|Ć I.sz h)<|gD _
def Inv.cne(I:Inv X aC σ H s):∀x c,X.env.cells.lookup x=B c->c≠X.env.locals:=λx c a b=>by obtain⟨d,e,f,h⟩:=I.cell x c a;obtain⟨i,⟨j,k,l,m,n,_⟩,_⟩:=I.loc;simp_all
theorem Inv.qR(I:Inv X aC σ H s):s.heap.FunFrames X.base X.outer:=by
 have all:∀(b:J sG),(∀d∈Gp b,d∈X.fs)->X.CJ.heap.FunFrames X.base b->s.heap.FunFrames X.base b:=by
  intro b
  induction b with
  |nil=>intro _ _;trivial
  |cons u v j=>
   intro i k;obtain⟨l,⟨a,m,e,n,o,p⟩,q⟩:=k;have f:a∈X.fs:=i a (by unfold Gp;rw[iQ,e];exact Ö);obtain⟨w,r⟩:=I.base.slot a m o (I.ok.Ow a f) f λt=>I.ok.C0 a t f;exact⟨l,⟨a,_,e,n,r,p⟩,j (λd h=>i d (by unfold Gp;rw[iQ,e];exact Ç _ h)) q⟩
 exact all X.outer (λ_ h=>h) I.ok.qR
theorem Inv.stack(I:Inv X aC σ H s):s.heap.FunFrames X.base X.stack:=by
 rcases I.ok.stk with a|⟨a,b⟩
 .rw[a];exact I.qR
 .rw[a];obtain⟨e,d,_⟩:=I.loc;refine .cons (by rw[I.ok.kind];decide) b d ?_ I.qR;exact Ly<|Ć I.ok.Jw I.ok.above
def Inv.Lf(I:Inv X aC σ H s):∀b∈Gp X.stack,b∈X.env.locals::X.fs:=λb a=>by
 rcases I.ok.stk with d|⟨d,e⟩
 .rw[d]at a;exact Ç _ a
 .rw[d]at a;unfold Gp at a;rw[iQ,e]at a;exact a
theorem Inv.EZ(I:Inv X aC σ H s):∀b∈Gp X.stack,H b=g:=λb a=>by
 rcases ç.mp (I.Lf b a) with d|a
 .rw[d];exact I.free
 .obtain⟨_,e,f,_⟩:=I.ok.qR.mem a;exact I.base.free b e f (I.ok.Ow b a) λh=>I.ok.C0 b h a
theorem Inv.step{g':ŕ sY}{d':Drawn}(I:Inv X aC σ H s)
  (k:∀b∈ch,(b∈X.ex\/X.CJ.heap.objs.size<=b)/\b≠X.env.locals/\(∀x c,X.env.cells.lookup x=B c->c≠b)/\∀p∈X.pn++aC,p.1≠b)
  (r:∀b o,b≠X.env.locals->b∉X.fs->b∉ch->s.heap.get? b=B o->H b=g->h'.get? b=B o)
  (y:∀b o,b≠X.env.locals->b∈X.fs->b∉ch->s.heap.get? b=B o->H b=g->∃Ė,h'.get? b=B {o with slots:=Ė}) (n:∀b o,b∉ch->s.heap.get? b=B o->H b=g->R b=g)
  (K:∀b o,b∉ch->s.heap.get? b=B o->∃ĳ,h'.get? b=B ĳ)
  (L:∀b N,H b=B (.bO N)->R b=B (.bO N)) (M:∀b o u,H b=B (.jZ o u)->R b=B (.jZ o u)) (ad:∀b θ,H b=B (.UU θ)->∃more,R b=B (.UU<|θ++more))
  (ns:∀m,s.heap.Ns X.env.locals m->h'.Ns X.env.locals m) (O:qN X.prog X.w R h') (P:xM g'):
  Inv X aC σ R {s with heap:=h',gens:=g',drawn:=d',toks:=t'}:=by
 have A:∀b o,X.CJ.heap.get? b=B o->b≠X.env.locals:=λb o a=>ė<|ĭ (û a) I.ok.above;have q:∀b o,X.CJ.heap.get? b=B o->b∉X.ex->b∉ch:=λb o a d i=>by
  rcases(k b i).1 with z|z
  .exact d z
  .exact absurd (ĭ (û a) z)<|gD _
 have C:∀x c,X.env.cells.lookup x=B c->∀f,s.heap.IsCell c f->h'.IsCell c f:=λx c a f ⟨o,j,t⟩=>by
  have l:c∉ch:=λz=>(k c z).2.2.1 x c a D;by_cases E:c∈X.fs
  .obtain⟨Ė,Q⟩:=y c o (I.cne x c a) E l j<|I.jL x c a;exact⟨_,Q,t⟩
  .exact⟨o,r c o (I.cne x c a) E l j<|I.jL x c a,t⟩
 refine⟨I.ok,I.os,P,⟨λb o a e i d=>?_,λb o a e i d=>?_,λb o a e d=>?_,λb o a d=>?_,λb N a=>L b N<|I.base.tups b N a,λb o N a=>M b o N<|I.base.Dj b o N a,λb θ a=>?_⟩,?_,λx c a=>?_,?_,λx c a=>?_,λp F=>?_,O,I.len⟩
 .exact r b o (A b o a) i (q b o a d) (I.base.keep b o a e i d)<|I.base.free b o a e d
 .obtain⟨Ė,h⟩:=I.base.slot b o a e i d;obtain⟨S,v⟩:=y b _ (A b o a) i (q b o a d) h<|I.base.free b o a e d;exact⟨S,v⟩
 .obtain⟨ĳ,h⟩:=I.base.there b o a d;exact n b ĳ (q b o a d) h<|I.base.free b o a e d
 .obtain⟨ĳ,h⟩:=I.base.there b o a d;exact K b ĳ (q b o a d) h
 .obtain⟨ae,h⟩:=I.base.G1 b θ a
  grind
 .obtain⟨m,T,V⟩:=I.loc;refine⟨m,ns m T,λW x f h v Y=>?_⟩;obtain⟨u,Z,w⟩:=V W x f h v Y;refine⟨u,Z,?_⟩;rcases w with w|⟨aa,c,a,z⟩
  .exact .inl w
  .exact .inr ⟨aa,c,a,C x c a _ z⟩
 .obtain⟨f,z⟩:=I.cell x c a;exact⟨f,C x c a f z⟩
 .obtain⟨m,⟨o,_,_,j,_⟩,_⟩:=I.loc;exact n _ o (λz=>(k _ z).2.1 D) j I.free
 .obtain⟨f,o,j,t⟩:=I.cell x c a;exact n c o (λz=>(k c z).2.2.1 x c a D) j<|I.jL x c a
 .obtain⟨a,e,G,J,ab⟩:=I.pin p F;have l:p.1∉ch:=λz=>(k p.1 z).2.2.2 p F D;exact⟨r p.1 p.2 G J l a e,n p.1 p.2 l a e,G,J,ab⟩
theorem Inv.un(I:Inv X aC σ H s)(u:Un X.fs [] H R s.heap h')(j:qN X.prog X.w R h'):Inv X aC σ R {s with heap:=h',toks:=t'}:=by
 obtain⟨q,⟨a,r,t,h,v⟩,_⟩:=id I.loc;obtain⟨w,k⟩:=u.any h I.free bh;exact I.step (g':=s.gens) (d':=s.drawn) (ch:=[]) (λ_ l=>nomatch l) (λb a _ f _ d e=>u.keep b a d e f<|by omega) (λb a _ f _ d e=>u.slot b a d e f<|by omega) (λb a _ d e=>u.free b a d e<|by omega) (λb a _ d=>u.there b a d<|by omega) u.tups u.Dj u.G1 (λx m=>by obtain⟨y,n,o,i,p⟩:=m;rw[h]at i;cases i;exact⟨_,n,o,k,p⟩) j I.bare
theorem Inv.call{g':ŕ sY}{d':Drawn}(I:Inv X aC σ H s)(u:Un (Gp X.stack) ch H R s.heap h')(m:qN X.prog X.w R h')(n:xM g')
  (j:∀b∈ch,(b∈X.ex\/X.CJ.heap.objs.size<=b)/\b≠X.env.locals/\(∀x c,X.env.cells.lookup x=B c->c≠b)/\∀p∈X.pn++aC,p.1≠b):
  Inv X aC σ R {s with heap:=h',gens:=g',drawn:=d',toks:=t'}:=by
 obtain⟨w,⟨a,y,z,k,A⟩,_⟩:=id I.loc;obtain⟨C,h⟩:=u.any k I.free λi=>(j _ i).2.1 D;exact I.step (ch:=ch) j (λb a h o d e f=>u.keep b a e f (λi=>(ç.mp<|I.Lf b i).elim h o) d) (λb a _ _ d e f=>u.any e f d) (λb a d e f=>u.free b a e f d) (λb a d e=>u.there b a e d) u.tups u.Dj u.G1 (λE q=>by obtain⟨F,r,t,l,v⟩:=q;rw[k]at l;cases l;exact⟨_,r,t,h,v⟩) m n
def Inv.turned{d:O}(I:Inv X aC σ H s)(k:∀b o,b≠d->s.heap.get? b=B o->h'.get? b=B o)(y:H d=g)(j:d≠X.env.locals)
  (á:d∈X.ex\/X.CJ.heap.objs.size<=d) (í:∀x c,X.env.cells.lookup x=B c->c≠d) (l:∀p∈X.pn++aC,p.1≠d):Inv X aC σ H {s with heap:=h',toks:=t'}:=by
 have z:∀b i,H b=B i->b≠d:=λb i a e=>aL;refine I.step (g':=s.gens) (d':=s.drawn) (ch:=[d]) (λb m=>?_) (λb o _ _ f a _=>k b o (λe=>f<|by simp[e]) a) (λb o _ _ f a _=>⟨o.slots,k b o (λe=>f<|by simp[e]) a⟩) (λ_ _ _ _ n=>n)
  (λb o f a=>⟨o,k b o (λe=>f<|by simp[e]) a⟩) (λ_ _ a=>a) (λ_ _ _ a=>a) (λb A a=>⟨#[],by rw[a];rfl⟩) (λC q=>?_) (λb i a=>?_) I.bare
 .have a:b=d:=by simpa using m
  subst a;exact⟨á,j,í,l⟩
 .obtain⟨o,r,t,u,v⟩:=q;exact⟨o,r,t,k _ o (Ϛ j) u,v⟩
 .refine(I.hok b i a).stay (λc w f h=>k c w ?_ h) (λ_ h=>h) λ_ _ h=>h;lia
def Inv.tok(I:Inv X aC σ H s)(t:M):Inv X aC σ H {s with toks:=t}:=I.un (h':=s.heap) (t':=t) Un.refl I.hok
theorem Inv.kept(I:Inv X aC σ H s)(k:∀b u,s.heap.get? b=B u->h'.get? b=B u):Inv X aC σ H {s with heap:=h',toks:=t'}:=I.un (Un.kept k)<|I.hok.kept k
theorem Inv.laid{o:HO}(I:Inv X aC σ H s)(k:∀b u,s.heap.get? b=B u->h'.get? b=B u)(d:s.heap.objs.size<=a)(e:cL X.prog X.w (T H a o) h' a o):
 Inv X aC σ (T H a o) {s with heap:=h',toks:=t'}:=I.un (Un.laid k d<|I.hok.fresh d)<|I.hok.laid k d e
theorem Inv.write{x e:O}{o:HO}(I:Inv X aC σ H s)(a:UP<|H x)(d:e=x\/H e=B (.own x))(k:∀b u,b≠e->s.heap.get? b=B u->h'.get? b=B u)(f:∃u,h'.get? e=B u)
 (h:cL X.prog X.w (T H x o) h' x o):Inv X aC σ (T H x o) {s with heap:=h',toks:=t'}:=I.un (Un.write a d k f)<|I.hok.write a d k f h
def Inv.weak{a:J<|É V}(I:Inv X aC σ H s)(b:L a=L σ)(w:∀(i:M) v,a[i]?=B (B v)->σ[i]?=B (B v)):Inv X aC a H s:=
 ⟨I.ok,I.os,I.bare,I.base,let⟨d,e,f⟩:=I.loc;⟨d,e,λi h v j k l=>f i h v j (w i v k) l⟩,I.cell,I.free,I.jL,I.pin,I.hok,b.trans I.len⟩
def Inv.Mi{nJ:J<|O×gf}(I:Inv X aC σ H s)(h:∀p∈nJ,s.heap.get? p.1=B p.2/\H p.1=g/\p.1≠X.env.locals/\p.1∉X.fs/\∀v,p.2.data≠.cell v):Inv X nJ σ H s:=
 ⟨I.ok,I.os,I.bare,I.base,I.loc,I.cell,I.free,I.jL,λp a=>(î.mp a).elim (λb=>I.pin p<|Ĭ _ b)<|h p,I.hok,I.len⟩
def AA{Δ:J S}(d:Δ.Nodup){j:M}{x:S}(a:Δ[i]?=B x)(b:Δ[j]?=B x):i=j:=by obtain⟨h,e⟩:=Ð.mp a;obtain⟨k,f⟩:=Ð.mp b;exact(List.getElem_inj d).mp<|e.trans f.symm
def xB{x:S}{v:V}{u:z}{Q:Vc->Í->Prop}(I:Inv X aC σ H s)(ah:X.N.Nodup)(Á:X.N[i]?=B x)(Ο:VX X.env.scope x)(r:bE v u)
  (h:∀s',Inv X aC (σ.set i<|B v) H s'->(∃a,ϡ a s.heap s'.heap/\(a=X.env.locals\/X.env.cells.lookup x=B a))->Q () s') (aA:X.fn x=U\/X.env.scope.names.lookup x=B .local:=by first|exact .inl rfl|exact .inr rfl|assumption):ô è A (Ye X.env x u) Q E s:=by
 obtain⟨an,N,ai⟩:=id I.loc;have aj:i<L σ:=I.len▸(Ð.mp Á).1;have P:=I.cne;have ak:∀{a:O} {w:ό},(∃k,s.heap.get? a=B k/\H a=g)->ϡ a s.heap w->qN X.prog X.w H w:=λ{a w} ao d e ap b=>by obtain⟨_,_,aB⟩:=ao;refine(I.hok e ap b).stay (λf R l m=>(d.2 f ?_).trans m) (λ_ m=>m) λ_ _ m=>m;lia
 rcases Ο with y|y
 .refine wpAny_storeName_local y N (λw aq d=>?_) (by rw[I.ok.kind];rfl);obtain⟨ar,_,_,au,_⟩:=id N;refine h _ ⟨I.ok,I.os,I.bare,⟨λe k b n q Ο=>?_,λe k b n q Ο=>?_,I.base.free,λe k b Ο=>?_,I.base.tups,I.base.Dj,I.base.G1⟩,⟨_,aq,λF o T j p W=>?_⟩,λo f b=>?_,I.free,I.jL,λG Y=>?_,ak ⟨ar,au,I.free⟩ d,by simpa using I.len⟩ ⟨_,d,.inl D⟩
  .exact(d.2 e<|ė<|ĭ (û b) I.ok.above).trans<|I.base.keep e k b n q Ο
  .obtain⟨Z,j⟩:=I.base.slot e k b n q Ο;exact⟨Z,(d.2 e<|ė<|ĭ (û b) I.ok.above).trans j⟩
  .obtain⟨aa,j⟩:=I.base.there e k b Ο;exact⟨aa,(d.2 e<|ė<|ĭ (û b) I.ok.above).trans j⟩
  .by_cases t:F=i
   .subst t;rw[Á]at j;cases j;rw[dM aj]at p;cases p;exact⟨u,r,.inl ⟨y,bh⟩⟩
   .rw[lU<|Ϛ t]at p;obtain⟨ab,ad,m⟩:=ai F o T j p W;refine⟨ab,ad,?_⟩;rcases m with⟨J,b⟩|⟨J,f,b,C⟩
    .refine .inl ⟨J,?_⟩;have:o≠x:=λb=>t<|AA ah j<|b▸Á;simp[this,b]
    .exact .inr ⟨J,f,b,C.sameBut d<|P o f b⟩
  .obtain⟨R,C⟩:=I.cell o f b;exact⟨R,C.sameBut d<|P o f b⟩
  .obtain⟨b,n,K,ae,af⟩:=I.pin G Y;exact⟨(d.2 G.1 K).trans b,n,K,ae,af⟩
 .have ag:X.fn x=U:=by simp_all
  obtain⟨f,l⟩:=I.ok.has x<|.inl y;obtain⟨R,C⟩:=I.cell x f l;refine wpAny_storeName_cell I.ok.kind y l C λw al d=>?_;obtain⟨av,aw,aD⟩:=id C;refine h {s with heap:=w} ⟨I.ok,I.os,I.bare,⟨λe k b n q Ο=>?_,λe k b n q Ο=>?_,I.base.free,λe k b Ο=>?_,I.base.tups,I.base.Dj,I.base.G1⟩,⟨an,N.sameBut d<|Ϛ<|P x f l,λF o T j p W=>?_⟩,λo M b=>?_,I.free,I.jL,λG Y=>?_,ak ⟨av,aw,I.jL x f l⟩ d,by simpa using I.len⟩ ⟨f,d,.inr l⟩
  .exact(d.2 e<|ė<|ĭ (û b)<|I.ok.R0 x f ag l).trans<|I.base.keep e k b n q Ο
  .obtain⟨Z,j⟩:=I.base.slot e k b n q Ο;exact⟨Z,(d.2 e<|ė<|ĭ (û b)<|I.ok.R0 x f ag l).trans j⟩
  .obtain⟨aa,j⟩:=I.base.there e k b Ο;exact⟨aa,(d.2 e<|ė<|ĭ (û b)<|I.ok.R0 x f ag l).trans j⟩
  .by_cases t:F=i
   .subst t;rw[Á]at j;cases j;rw[dM aj]at p;cases p;exact⟨u,r,.inr ⟨.inl y,f,l,al⟩⟩
   .rw[lU<|Ϛ t]at p;obtain⟨ab,ad,m⟩:=ai F o T j p W;refine⟨ab,ad,?_⟩;rcases m with m|⟨J,M,b,ax⟩
    .exact .inl m
    .refine .inr ⟨J,M,b,ax.sameBut d ?_⟩;rintro rfl;exact t<|AA ah j<|I.ok.inj _ _ _ b l▸Á
  .by_cases am:M=f
   .subst am;exact⟨_,al⟩
   .obtain⟨ay,az⟩:=I.cell o M b;exact⟨ay,az.sameBut d am⟩
  .obtain⟨b,n,K,ae,af⟩:=I.pin G Y;refine⟨(d.2 G.1 ?_).trans b,n,K,ae,af⟩
   grind
def BC{x:S}{v:V}{u:z}{Q:Vc->Í->Prop}(I:Inv X aC σ H s)(a:X.N.Nodup)(Á:X.N[i]?=B x)(Ο:VX X.env.scope x)(r:bE v u)
  (h:∀s',Inv X aC (σ.set i<|B v) H s'->Q () s') (b:X.fn x=U\/X.env.scope.names.lookup x=B .local:=by first|exact .inl rfl|exact .inr rfl|assumption):ô è A (Ye X.env x u) Q E s:=
 xB I a Á Ο r (λs' d _=>h s' d) b
def Inv.Qe{s':Í}(I:Inv X aC σ H s)(a:s'.os=s.os)(u:Un (Gp X.stack) ch H R s.heap s'.heap)(d:qN X.prog X.w R s'.heap)(e:xM s'.gens)
  (f:∀b∈ch,(b∈X.ex\/X.CJ.heap.objs.size<=b)/\b≠X.env.locals/\(∀x c,X.env.cells.lookup x=B c->c≠b)/\∀p∈X.pn++aC,p.1≠b):Inv X aC σ R s':=by
 obtain⟨j,g',d',t',h⟩:=s';have i:h=s.os:=a;subst i;exact I.call (g':=g') (t':=t') (d':=d') u d e f
end
abbrev XK:=z->É O->Hp->Prop
abbrev St:=J<|É V
variable{σ:St}
abbrev VK:=V->Hp->Prop
variable{r:V->É Z->É Z->Hp->VK->Prop}
abbrev TE:=St->Hp->VK->Prop
variable{Â:TE}
abbrev TT:=St->Hp->(ě->Hp->Prop)->Prop
abbrev TA:=St->Hp->(J V->Hp->Prop)->Prop
structure qO where
 nx:St->Hp->Prop
 rt:VK
 bk:St->Hp->Prop:=λ_ _=>Ϡ
 ct:St->Hp->Prop:=λ_ _=>Ϡ
abbrev TS:=qO->St->Hp->Prop
inductive EP(X:Cx K)(aC:J<|O×gf)(σ:St)(Q:VK)(u:z)(s':Í):Prop
 |mk(v R:_)(_:Inv X aC σ R s')(_:bE v u)(_:Q v R)
inductive TP(X:Cx K)(aC:J<|O×gf)(σ:St)(Q:ě->Hp->Prop)(b:ě)(s':Í):Prop
 |mk(R:_)(_:Inv X aC σ R s')(_:Q b R)
inductive AP(X:Cx K)(aC:J<|O×gf)(σ:St)(Q:J V->Hp->Prop)(Μ:J z)(s':Í):Prop
 |mk(vs R:_)(_:Inv X aC σ R s')(_:bz vs Μ)(_:Q vs R)
def SP{K:Ζ}(X:Cx K)(aC:J<|O×gf)(b:qO)(f:Flow)(s':Í):Prop:=
 match f with
 |.next=>∃a R,Inv X aC a R s'/\b.nx a R
 |.brk=>∃a R,Inv X aC a R s'/\b.bk a R
 |.cont=>∃a R,Inv X aC a R s'/\b.ct a R
 |.ret u=>∃v a R,Inv X aC a R s'/\bE v u/\b.rt v R
def PE(X:Cx K)(e:Ž)(t:TE):Prop:=
 ∀(aC:J<|O×gf) (s:Í) (σ:St) (H:Hp) (Q:VK),Inv X aC σ H s->t σ H Q->ô (ă X.prog X.w) X.A (Ŧ e X.env) (EP X aC σ Q) X.xe s
def PT(X:Cx K)(e:Ž)(t:TT):Prop:=
 ∀(aC:J<|O×gf) (s:Í) (σ:St) (H:Hp) (Q:ě->Hp->Prop),Inv X aC σ H s->t σ H Q->ô (ă X.prog X.w) X.A (Vd e X.env<|Ŧ e X.env) (TP X aC σ Q) X.xe s
def PW(X:Cx K)(e:Ž)(t:TT):Prop:=
 ∀(a:Yd z) (aC:J<|O×gf) (s:Í) (σ:St) (H:Hp) (Q:ě->Hp->Prop),Inv X aC σ H s->t σ H Q->ô (ă X.prog X.w) X.A (Vd e X.env a) (TP X aC σ Q) X.xe s
theorem PW.pt{t:TT}(h:PW X e t):PT X e t:=h _
def PA(X:Cx K)(Α:J Ž)(t:TA):Prop:=
 ∀(pos:kX) (aC:J<|O×gf) (s:Í) (σ:St) (H:Hp) (Q:J V->Hp->Prop),Inv X aC σ H s->t σ H Q->ô (ă X.prog X.w) X.A (spliced<|ϴ pos<|ë Α X.env) (AP X aC σ Q) X.xe s
def PS(X:Cx K)(st:dP)(t:TS):Prop:=
 ∀(aC:J<|O×gf) (s:Í) (σ:St) (H:Hp) (a:qO),Inv X aC σ H s->t a σ H->ô (ă X.prog X.w) X.A (exec st X.env) (SP X aC a) X.xe s
def zq(X:Cx K)(st:J dP)(t:TS):Prop:=
 ∀(aC:J<|O×gf) (s:Í) (σ:St) (H:Hp) (a:qO),Inv X aC σ H s->t a σ H->ô (ă X.prog X.w) X.A (execs st X.env) (SP X aC a) X.xe s
def cH{t:Yd Ν}{Q b:Ν->Í->Prop}{s:Í}(h:ô è A t Q E s)(d:∀a s,Q a s->b a s):ô è A t b E s:=Ż h d λ_ _ e=>e
section
def aV(i:M)(σ:St)(H:Hp)(Q:VK):Prop:=match σ[i]? with
 |some (B v)=>Q v H
 |_=>Ϡ
theorem aV.ex{Q:VK}(h:aV i σ H Q):∃v,σ[i]?=B (B v)/\Q v H:=by
 unfold aV at h;split at h
 .exact⟨_,by assumption,h⟩
 .exact h.elim
def aV.of{Q:VK}{v:V}(e:σ[i]?=B (B v))(q:Q v H):aV i σ H Q:=by unfold aV;rw[e];exact q
def tC(v:V):TE:=λ_ H Q=>Q v H
def Wa{x:S}{pos:kX}(k:X.N[i]?=B x)(l:Vis X.env.scope x)(d:(x==("__debug__":S))=Τ:=by decide)(m:(x==("__classdict__":S))=Τ:=by decide):PE X (.Name x pos)<|aV i:=by
 intro n o p q r b e;obtain⟨f,s,e⟩:=aV.ex e;obtain⟨A,t,u⟩:=b.loc;obtain⟨v,w,y⟩:=u i x f k s l;have jk:EP X n p r v o:=⟨f,q,b,w,e⟩;rcases y with⟨a,z⟩|⟨a,C,h,j⟩
 .exact Ve (R7 b.ok.kind a t z jk) d
 .rcases a with a|a
  .exact Ve (Uz b.ok.kind a h j jk) d
  .exact Ve (wpAny_loadName_free b.ok.kind a h j jk m) d
def az{i j pos}:PE X (.Constant (.int i) j pos)<|tC<|.int i:=λ_ _ _ a _ b d=>wpAny_Constant_int ⟨.int i,a,b.tok _,⟨_,D⟩,d⟩
def lg{b j pos}:PE X (.Constant (.bool b) j pos)<|tC<|.bl b:=λ_ _ _ a _ d e=>Constant_bool ⟨.bl b,a,d,D,e⟩
def f9{j pos}:PE X (.Constant .none j pos)<|tC .b_:=λ_ _ _ a _ b d=>MS ⟨.b_,a,b,D,d⟩
def rR{x j pos}:PE X (.Constant (.str x) j pos)<|tC<|.str x:=λ_ _ _ a _ b d=>Calls.Constant_str ⟨.str x,a,b.tok _,⟨_,D⟩,d⟩
def Gl(X:Cx K)(x:S):Prop:=X.env.kindOf x=B .globalImplicit
def n9{s:Í}{x:S}{u:z}{pos:kX}(I:Inv X aC σ H s)(a:Gl X x)(b:X.mg x=B u)(h:Q u s)
  (d:(x==("__debug__":S))=Τ:=by decide):ô (ă X.prog X.w) X.A (Ŧ (.Name x pos) X.env) Q E s:=
 Cn I.ok.kind a (Calls.loadGlobal_global (I.ok.glob▸I.mod.glob.keeps I.bk) b h) d
def BP{s:Í}{x:S}{u:z}{pos:kX}(I:Inv X aC σ H s)(a:Gl X x)(b:X.mg x=g)(d:uh x=B u)(h:Q u s)
  (e:x≠"__name__":=by decide) (f:(x==("__debug__":S))=Τ:=by decide):ô (ă X.prog X.w) X.A (Ŧ (.Name x pos) X.env) Q E s:=by
 obtain⟨k,i,j⟩:=I.mod.blt;exact Cn I.ok.kind a (Calls.loadGlobal_builtin (I.ok.glob▸I.mod.glob.keeps I.bk) b (I.ok.blt▸i.keeps I.bk) ((j x e).trans d) h) f
def Mt{x:S}{v:V}{u:z}{pos:kX}(b:Gl X x)(d:X.mg x=B u)(r:bE v u)(e:(x==("__debug__":S))=Τ:=by decide):PE X (.Name x pos)<|tC v:=
 λ_ _ _ f _ a h=>n9 a b d ⟨v,f,a,r,h⟩ e
variable{a b:Ž}{È tb:TE}{pos:kX}
def PC(X:Cx K)(ý:CmpOp)(a b:Ž)(t:TE):Prop:=
 ∀(aC:J<|O×gf) (s:Í) (σ:St) (H:Hp) (Q:VK),Inv X aC σ H s->t σ H Q->
  ô (ă X.prog X.w) X.A (Ŧ a X.env) (λv d=>ô (ă X.prog X.w) X.A (Ŧ b X.env) (λu e=>ô (ă X.prog X.w) X.A (Ų ý v u) (EP X aC σ Q) X.xe e) X.xe d) X.xe s
def I6(b:Ž)(h:ý≠.In)(í:ý≠.NotIn):ic ý b=Τ:=by cases b<;>simp[ic,(fX:(ý==CmpOp.In)=Τ),(fX:(ý==XA)=Τ)]
def ZK(È:TE):TE:=λσ H Q=>È σ H λx ο=>Q (.bl<|ã<|x=.b_) ο
def Z3(È:TE):TE:=λσ H Q=>È σ H λx ο=>Q (.bl<|!ã (x=.b_)) ο
theorem bE.Hl{x:V}{v:z}(r:bE x v):(v==ž)=ã (x=.b_):=by
 cases x with
 |b_=>cases r;rfl
 |bl _=>cases r;rfl
 |int _=>obtain⟨a,rfl⟩:=r;rfl
 |str _=>obtain⟨a,rfl⟩:=r;rfl
 |H7 _=>obtain⟨a,rfl⟩:=r;rfl
 |U4 _=>obtain⟨a,rfl⟩:=r;rfl
 |ref _=>cases r;rfl
 |ty _=>cases r;rfl
def oz{j Ň}(b:PE X a È):PC X .Is a (.Constant .none j Ň)<|ZK È:=by intro d e f h q i k;refine cH (b d e f h _ i k) λr s1 l=>?_;obtain⟨s,m,n,o,p⟩:=l;exact MS<|is_none_gen ⟨.bl _,m,n,by rw[o.Hl];rfl,p⟩
def zR{j Ň}(b:PE X a È):PC X .IsNot a (.Constant .none j Ň)<|Z3 È:=by intro d e f h q i k;refine cH (b d e f h _ i k) λr s1 l=>?_;obtain⟨s,m,n,o,p⟩:=l;exact MS<|isnot_none_gen ⟨.bl _,m,n,by rw[o.Hl];rfl,p⟩
def R6(Q:ě->Hp->Prop)(x:V)(ο:Hp):Prop:=match x with
 |.bl c=>Q c ο
 |_=>Ϡ
theorem R6.ex{Q:ě->Hp->Prop}{x:V}{ο:Hp}(h:R6 Q x ο):∃c,x=.bl c/\Q c ο:=by
 unfold R6 at h;split at h
 .exact⟨_,D,h⟩
 .exact h.elim
def tB(t:TE):TT:=λσ H Q=>t σ H λx ο=>R6 Q x ο
def P1{t:TE}(h:PC X ý a b t)(á:ic ý b=Τ:=by first|exact I6 _ (by decide) (by decide)|rfl):PE X (.Compare a [ý] [b] pos) t:=λd e f i j k l=>wpAny_Compare1 (h d e f i j k l) á
def fy{t:TE}(h:PC X ý a b t)(á:ic ý b=Τ:=by first|exact I6 _ (by decide) (by decide)|rfl):PT X (.Compare a [ý] [b] pos)<|tB t:=by intro d e f i s j k;refine RJ (cH (h d e f i _ j k) λu s1 á=>cH á λv s2 l=>cH l λw s3 m=>?_) á;obtain⟨x,n,o,p,q⟩:=m;obtain⟨y,rfl,r⟩:=R6.ex q;cases p;exact Ϣ ⟨n,o,r⟩
def bQ{t:TE}(h:PE X e t)(b:∀a,Vd e X.env a=(do let v <-a;Co e.pos;ni [v] (truthy v)):=by intro _;rfl):PT X e<|tB t:=by intro d f i j s k l;refine isTrue_plain (cH (h d f i j _ k l) λv s1 m=>?_)<|b _;obtain⟨u,n,o,p,q⟩:=m;obtain⟨w,rfl,r⟩:=R6.ex q;cases p;exact Ϣ ⟨n,o,r⟩
variable{Ϯ nR:TT}{İ:J Ž}
def aag(t u:TT):TT:=λσ H Q=>t σ H λc ο=>if c then u σ ο Q else Q Τ ο
def tOr(t u:TT):TT:=λσ H Q=>t σ H λc ο=>if c then Q U ο else u σ ο Q
def aaZ(t:TT):TT:=λσ H Q=>t σ H λc ο=>Q (!c) ο
def vY(d:PT X a Ϯ):PW X (.BoolOp .And [a] pos) Ϯ:=by
 intro n e f h i j k l;refine isTrue_and<|cH (d e f h i j k l) λm s1 b=>?_;cases m with
 |true=>exact isTrue_and_nil b
 |false=>exact b
def iu(d:PT X a Ϯ):PW X (.BoolOp .Or [a] pos) Ϯ:=by
 intro n e f h i j k l;refine isTrue_or<|cH (d e f h i j k l) λm s1 b=>?_;cases m with
 |false=>exact isTrue_or_nil b
 |true=>exact b
def w_(j:PT X a Ϯ)(k:PW X (.BoolOp .And (b::İ) pos) nR):PW X (.BoolOp .And (a::b::İ) pos)<|aag Ϯ nR:=by
 intro l d m e n o p q;refine isTrue_and<|cH (j d m e n _ p q) λr s1 s=>?_;obtain⟨f,h,i⟩:=s;cases r with
 |true=>exact k l d s1 e f o h i
 |false=>exact⟨f,h,i⟩
def lz(j:PT X a Ϯ)(k:PW X (.BoolOp .Or (b::İ) pos) nR):PW X (.BoolOp .Or (a::b::İ) pos)<|tOr Ϯ nR:=by
 intro l d m e n o p q;refine isTrue_or<|cH (j d m e n _ p q) λr s1 s=>?_;obtain⟨f,h,i⟩:=s;cases r with
 |true=>exact⟨f,h,i⟩
 |false=>exact k l d s1 e f o h i
def cG(e:PT X a Ϯ):PT X (.UnaryOp .Not a pos)<|aaZ Ϯ:=by intro f h i j k l m;exact isTrue_not<|Ż (e f h i j (λd b=>k (!d) b) l m) (λd s1 n=>let⟨b,o,p⟩:=n;⟨b,o,p⟩) λ_ _ q=>q
def Y8(È tb:TE):TE:=λσ H Q=>È σ H λx ο=>∃c,x=.bl c/\if c then tb σ ο Q else Q (.bl Τ) ο
def aaS(È tb:TE):TE:=λσ H Q=>È σ H λx ο=>∃c,x=.bl c/\if c then Q (.bl U) ο else tb σ ο Q
def Zt(È:TE):TE:=λσ H Q=>È σ H λx ο=>∃c,x=.bl c/\Q (.bl<|!c) ο
def p9{ý}{t:TE}(h:PE X a t):PE X (.BoolOp ý [a] pos) t:=λb d e f i j k=>BoolOp_one<|h b d e f i j k
def An(j:PE X a È)(k:PE X (.BoolOp .And (b::İ) pos) tb):PE X (.BoolOp .And (a::b::İ) pos)<|Y8 È tb:=by
 intro e l f m n o p;refine BoolOp_and<|cH (j e l f m _ o p) λt s1 q=>?_;obtain⟨u,h,i,r,d⟩:=q;obtain⟨s,rfl,d⟩:=d;cases r;refine Ϣ ?_;cases s with
 |true=>exact k e s1 f h n i d
 |false=>exact⟨.bl Τ,h,i,D,d⟩
def Bw(j:PE X a È)(k:PE X (.BoolOp .Or (b::İ) pos) tb):PE X (.BoolOp .Or (a::b::İ) pos)<|aaS È tb:=by
 intro e l f m n o p;refine BoolOp_or<|cH (j e l f m _ o p) λt s1 q=>?_;obtain⟨u,h,i,r,d⟩:=q;obtain⟨s,rfl,d⟩:=d;cases r;refine Ϣ ?_;cases s with
 |false=>exact k e s1 f h n i d
 |true=>exact⟨.bl U,h,i,D,d⟩
def Rp(d:PE X a È):PE X (.UnaryOp .Not a pos)<|Zt È:=by intro e f h i q j k;refine UnaryOp_<|cH (d e f h i _ j k) λr s1 l=>?_;obtain⟨s,m,n,o,b⟩:=l;obtain⟨p,rfl,b⟩:=b;cases o;exact not_of<|Ϣ ⟨.bl<|!p,m,n,D,b⟩
def tIf(t:TT)(È tb:TE):TE:=λσ H Q=>t σ H λc ο=>if c then È σ ο Q else tb σ ο Q
def A7{c:Ž}(k:PT X c Ϯ)(l:PE X a È)(m:PE X b tb):PE X (.IfExp c a b pos)<|tIf Ϯ È tb:=by
 intro d n e o f p q;refine wpAny_IfExp<|cH (k d n e o _ p q) λr s1 s=>?_;obtain⟨h,i,j⟩:=s;cases r with
 |true=>exact l d s1 e h f i j
 |false=>exact m d s1 e h f i j
end
def aN(K:Ζ)(H:Hp)(a:O)(N:J V):Prop:=
 Rd H a (.Y N)\/
  ∃(o:gf) (Ï:ŕ z) (n:M),K.lookup a=B o/\o.cls=.type "list"/\o.dict=g/\o.data=.seq Ï n/\Ï.size<=sizeLine/\bz N Ï.toList
def gb(K:Ζ)(H:Hp)(a:O)(N:J V):Prop:=
 Rd H a (.bO N)\/
  ∃(o:gf) (Ï:ŕ z) (n:M),K.lookup a=B o/\o.cls=.type "tuple"/\o.data=.seq Ï n/\Ï.size<=sizeLine/\bz N Ï.toList
noncomputable def abd:z->É V
 |.none=>B .b_
 |.bool b=>B<|.bl b
 |.int i _=>B<|.int i
 |.str x _=>B<|.str x
 |.bytes b _=>B<|.H7 b
 |.float b _=>B<|.U4 b
 |.ref a=>B<|.ref a
 |.type n=>B<|.ty n
 |_=>g
def bE.abs{x:V}{u:z}(r:bE x u):abd u=B x:=by
 cases x with
 |b_=>cases r;rfl
 |bl _=>cases r;rfl
 |int _=>obtain⟨a,rfl⟩:=r;rfl
 |str _=>obtain⟨a,rfl⟩:=r;rfl
 |H7 _=>obtain⟨a,rfl⟩:=r;rfl
 |U4 _=>obtain⟨a,rfl⟩:=r;rfl
 |ref _=>cases r;rfl
 |ty _=>cases r;rfl
theorem bE.inj{x:V}{u:z}(r:bE x u)(q:bE y u):x=y:=ĥ<|r.abs.symm.trans q.abs
theorem bz.inj:∀{N Å:J V} {Μ:J z},bz N Μ->bz Å Μ->N=Å
 |_,_,_,.nil,.nil=>D
 |_,_,_,.cons a b,.cons d e=>by rw[a.inj d,bz.inj b e]
section
variable{s:Í}{Å:J V}
def aN.of(h:H a=B (.Y N)):aN K H a N:=.inl<|.inl h
def gb.of(h:H a=B (.bO N)):gb K H a N:=.inl<|.inl h
def Inv.list(I:Inv X aC σ H s)(h:aN K H a N):∃Ï:J z,bz N Ï/\PlainL s.heap a Ï.toArray/\L N<=sizeLine:=by
 rcases h with h|⟨f,Ï,d,i,j,k,l,n,b⟩
 .obtain⟨m,Ï,d,b,e⟩:=h.ok I.hok;exact⟨Ï,b,⟨_,d,e,D,D,D⟩,m⟩
 .refine⟨Ï.toList,b,⟨f,d,I.lV a f i,j,k,by simpa using l⟩,?_⟩;have e:=b.length;simp[iE]at e;simp_all
theorem Inv.tuple(I:Inv X aC σ H s)(h:gb K H a N):∃Ï:J z,bz N Ï/\Ga s.heap a Ï.toArray/\L N<=sizeLine:=by
 rcases h with h|⟨d,Ï,e,f,i,j,n,b⟩
 .obtain⟨k,Ï,b,l⟩:=h.ok I.hok;exact⟨Ï,b,l,k⟩
 .refine⟨Ï.toList,b,⟨d,I.lV a d f,i,e,by simpa using j⟩,?_⟩;have m:=b.length;simp[iE]at m;simp_all
def Inv.Jb(I:Inv X aC σ H s)(h:aN K H a N)(h':aN K H a Å):N=Å:=by
 obtain⟨e,f,⟨n,o,i,_,_,j⟩,_⟩:=I.list h;obtain⟨k,l,⟨p,q,b,_,_,d⟩,_⟩:=I.list h';rw[i]at b;cases b;rw[j]at d;injection d with m _
 have:e=k:=by simpa using Ğ Gs m
 subst this;exact f.inj l
def Inv.Nd(I:Inv X aC σ H s)(h:gb K H a N)(h':gb K H a Å):N=Å:=by
 obtain⟨e,f,⟨n,i,_,o,j⟩,_⟩:=I.tuple h;obtain⟨k,l,⟨p,b,_,q,d⟩,_⟩:=I.tuple h';rw[i]at b;cases b;rw[j]at d;injection d with m _
 have:e=k:=by simpa using Ğ Gs m
 subst this;exact f.inj l
end
noncomputable abbrev Cx.Dg (X:Cx K) (E:z->Í->Prop):Cx K:={X with xe:=E}
noncomputable abbrev Cx.SI (X:Cx K):Cx K:=X.Dg λ_ _=>Ϡ
theorem Cx.Ok.Dg(ok:X.Ok)(E:z->Í->Prop):(X.Dg E).Ok:=
 ⟨ok.mod,ok.kind,ok.glob,ok.blt,ok.above,ok.inj,ok.has,ok.R0,ok.hd,ok.frames,ok.stk,ok.SD,ok.bs,ok.Jw,ok.CW,ok.C0,ok.qR,ok.Ow⟩
def Cx.Ok.ri(ok:(X.Dg E).Ok):X.Ok:=
 ⟨ok.mod,ok.kind,ok.glob,ok.blt,ok.above,ok.inj,ok.has,ok.R0,ok.hd,ok.frames,ok.stk,ok.SD,ok.bs,ok.Jw,ok.CW,ok.C0,ok.qR,ok.Ow⟩
section
variable{s:Í}
theorem Inv.Dg(I:Inv X aC σ H s)(E:z->Í->Prop):Inv (X.Dg E) aC σ H s:=⟨I.ok.Dg E,I.os,I.bare,I.base,I.loc,I.cell,I.free,I.jL,I.pin,I.hok,I.len⟩
theorem Inv.ri(I:Inv (X.Dg E) aC σ H s):Inv X aC σ H s:=⟨I.ok.ri,I.os,I.bare,I.base,I.loc,I.cell,I.free,I.jL,I.pin,I.hok,I.len⟩
theorem SP.ri{i:qO}{f:Flow}{s':Í}(h:SP (X.Dg E) aC i f s'):SP X aC i f s':=by
 cases f with
 |next=>obtain⟨a,b,d,e⟩:=h;exact⟨a,b,d.ri,e⟩
 |brk=>obtain⟨a,b,d,e⟩:=h;exact⟨a,b,d.ri,e⟩
 |cont=>obtain⟨a,b,d,e⟩:=h;exact⟨a,b,d.ri,e⟩
 |ret l=>obtain⟨j,a,b,d,k,e⟩:=h;exact⟨j,a,b,d.ri,k,e⟩
theorem zq.SI{st:J dP}{t:TS}(h:zq X.SI st t):zq X st t:=λa b d e f i j=>
 Ż (h a b d e f (i.Dg _) j) (λ_ _ k=>k.ri) λ_ _ l=>ŏ l
end
section
variable{st:dP}{İ:J dP}{t u:TS}{pos:kX}
def HM:TS:=λa σ H=>a.nx σ H
def qM(t u:TS):TS:=λa σ H=>t {a with nx:=u a} σ H
def aD:zq X [] HM:=λ_ _ a b _ d e=>n_ ⟨a,b,d,e⟩
def ah(á:PS X st t)(í:zq X İ u):zq X (st::İ)<|qM t u:=by
 intro d e f h b i j;refine Yg<|cH (á d e f h {b with nx:=u b} i j) λk s1 a=>?_;cases k with
 |next=>
  obtain⟨l,m,n,a⟩:=a;exact í d s1 l m b n a
 |ret o=>exact a
 |brk=>exact a
 |cont=>exact a
def ai(á:PS X st t):zq X [st] t:=by
 intro b d e f h i j;refine Yg<|cH (á b d e f h i j) λk s1 a=>?_;cases k with
 |next=>exact n_ a
 |ret l=>exact a
 |brk=>exact a
 |cont=>exact a
def Inv.quiet{s:Í}(I:Inv X aC σ H s):interactive X.env=Τ:=by simp[interactive,I.ok.kind]
def Mq(Â:TE):TS:=λa σ H=>Â σ H λ_ ο=>a.nx σ ο
def aT(d:PE X e Â)(f:kL e g pos.line X.env=pure Τ:=by rfl):PS X (.Expr e pos)<|Mq Â:=by intro h i a j o b k;exact wpAny_Expr_any (cH (d h i a j _ b k) λp s1 ⟨q,l,m,r,n⟩=>⟨a,l,m,n⟩) b.quiet f
def tF(Â:TE):TS:=λa σ H=>Â σ H a.rt
def aA(b:PE X e Â):PS X (.Return (B e) pos)<|tF Â:=by intro d f a h p i j;exact wpAny_Return_some<|cH (b d f a h _ i j) λq s1 ⟨k,l,m,n,o⟩=>⟨k,a,l,m,n,o⟩
def Lm(c:TT)(t u:TS):TS:=λa σ H=>c σ H λb ο=>if b then t a σ ο else u a σ ο
def aJ{c:Ž}{a b:J dP}{ϥ:TT}(k:PT X c ϥ)(l:zq X a t)(m:zq X b u):PS X (.If c a b pos)<|Lm ϥ t u:=by
 intro d n e o f p q;refine wpAny_If<|cH (k d n e o _ p q) λr s1 s=>?_;obtain⟨h,i,j⟩:=s;cases r with
 |true=>exact l d s1 e h f i j
 |false=>exact m d s1 e h f i j
end
abbrev TG:=V->St->Hp->(St->Hp->Prop)->Prop
variable{ς:TG}
abbrev X7:=J V->St->Hp->(St->Hp->Prop)->Prop
def PG(X:Cx K)(b:Ž)(t:TG):Prop:=
 ∀(aC:J<|O×gf) (s:Í) (σ:St) (H:Hp) (v:V) (u:z) (Q:St->Hp->Prop),Inv X aC σ H s->bE v u->t v σ H Q->
  ô (ă X.prog X.w) X.A (JA b X.env u) (λ_ s'=>∃a R,Inv X aC a R s'/\Q a R) X.xe s
def PGs(X:Cx K)(Ø:J Ž)(t:X7):Prop:=
 ∀(aC:J<|O×gf) (s:Í) (σ:St) (H:Hp) (vs:J V) (Μ:J z) (Q:St->Hp->Prop),Inv X aC σ H s->bz vs Μ->t vs σ H Q->
  ô (ă X.prog X.w) X.A (assignInOrder ((um Ø X.env).map (·.2)) Μ) (λ_ s'=>∃a R,Inv X aC a R s'/\Q a R) X.xe s
abbrev WK:=V->V->V->Hp->(Hp->Prop)->Prop
def ZL(X:Cx K)(t:WK):Prop:=
 ∀(aC:J<|O×gf) (s:Í) (σ:St) (H:Hp) (o i v:V) (a b u:z) (Q:Hp->Prop),Inv X aC σ H s->bE o a->bE i b->bE v u->t o i v H Q->
  ô (ă X.prog X.w) X.A (setItem a b u) (λ_ s'=>∃R,Inv X aC σ R s'/\Q R) X.xe s
abbrev TIp:=V->V->Hp->VK->Prop
def PIp(X:Cx K)(ý:JB)(t:TIp):Prop:=
 ∀(aC:J<|O×gf) (s:Í) (σ:St) (H:Hp) (x y:V) (v u:z) (Q:VK),Inv X aC σ H s->bE x v->bE y u->t x y H Q->
  ô (ă X.prog X.w) X.A (Yh ý v u) (EP X aC σ Q) X.xe s
section
variable{pos:kX}
def c8(i:M):TG:=λv σ H Q=>Q (σ.set i<|B v) H
def Uu{x:S}(a:X.N.Nodup)(Á:X.N[i]?=B x)(Ο:VX X.env.scope x)(b:X.fn x=U\/X.env.scope.names.lookup x=B .local:=by first|exact .inl rfl|exact .inr rfl|assumption):PG X (.Name x pos)<|c8 i:=by intro k l m d n o p e f h;exact XC<|BC e a Á Ο f (λq j=>⟨_,d,j,h⟩) b
def S8:X7:=λvs σ H Q=>vs=[]/\Q σ H
inductive Bg(t:TG)(u:X7)(vs:J V)(σ:St)(H:Hp)(Q:St->Hp->Prop):Prop
 |mk (v r:_) (_:vs=v::r) (_:t v σ H λa R=>u r a R Q)
def sW:PGs X [] S8:=by intro i j b d k l m e f a;obtain⟨h,a⟩:=a;subst h;cases f;exact assignInOrder_nil ⟨b,d,e,a⟩
def gk{e:Ž}{Α:J Ž}{t:TG}{u:X7}(á:PG X e t)(í:PGs X Α u)
  (f:(um (e::Α) X.env).map (·.2)=JA e X.env::(um Α X.env).map (·.2):=by rfl):PGs X (e::Α)<|Bg t u:=by
 intro d h i j v w k l a b;obtain⟨x,y,m,b⟩:=b;subst m;cases a with
 |cons a n=>
  rw[f];refine assignInOrder_cons<|cH (á d h i j _ _ _ l a b) λ_ s1 o=>?_;obtain⟨p,q,r,s⟩:=o;exact í d s1 p q _ _ k r n s
inductive TU(K:Ζ)(n:M)(t:X7)(v:V)(σ:St)(H:Hp)(Q:St->Hp->Prop):Prop
 |mk(a N:_)(_:v=.ref a)(_:gb K H a N)(_:L N=n)(_:t N σ H Q)
def xy{Α:J Ž}{k:M}{t:X7}(f:X.calm=U)(h:PGs X Α t)
  (i:(L<|um Α X.env)=n:=by rfl) (j:(um Α X.env).findIdx? (·.1)=g:=by rfl):PG X (.Tuple Α k pos)<|TU K n t:=by
 intro l m o p C E q a r b;obtain⟨F,s,u,v,w,b⟩:=b;subst u;cases r;obtain⟨G,d,x,H⟩:=a.tuple v;refine assign_Tuple_tuple (a.ok.hd f) x (by simp[i,<-w,d.length]) j λI y=>?_;exact h l _ o p s _ q (a.kept (t':=m.toks) λz A e=>y z A (ė<|û e) e) (by simpa using d) b
def aaY(ŉ a:TE)(t:WK):TG:=λv σ H Q=>ŉ σ H λo ο=>a σ ο λi Θ=>t o i v Θ λb=>Q σ b
def Pa{o i:Ž}{ŉ h:TE}{t:WK}(j:PE X o ŉ)(Á:PE X i h)(k:ZL X t)
  (l:∀v,JA (.Subscript o i pos) X.env v=(do
   let a <-ni [v] (Ŧ o X.env)
   let b <-ni [v,a] (Ŧ i X.env)
   Co pos
   ni [v,a,b] (setItem a b v)
   release [v,a,b] []):=by intro _;rfl):PG X (.Subscript o i pos)<|aaY ŉ h t:=by
 intro f m e n v p K q r s;rw[l];refine Λ<|Ũ<|cH (j f m e n _ q s) λa s1 d=>?_;obtain⟨u,w,x,y,z⟩:=d;refine Λ<|Ũ<|cH (Á f s1 e w _ x z) λb s2 d=>?_;obtain⟨A,C,E,F,G⟩:=d;refine Λ<|nj<|Λ<|Ũ<|cH (k f s2 e C u A v a b p _ E y F r G) λ_ s3 d=>?_;obtain⟨H,I,J⟩:=d;exact wpAny_release ⟨e,H,I,J⟩
def Hj(Â:TE)(ς:TG):TS:=λa σ H=>Â σ H λx ο=>ς x σ ο a.nx
def Qt(d:PE X e Â)(f:PG X ĉ ς)(h:swapsWithSole [ĉ] e pos.line X.env=pure Τ:=by rfl)(i:swappedStores [ĉ] e X.env=pure g:=by rfl)
  (á:(um [ĉ] X.env).map (·.2)=[JA ĉ X.env]:=by rfl):PS X (.Assign [ĉ] e pos)<|Hj Â ς:=by
 intro a j b k v l m;refine wpAny_Assign_stores (cH (d a j b k _ l m) λn s1 o=>?_) h i;obtain⟨p,q,r,s,t⟩:=o;rw[á];exact cH (f a s1 b q p n _ r s t) λ_ s2 u=>u
def Xf{x:S}{Ň:kX}(a:X.N.Nodup)(Á:X.N[i]?=B x)(Ο:VX X.env.scope x)(b:PE X e Â)(d:kL e (B<|.Name x Ň) pos.line X.env=pure Τ:=by rfl)(f:X.fn x=U\/X.env.scope.names.lookup x=B .local:=by first|exact .inl rfl|exact .inr rfl|assumption):
  PS X (.Assign [.Name x Ň] e pos) (Hj Â<|c8 i):=by
 intro h j k l u m n;refine wpAny_Assign_Name (cH (b h j k l _ m n) λv s1 o=>?_) d;obtain⟨w,p,q,r,s⟩:=o;exact BC q a Á Ο r (λs2 t=>⟨_,p,t,s⟩) f
def OE(i:M)(Â:TE)(a:TIp)(b:qO)(σ:St)(H:Hp):Prop:=match σ[i]? with
 |some (B x)=>Â σ H λy ο=>a x y ο λd Θ=>b.nx (σ.set i<|B d) Θ
 |_=>Ϡ
theorem OE.ex{a:TIp}{b:qO}(h:OE i Â a b σ H):∃x,σ[i]?=B (B x)/\Â σ H λy ο=>a x y ο λd Θ=>b.nx (σ.set i<|B d) Θ:=by
 unfold OE at h;split at h
 .exact⟨_,by assumption,h⟩
 .exact h.elim
def qq{x:S}{ý:JB}{m:TIp}{Ň:kX}(s:X.N.Nodup)(Á:X.N[i]?=B x)(Ο:VX X.env.scope x)(t:PE X e Â)(u:PIp X ý m)(v:X.fn x=U\/X.env.scope.names.lookup x=B .local:=by first|exact .inl rfl|exact .inr rfl|assumption):
  PS X (.AugAssign (.Name x Ň) ý e pos) (OE i Â m):=by
 intro d n o w y b f;refine bx λY z=>?_;obtain⟨p,A,f⟩:=OE.ex f;obtain⟨Z,C,E⟩:=b.loc;obtain⟨q,h,F⟩:=E i x p Á A (by rcases Ο with k|k;exact .inl k;exact .inr<|.inl k);apply z;refine wpAny_AugAssign_Name ?_;have r:ô (ă X.prog X.w) X.A (Ŧ e X.env) (λj G=>ô (ă X.prog X.w) X.A (Yh ý q j) (λh H=>ô (ă X.prog X.w) X.A (Ye X.env x h) (λ_=>SP X d y .next) X.xe H) X.xe G) X.xe n:=by refine cH (t d n o w _ b f) λj s1 l=>?_;obtain⟨I,J,K,L,M⟩:=l;refine cH (u d s1 o J p I q j _ K h L M) λaa s2 l=>?_;obtain⟨ab,N,O,P,Q⟩:=l;exact BC O s Á Ο P (λs3 R=>⟨_,N,R,Q⟩) v
 rcases F with⟨a,T⟩|⟨a,ad,V,W⟩
 .exact R7 b.ok.kind a C T r
 .rcases a with a|a
  .exact Uz b.ok.kind a V W r
  .rcases Ο with k|k
   .have:X.env.scope.names.lookup x=B .free:=a;rw[k]at this;cases this
   .have:X.env.scope.names.lookup x=B .free:=a;rw[k]at this;cases this
def UJ(f:Z->Z->Z)(x:V)(y:V)(H:Hp)(Q:VK):Prop:=match x,y with
 |.int i,.int j=>Q (.int<|f i j) H
 |_,_=>Ϡ
theorem UJ.ex{f:Z->Z->Z}{x:V}{Q:VK}(h:UJ f x y H Q):∃i j,x=.int i/\y=.int j/\Q (.int<|f i j) H:=by
 unfold UJ at h;split at h
 .exact⟨_,_,D,D,h⟩
 .exact h.elim
def sj:PIp X .Add<|UJ λi j=>i+j:=by intro m n o a p q r s t b d e f;obtain⟨i,j,h,k,l⟩:=UJ.ex f;subst h;subst k;obtain⟨u,rfl⟩:=d;obtain⟨v,rfl⟩:=e;exact RK ⟨.int _,a,b.tok _,⟨_,D⟩,l⟩
def VN:PIp X .Sub<|UJ λi j=>i -j:=by intro m n o a p q r s t b d e f;obtain⟨i,j,h,k,l⟩:=UJ.ex f;subst h;subst k;obtain⟨u,rfl⟩:=d;obtain⟨v,rfl⟩:=e;exact isub_int ⟨.int _,a,b.tok _,⟨_,D⟩,l⟩
end
section
variable{pos:kX}
def VV(c:TT)(tb:TS):TS:=λa σ H=>∃d:M->St->Hp->Prop,(∃m,d m σ H)/\∀m σ H,d m σ H->
 c σ H λb ο=>if b then∃Δ:St->Hp->Prop,(∀e R,Δ e R->∃f,f<m/\d f e R)/\tb {a with nx:=Δ,ct:=Δ,bk:=a.nx} σ ο else a.nx σ ο
def wj{c:Ž}{ť:J dP}{ϥ:TT}{tb:TS}(o:Yi (ă X.prog X.w) X.A X.env X.xe)(v:PT X c ϥ)(w:zq X ť tb):PS X (.While c ť [] pos)<|VV ϥ tb:=by
 intro h P x y Q z A;obtain⟨C,⟨E,w0⟩,F⟩:=A;refine wpAny_While<|codeAny_whileLoop (λi G=>∃p q,Inv X h p q G/\C i p q) ?_ E ⟨x,y,z,w0⟩;refineλi s1 H=>bx λR I=>?_;obtain⟨d,r,K,L⟩:=H;apply I;refine g7 o<|cH (v h s1 d r _ K<|F i d r L) λM s2 N=>?_;obtain⟨s,t,e⟩:=N;cases M with
 |true=>
  obtain⟨S,u,e⟩:=e;rw[à D];refine g7 o<|cH (w h s2 d s _ t e) λO s3 f=>?_;cases O with
  |next=>
   obtain⟨a,b,j,k⟩:=f;obtain⟨l,m,n⟩:=u a b k;exact⟨l,m,a,b,j,n⟩
  |cont=>
   obtain⟨a,b,j,k⟩:=f;obtain⟨l,m,n⟩:=u a b k;exact⟨l,m,a,b,j,n⟩
  |brk=>exact f
  |ret T=>exact f
 |false=>
  rw[Ó Ę];exact n_ ⟨d,s,t,e⟩
end
structure It where
 go:M->Hp->Prop
 HW:M->Hp->V->Hp->Prop
 stop:M->Hp->Prop
def BY(X:Cx K)(aC:J<|O×gf)(H:Hp)(b:O):Prop:=
 H b=g/\b≠X.env.locals/\b∉X.fs/\(b∈X.ex\/X.CJ.heap.objs.size<=b)/\(∀x c,X.env.cells.lookup x=B c->c≠b)/\∀p∈X.pn++aC,p.1≠b
def Inv.NQ{s:Í}(I:Inv X aC σ H s)(a:s.heap.objs.size<=b)(e:R b=g):BY X aC R b:=by
 refine⟨e,ki<|ĭ I.lt a,I.aa5 a,.inr<|Ć I.sz a,λf h i d=>?_,λj k d=>?_⟩
 .obtain⟨m,l⟩:=I.cell f h i;exact absurd (ĭ l.lt<|d▸a)<|gD _
 .exact absurd (ĭ (û (I.pin j k).1)<|d▸a)<|gD _
structure Fj(P:Ŝ)(w:ś)(K:Ζ)(ĉ:Ž)(e:It)(â:J O)(d:O)(a:M->ό->Prop):Prop where
 mem:d∈â
 obj:∀i h,a i h->∀b∈â,∃o,h.get? b=B o/\∀v,o.data≠.cell v
 keep:∀i h h',a i h->(∀b∈â,∀o,h.get? b=B o->h'.get? b=B o)->a i h'
 item:∀X:Cx K,X.prog=P->X.w=w->X.calm=U->∀(i:M) (aC:J<|O×gf) (s:Í) (σ:St) (H:Hp) (E:z->Í->Prop),Inv X aC σ H s->(∀b∈â,BY X aC H b)->a i s.heap->e.go i H->
  ô (ă P w) X.A (z5<|.ref d) (λr s1=>∃u,r=B u/\ ô (ă P w) X.A (Gu ĉ (.ref d) u) (λ_ s2=>∃x R,Inv X aC σ R s2/\bE x u/\e.HW i H x R/\a (i+1) s2.heap/\∀b∈â,R b=g) E s1) E s
 done:∀X:Cx K,X.prog=P->X.w=w->X.calm=U->∀(i:M) (aC:J<|O×gf) (s:Í) (σ:St) (H:Hp) (E:z->Í->Prop),Inv X aC σ H s->(∀b∈â,BY X aC H b)->a i s.heap->e.stop i H->
  ô (ă P w) X.A (z5<|.ref d) (λr s1=>r=g/\Inv X aC σ H s1) E s
 self:∀(A:ź) (i:M) (s:Í) (Q:z->Í->Prop) (E:z->Í->Prop),a i s.heap->Q (.ref d) s->ô (ă P w) A (OY<|.ref d) Q E s
abbrev TI:=St->Hp->(It->Hp->Prop)->Prop
def PIE(X:Cx K)(aC:J<|O×gf)(σ:St)(ĉ:Ž)(Χ:It->Hp->Prop)(f:z)(s2:Í):Prop:=
 ∃(a:O) (â:J O) (d:M->ό->Prop) (e:It) (R:Hp),f=.ref a/\Inv X aC σ R s2/\Fj X.prog X.w K ĉ e â a d/\d 0 s2.heap/\(∀b∈â,BY X aC R b)/\Χ e R
def PI(X:Cx K)(ĉ kH:Ž)(a:TI):Prop:=
 ∀(aC:J<|O×gf) (s:Í) (σ:St) (H:Hp) (Χ:It->Hp->Prop),Inv X aC σ H s->a σ H Χ->
  ô (ă X.prog X.w) X.A (Ŧ kH X.env) (λv s1=>ô (ă X.prog X.w) X.A (OY v) (PIE X aC σ ĉ Χ) X.xe s1) X.xe s
def DH{s:Í}{b:O}{u:z}{n:jC}{vs:ŕ z}{Q:Vc->Í->Prop}(e:s.heap.get? b=B o)(f:o.cls=.type n)(h:o.data=.fields vs)
  (i:["enumerate","zip","dict_itemiterator","dict_reverseitemiterator","odict_iterator","itertools.zip_longest","itertools.pairwise"].contains n=Τ) (a:Q () s):ô è A (Gu ĉ (.ref b) u) Q E s:=by
 cases ĉ<;>first
  |exact Ê a
  |(cases u<;>first
   |exact Ê a
   |(refine Λ<|wpAny_load e ?_;rw[f,h];show ô è A (if(["enumerate","zip","dict_itemiterator","dict_reverseitemiterator","odict_iterator","itertools.zip_longest","itertools.pairwise"].contains n&&vs[0]?==B (mz _)) then _ else _) Q E s;rw[Ó (by intro d;rw[i,Ϫ]at d;cases d)];exact Ê a))
noncomputable def xW (K:Ζ) (a:O):It:=
 ⟨λi H=>∃N x,aN K H a N/\N[i]?=B x,λi H x R=>R=H/\∀N,aN K H a N->N[i]?=B x,λi H=>∃N,aN K H a N/\L N<=i⟩
noncomputable def ZH (K:Ζ) (a:O):It:=
 ⟨λi H=>∃N x,gb K H a N/\N[i]?=B x,λi H x R=>R=H/\∀N,gb K H a N->N[i]?=B x,λi H=>∃N,gb K H a N/\L N<=i⟩
noncomputable def X4 (lo:Z) (n:M):It:=⟨λi _=>i<n,λi H x R=>R=H/\x=.int (lo+i),λi _=>n<=i⟩
def N4(a d:O):Fj P w K ĉ (xW K a) [d] d (λi h=>h.IsListIter d a i) where
 mem:=bh
 obj:=λi h st e f=>by
  have b:e=d:=by simpa using f
  subst b;obtain⟨j,b,z,n⟩:=st;exact⟨j,b,λaa A=>by rw[n]at A;cases A⟩
 keep:=λi h o st H=>st.at λj b=>H d bh j b
 item:=by intro I p q C i J s L E M k l st r;subst p q;refine bx λab N=>?_;obtain⟨Q,R,m,t⟩:=r;obtain⟨S,u,v,T⟩:=k.list m;obtain⟨F,V,W⟩:=u.get t;obtain⟨x,f1,f2,f3,f4,y⟩:=l d bh;apply N;refine uo st v.isList (x:=F) (by simpa using V) λo G X=>?_;obtain⟨j,b,z,n⟩:=id G;exact⟨F,D,DH (s:={s with heap:=o}) b z n bM ⟨R,E,k.turned (t':=s.toks) (λe j f b=>(X.2 e f).trans b) x f1 f3 f4 y,W,⟨D,λad Y=>k.Jb Y m▸t⟩,G,λe f=>(l e f).1⟩⟩
 done:=by intro I p q C i J s L E M k l st r;subst p q;obtain⟨Q,m,t⟩:=r;obtain⟨S,u,v,T⟩:=k.list m;obtain⟨x,f1,f2,f3,f4,y⟩:=l d bh;have ae:=u.length;exact vd (k.ok.hd C) st v.isList (by simp;simp_all) λo Z=>⟨D,k.turned (t':=s.toks) (λe j f b=>Z e j f b) x f1 f3 f4 y⟩
 self:=λ_ _ _ _ _ st h=>wpAny_pyIter_listiter st h
def La(a d:O):Fj P w K ĉ (ZH K a) [d] d (λi h=>h.IsTupleIter d a i) where
 mem:=bh
 obj:=λi h st e f=>by
  have b:e=d:=by simpa using f
  subst b;obtain⟨j,b,A,n⟩:=st;exact⟨j,b,λaa C=>by rw[n]at C;cases C⟩
 keep:=λi h o st I=>st.at λj b=>I d bh j b
 item:=by intro J p q E i L s M F N k l st r;subst p q;refine bx λab Q=>?_;obtain⟨R,S,m,t⟩:=r;obtain⟨u,v,x,T⟩:=k.tuple m;obtain⟨G,V,W⟩:=v.get t;obtain⟨y,f1,f2,f3,f4,z⟩:=l d bh;apply Q;refine wpAny_pyNext_tuple_item st (show s.heap.IsTuple a u.toArray from x) (x:=G) (by simpa using V) λo H X=>?_;obtain⟨j,b,A,n⟩:=id H;exact⟨G,D,DH (s:={s with heap:=o}) b A n bM ⟨S,F,k.turned (t':=s.toks) (λe j f b=>(X.2 e f).trans b) y f1 f3 f4 z,W,⟨D,λad Y=>k.Nd Y m▸t⟩,H,λe f=>(l e f).1⟩⟩
 done:=by intro J p q E i L s M F N k l st r;subst p q;obtain⟨R,m,t⟩:=r;obtain⟨u,v,x,T⟩:=k.tuple m;obtain⟨y,f1,f2,f3,f4,z⟩:=l d bh;have ae:=v.length;exact wpAny_pyNext_tuple_end (k.ok.hd E) st (show s.heap.IsTuple a u.toArray from x) (by simp;simp_all) λo Z=>⟨D,k.turned (t':=s.toks) (λe j f b=>Z e j f b) y f1 f3 f4 z⟩
 self:=λ_ _ _ _ _ st h=>wpAny_pyIter_tupleiter st h
def KI(a:O)(lo:Z)(n:M):Fj P w K ĉ (X4 lo n) [a] a (λi h=>IsRangeIter h a (lo+(i:M)*1) ((n:Z) -(i:M)) 1) where
 mem:=bh
 obj:=λi h st b d=>by
  have e:b=a:=by simpa using d
  subst e;exact⟨_,st,λv z=>by have A:Yj _=Data.cell v:=z;cases A⟩
 keep:=λi h k st C=>C a bh _ st
 item:=by intro l m o p i E s F x G f j st q;subst m o;refine bx λR H=>?_;obtain⟨r,f1,f2,f3,f4,t⟩:=j a bh;apply H;refine(Walks.range (prog:=l.prog) (w:=l.w) (f.ok.hd p) a lo 1 n).item i s _ _ q st λv k I J y L=>?_;obtain⟨N,rfl⟩:=J;refine⟨_,D,DH (s:={s with heap:=k,toks:=I}) (n:="range_iterator") y D D bM ⟨.int<|lo+i,x,f.turned (λb u d e=>L b u (by simpa using d) e) r f1 f3 f4 t,⟨N,?_⟩,⟨D,D⟩,y,λb d=>(j b d).1⟩⟩;rw[Int.mul_one]
 done:=by intro l m o p i E s F x G f j st q;subst m o;obtain⟨r,f1,f2,f3,f4,t⟩:=j a bh;exact wpAny_pyNext_range_end (f.ok.hd p) st (by have:n<=i:=q;lia) λk Q=>⟨D,f.turned (t':=s.toks) (λb u d e=>Q b u d e) r f1 f3 f4 t⟩
 self:=λ_ _ _ _ _ st h=>wpAny_pyIter_rangeiter st h
inductive VG(K:Ζ)(Χ:It->Hp->Prop)(x:V)(ο:Hp):Prop
 |mk(a:_)(_:x=.ref a)(_:(∃N,aN K ο a N))(_:Χ (xW K a) ο)
def Mn(K:Ζ)(Ŏ:TE):TI:=λσ H Χ=>Ŏ σ H λx ο=>VG K Χ x ο
inductive ZD(K:Ζ)(Χ:It->Hp->Prop)(x:V)(ο:Hp):Prop
 |mk(a:_)(_:x=.ref a)(_:(∃N,gb K ο a N))(_:Χ (ZH K a) ο)
def abb(K:Ζ)(Ŏ:TE):TI:=λσ H Χ=>Ŏ σ H λx ο=>ZD K Χ x ο
def bu{l:Ž}{Ŏ:TE}(e:PE X l Ŏ):PI X ĉ l<|Mn K Ŏ:=by
 intro f h i j w k m;refine cH (e f h i j _ k m) λx s1 n=>?_;obtain⟨y,o,b,p,q⟩:=n;obtain⟨r,a,⟨z,s⟩,t⟩:=q;subst a;cases p;obtain⟨A,C,u,E⟩:=b.list s;refine lF u.isList ?_;refine⟨s1.heap.objs.size,[s1.heap.objs.size],_,_,o,D,b.kept (t':=s1.toks) λd F a=>ß _ a,N4 r _,⟨_,Ą _ D,D,D⟩,λd v=>?_,t⟩;have a:d=s1.heap.objs.size:=by simpa using v
 subst a;exact b.NQ (Õ _)<|b.hok.fresh<|Õ _
def V9{l:Ž}{Ŏ:TE}(f:PE X l Ŏ):PI X ĉ l<|abb K Ŏ:=by
 intro h i j k x m n;refine cH (f h i j k _ m n) λy s1 o=>?_;obtain⟨z,p,b,q,r⟩:=o;obtain⟨d,a,⟨A,s⟩,t⟩:=r;subst a;cases q;obtain⟨u,C,v,E⟩:=b.tuple s;refine wpAny_pyIter_tuple (show s1.heap.IsTuple d u.toArray from v) ?_;refine⟨s1.heap.objs.size,[s1.heap.objs.size],_,_,p,D,b.kept (t':=s1.toks) λe F a=>ß _ a,La d _,⟨_,Ą _ D,D,D⟩,λe w=>?_,t⟩;have a:e=s1.heap.objs.size:=by simpa using w
 subst a;exact b.NQ (Õ _)<|b.hok.fresh<|Õ _
def Pj{s:Í}{Χ:It->Hp->Prop}{lo Á:Z}{t u v:Xy}{tk:M}(I:Inv X aC σ H s)(á: -(2^62)<=lo)(í:lo<2^62)(e: -(2^62)<=Á)(f:Á<2^62)
  (q:Χ (X4 lo (Á -lo).toNat) H):ô (ă X.prog X.w) X.A (OY<|.ref s.heap.objs.size) (PIE X aC σ ĉ Χ) E {s with heap:=s.heap.push {cls:=.type "range",data:=.fields #[.int lo t,.int Á u,.int 1 v]},toks:=tk}:=by
 refine wpAny_pyIter_range (IsRange.new ..) (small_one á í e f) ?_;have b:Inv X aC σ H {s with heap:=s.heap.push {cls:=.type "range",data:=.fields #[.int lo t,.int Á u,.int 1 v]},toks:=tk}:=I.kept λd h a=>ß _ a;refine⟨(s.heap.push {cls:=.type "range",data:=.fields #[.int lo t,.int Á u,.int 1 v]}).objs.size,[(s.heap.push {cls:=.type "range",data:=.fields #[.int lo t,.int Á u,.int 1 v]}).objs.size],_,_,H,D,b.kept (t':=tk) λd h a=>ß _ a,KI _ lo (Á -lo).toNat,?_,λd i=>?_,q⟩
 .show IsRangeIter _ _ (lo+((0:M):Z)*1) ((((Á -lo).toNat:M):Z) -((0:M):Z)) 1;rw[(bh:lo+((0:M):Z)*1=lo),(by rw[rangeSize_one];lia:(((Á -lo).toNat:M):Z) -((0:M):Z)=Yk lo Á 1)];exact Ą _ D
 .have a:d=(s.heap.push {cls:=.type "range",data:=.fields #[.int lo t,.int Á u,.int 1 v]}).objs.size:=by simpa using i
  subst a;exact b.NQ (Õ _)<|b.hok.fresh<|Õ _
inductive WT(Χ:It->Hp->Prop)(vs:J V)(ο:Hp):Prop
 |mk(j:Z)(_:vs=[.int j])(_: -(2^62)<=j)(_:j<2^62)(_:Χ (X4 0 j.toNat) ο)
def YS(È:TA):TI:=λσ H Χ=>È σ H λvs ο=>WT Χ vs ο
def ED{a:Ž}{È:TA}{p pos:kX}(e:Gl X "range")(f:X.mg "range"=g)(h:PA X [a] È)(i:ë [a] X.env=[(Τ,Ŧ a X.env)]:=by rfl):PI X ĉ (.Call (.Name "range" p) [a] [] pos)<|YS È:=by
 intro j k l m x d n;refine Call_<|BP d e f boot_range<|kM (cH (h pos j k l m _ d n) λy s1 o=>?_) i D;obtain⟨z,A,q,r,b⟩:=o;obtain⟨C,s,b,t,u⟩:=b;subst s;cases r with
 |cons v w=>
  cases w;obtain⟨E,rfl⟩:=v;exact call_range_1<|Pj q bh bh b t<|by simpa using u
def W0(h:TI)(ς:TG)(tb:TS):TS:=λa σ H=>h σ H λb ο=>∃d:M->M->St->Hp->Prop,(∃m,d 0 m σ ο)/\∀i m σ H,d i m σ H->
 (b.stop i H/\a.nx σ H)\/(b.go i H/\∃Δ:St->Hp->Prop,(∀e R,Δ e R->∃f,f<m/\d (i+1) f e R)/\∀x R,b.HW i H x R->ς x σ R λj Θ=>tb {a with nx:=Δ,ct:=Δ,bk:=a.nx} j Θ)
noncomputable def BJ (â:J O) (h:ό):J<|O×gf:=â.filterMap λb=>(h.get? b).map λo=>(b,o)
def uS{â:J O}(a:b∈â)(e:h.get? b=B o):(b,o)∈BJ â h:=jy.mpr ⟨b,a,by rw[e];rfl⟩
def NU{â:J O}{h:ό}{p:O×gf}(e:p∈BJ â h):p.1∈â/\h.get? p.1=B p.2:=by
 obtain⟨d,f,a⟩:=jy.mp e;cases b:h.get? d with
 |none=>rw[b]at a;cases a
 |some i=>
  rw[b]at a;have j:(d,i)=p:=ĥ a;subst j;exact⟨f,b⟩
def Inv.pinned{s:Í}{â:J O}(I:Inv X aC σ H s)(i:∀b∈â,BY X aC H b)(j:∀b∈â,∃o,s.heap.get? b=B o/\∀v,o.data≠.cell v):Inv X (aC++BJ â s.heap) σ H s:=
 I.Mi λa k=>(î.mp k).elim (λd=>I.pin a<|ò _ d) λd=>by obtain⟨e,f⟩:=NU d;obtain⟨l,f1,f2,_⟩:=i a.1 e;obtain⟨o,h,m⟩:=j a.1 e;rw[f]at h;cases h;exact⟨f,l,f1,f2,m⟩
def Inv.vZ{ù:J<|O×gf}{s:Í}(I:Inv X (aC++ù) σ H s):Inv X aC σ H s:=I.Mi λa b=>I.pin a<|ò _<|Ĭ _ b
def cS{kH:Ž}{ť:J dP}{E:TI}{tb:TS}{pos:kX}(m:Yi (ă X.prog X.w) X.A X.env X.xe)(F:X.calm=U)(Á:PI X ĉ kH E)(R:PG X ĉ ς)(b:zq X ť tb)
  (S:∀x,qS kH X.env x=pure x:=by intro _;rfl):PS X (.For ĉ kH ť [] pos)<|W0 E ς tb:=by
 intro k T G V aM W Y;refine wpAny_For (cH (Á k T G V _ W Y) λZ s1 aa=>cH aa λaN s2 ab=>?_) S;refine bx λad v=>?_;obtain⟨aO,n,H,aP,ae,o,af,p,ag,f2,I,⟨ah,w0⟩,ai⟩:=ab;apply v;subst o;have w:∀{h:Hp},(∀a∈n,h a=g)->∀a∈n,BY X k h a:=λaj a b=>⟨aj a b,(f2 a b).2⟩;refine codeAny_forLoop_any (λt K=>∃i q h,Inv X k q h K/\H i K.heap/\(∀a∈n,h a=g)/\I i t q h) ?_ ah ⟨0,G,ae,af,ag,λa b=>(f2 a b).1,w0⟩;refineλt s3 ak=>bx λad v=>?_;obtain⟨i,r,u,L,M,N,al⟩:=ak;apply v;rcases ai i t r u al with⟨am,an⟩|⟨ao,ap,aq,step⟩
 .refine g7 m<|cH (p.done X D D F i k s3 r u X.xe L (w N) M am) λar s4 l=>?_;obtain⟨y,au⟩:=l;subst y;exact n_ ⟨r,u,au,an⟩
 .refine g7 m<|cH (p.item X D D F i k s3 r u X.xe L (w N) M ao) λar s4 l=>?_;obtain⟨av,y,aw⟩:=l;subst y;refine g7 m<|cH aw λ_ O l=>?_;obtain⟨x,P,ax,ay,az,z,aA⟩:=l;refine g7 m<|cH (R _ O r P x av _ (ax.pinned (w aA)<|p.obj _ _ z) ay<|step x P az) λ_ aB l=>?_;obtain⟨aC,aD,aE,aF⟩:=l;refine g7 m<|cH (b _ aB aC aD _ aE aF) λaG A j=>?_;have again:∀{d:St} {e:Hp},Inv X (k++BJ n O.heap) d e A->ap d e->∃Q,Q<t/\∃i q h,Inv X k q h A/\H i A.heap/\(∀a∈n,h a=g)/\I i Q q h:=λ{d e} f s=>by obtain⟨aH,aI,aJ⟩:=aq d e s;refine⟨aH,aI,i+1,d,e,f.vZ,p.keep _ _ _ z λa b C o=>(f.pin (a,C)<|ò _<|ò _<|uS b o).1,λa b=>?_,aJ⟩;obtain⟨C,o,aQ⟩:=p.obj _ _ z a b;exact(f.pin (a,C)<|ò _<|ò _<|uS b o).2.1
  cases aG with
  |next=>obtain⟨d,e,f,s⟩:=j;exact again f s
  |cont=>obtain⟨d,e,f,s⟩:=j;exact again f s
  |brk=>obtain⟨d,e,f,j⟩:=j;exact⟨d,e,f.vZ,j⟩
  |ret Z=>obtain⟨aK,d,e,f,aL,j⟩:=j;exact⟨aK,d,e,f.vZ,aL,j⟩
def c_{tb:TS}{d:qO}(b:M->St->Hp->Prop)(q:b 0 σ H)(r:∀i σ H,i<=L N->b i σ H->aN K H a N)
  (s:∀i x σ H,N[i]?=B x->b i σ H->ς x σ H λe Θ=>tb {d with nx:=b<|i+1,ct:=b<|i+1,bk:=d.nx} e Θ) (t:∀σ H,b (L N) σ H->d.nx σ H):
  ∃f:M->M->St->Hp->Prop,(∃m,f 0 m σ H)/\∀i m σ H,f i m σ H->
   ((xW K a).stop i H/\d.nx σ H)\/((xW K a).go i H/\∃Δ:St->Hp->Prop,(∀h R,Δ h R->∃o,o<m/\f (i+1) o h R)/\∀x R,(xW K a).HW i H x R->ς x σ R λe Θ=>tb {d with nx:=Δ,ct:=Δ,bk:=d.nx} e Θ):=by
 refine⟨λi m σ H=>m=L N -i/\i<=L N/\b i σ H,⟨L N,bh,Ò _,q⟩,?_⟩;rintro i m σ H ⟨rfl,u,j⟩;have k:=r i σ H u j;by_cases p:i<L N
 .refine .inr ⟨⟨N,N[i],k,by simp[p]⟩,b<|i+1,λh R v=>⟨L N -(i+1),by omega,D,p,v⟩,λx R l=>?_⟩;obtain⟨n,l⟩:=l;subst n;exact s i x σ _ (l N k) j
 .have n:i=L N:=aL;subst n;exact .inl ⟨⟨N,k,Õ _⟩,t σ H j⟩
def Ub{tb:TS}{d:qO}(b:M->St->Hp->Prop)(q:b 0 σ H)(r:∀i σ H,i<=L N->b i σ H->gb K H a N)
  (s:∀i x σ H,N[i]?=B x->b i σ H->ς x σ H λe Θ=>tb {d with nx:=b<|i+1,ct:=b<|i+1,bk:=d.nx} e Θ) (t:∀σ H,b (L N) σ H->d.nx σ H):
  ∃f:M->M->St->Hp->Prop,(∃m,f 0 m σ H)/\∀i m σ H,f i m σ H->
   ((ZH K a).stop i H/\d.nx σ H)\/((ZH K a).go i H/\∃Δ:St->Hp->Prop,(∀h R,Δ h R->∃o,o<m/\f (i+1) o h R)/\∀x R,(ZH K a).HW i H x R->ς x σ R λe Θ=>tb {d with nx:=Δ,ct:=Δ,bk:=d.nx} e Θ):=by
 refine⟨λi m σ H=>m=L N -i/\i<=L N/\b i σ H,⟨L N,bh,Ò _,q⟩,?_⟩;rintro i m σ H ⟨rfl,u,j⟩;have k:=r i σ H u j;by_cases p:i<L N
 .refine .inr ⟨⟨N,N[i],k,by simp[p]⟩,b<|i+1,λh R v=>⟨L N -(i+1),by omega,D,p,v⟩,λx R l=>?_⟩;obtain⟨n,l⟩:=l;subst n;exact s i x σ _ (l N k) j
 .have n:i=L N:=aL;subst n;exact .inl ⟨⟨N,k,Õ _⟩,t σ H j⟩
def DK{lo:Z}{tb:TS}{b:qO}(a:M->St->Hp->Prop)(p:a 0 σ H)
  (q:∀i σ H,i<n->a i σ H->ς (.int<|lo+i) σ H λd Θ=>tb {b with nx:=a<|i+1,ct:=a<|i+1,bk:=b.nx} d Θ) (r:∀σ H,a n σ H->b.nx σ H):
  ∃e:M->M->St->Hp->Prop,(∃m,e 0 m σ H)/\∀i m σ H,e i m σ H->
   ((X4 lo n).stop i H/\b.nx σ H)\/((X4 lo n).go i H/\∃Δ:St->Hp->Prop,(∀f R,Δ f R->∃l,l<m/\e (i+1) l f R)/\∀x R,(X4 lo n).HW i H x R->ς x σ R λd Θ=>tb {b with nx:=Δ,ct:=Δ,bk:=b.nx} d Θ):=by
 refine⟨λi m σ H=>m=n -i/\i<=n/\a i σ H,⟨n,bh,Ò _,p⟩,?_⟩;rintro i m σ H ⟨rfl,t,o⟩;by_cases h:i<n
 .refine .inr ⟨h,a<|i+1,λf R s=>⟨n -(i+1),aL,D,h,s⟩,λx R j=>?_⟩;obtain⟨k,j⟩:=j;subst k j;exact q i σ _ h o
 .have k:i=n:=aL;subst k;exact .inl ⟨Õ _,r σ H o⟩
abbrev R2:=V->V->Hp->VK->Prop
def pq(X:Cx K)(f:z->z->Yd z)(r:R2):Prop:=
 ∀(aC:J<|O×gf) (s:Í) (σ:St) (H:Hp) (x y:V) (v u:z) (Q:VK),Inv X aC σ H s->bE x v->bE y u->r x y H Q->
  ô (ă X.prog X.w) X.A (f v u) (EP X aC σ Q) X.xe s
def UnR(X:Cx K)(f:z->Yd z)(r:V->Hp->VK->Prop):Prop:=
 ∀(aC:J<|O×gf) (s:Í) (σ:St) (H:Hp) (x:V) (v:z) (Q:VK),Inv X aC σ H s->bE x v->r x H Q->
  ô (ă X.prog X.w) X.A (f v) (EP X aC σ Q) X.xe s
def ig(X:Cx K)(f:z)(r:J V->Hp->VK->Prop):Prop:=
 ∀(aC:J<|O×gf) (s:Í) (σ:St) (H:Hp) (N:J V) (Μ:J z) (Q:VK),Inv X aC σ H s->bz N Μ->r N H Q->
  ô (ă X.prog X.w) X.A (jS f Μ) (EP X aC σ Q) X.xe s
def OQ(r:R2)(È tb:TE):TE:=λσ H Q=>È σ H λx ο=>tb σ ο λy Θ=>r x y Θ Q
def tUn(r:V->Hp->VK->Prop)(È:TE):TE:=λσ H Q=>È σ H λx ο=>r x ο Q
inductive rI(C:Z->Z->Prop)(ς:Z->Z->V)(x:V)(y:V)(H:Hp)(Q:VK):Prop
 |mk(i j:_)(_:x=.int i)(_:y=.int j)(_:C i j)(_:Q (ς i j) H)
def E8(ς:Z->Z->V)(x:V)(y:V)(H:Hp)(Q:VK):Prop:=match x,y with
 |.int i,.int j=>Q (ς i j) H
 |_,_=>Ϡ
theorem E8.ex{ς:Z->Z->V}{x:V}{Q:VK}(h:E8 ς x y H Q):∃i j,x=.int i/\y=.int j/\Q (ς i j) H:=by
 unfold E8 at h;split at h
 .exact⟨_,_,D,D,h⟩
 .exact h.elim
def rU(ς:Z->V)(x:V)(H:Hp)(Q:VK):Prop:=match x with
 |.int i=>Q (ς i) H
 |_=>Ϡ
theorem rU.ex{ς:Z->V}{x:V}{Q:VK}(h:rU ς x H Q):∃i,x=.int i/\Q (ς i) H:=by
 unfold rU at h;split at h
 .exact⟨_,D,h⟩
 .exact h.elim
section
variable{a b c:Ž}{È tb ϥ:TE}{pos:kX}
def W_(e:PE X a È)(i:PE X b tb){s:Í}{Χ:V->V->Hp->Prop}(I:Inv X aC σ H s)
  (h:È σ H λx ο=>tb σ ο λy Θ=>Χ x y Θ)
  (j:∀v u s2 x y Θ,Inv X aC σ Θ s2->bE x v->bE y u->Χ x y Θ->ô (ă X.prog X.w) X.A (f v u) Q X.xe s2):
  ô (ă X.prog X.w) X.A (Ŧ a X.env) (λv k=>ô (ă X.prog X.w) X.A (Ŧ b X.env) (λu l=>ô (ă X.prog X.w) X.A (f v u) Q X.xe l) X.xe k) X.xe s:=by
 refine cH (e aC s σ H _ I h) λv s1 d=>?_;obtain⟨x,ο,m,n,o⟩:=d;refine cH (i aC s1 σ ο _ m o) λu s2 d=>?_;obtain⟨y,Θ,p,q,r⟩:=d;exact j v u s2 x y Θ p n q r
def cQ{ý:JB}{r:R2}(d:pq X (sZ ý) r)(e:PE X a È)(f:PE X b tb):PE X (.BinOp a ý b pos)<|OQ r È tb:=by intro h w i x j k l;exact wpAny_BinOp<|W_ e f k l λm n s2 o p q s t u v=>d h s2 i q o p m n j s t u v
def uc{ý:UnaryOp}{r:V->Hp->VK->Prop}(e:UnR X (unaryOp ý) r)(f:PE X a È):PE X (.UnaryOp ý a pos)<|tUn r È:=by intro b h d i j k l;exact UnaryOp_<|cH (f b h d i _ k l) λm s1 ⟨n,o,p,q,s⟩=>e b s1 d o n m j p q s
def opI{C:Z->Z->Prop}{ς:Z->Z->Z}
  (rule:∀(i j:Z) (t u:Xy) (s:Í) (Q:z->Í->Prop) (E:z->Í->Prop),C i j->Q (.int (ς i j) s.toks) {s with toks:=s.toks+1}->ô (ă X.prog X.w) X.A (f (.int i t)<|.int j u) Q E s):
  pq X f (rI C λi j=>.int<|ς i j):=by
 intro n s o a p q r u Q b d e h;obtain⟨i,j,rfl,rfl,k,l⟩:=h;obtain⟨t,rfl⟩:=d;obtain⟨m,rfl⟩:=e;exact rule i j t m s _ _ k ⟨.int<|ς i j,a,b.tok _,⟨_,D⟩,l⟩
def Zu{ς:Z->Z->Z}
  (rule:∀(i j:Z) (t u:Xy) (s:Í) (Q:z->Í->Prop) (E:z->Í->Prop),Q (.int (ς i j) s.toks) {s with toks:=s.toks+1}->ô (ă X.prog X.w) X.A (f (.int i t)<|.int j u) Q E s):
  pq X f (E8 λi j=>.int<|ς i j):=by
 intro m s n a o p q u Q b d e h;obtain⟨i,j,rfl,rfl,k⟩:=E8.ex h;obtain⟨t,rfl⟩:=d;obtain⟨l,rfl⟩:=e;exact rule i j t l s _ _ ⟨.int<|ς i j,a,b.tok _,⟨_,D⟩,k⟩
def Xw{ς:Z->Z->ě}
  (rule:∀(i j:Z) (t u:Xy) (s:Í) (Q:z->Í->Prop) (E:z->Í->Prop),Q (.bool<|ς i j) s->ô (ă X.prog X.w) X.A (f (.int i t)<|.int j u) Q E s):
  pq X f (E8 λi j=>.bl<|ς i j):=by
 intro m s n a o p q u Q b d e h;obtain⟨i,j,rfl,rfl,k⟩:=E8.ex h;obtain⟨t,rfl⟩:=d;obtain⟨l,rfl⟩:=e;exact rule i j t l s _ _ ⟨.bl<|ς i j,a,b,D,k⟩
def aax(i j:Z):Prop:=0<j/\j<1073741824
def iw:pq X (sZ .Add)<|E8 λi j=>.int<|i+j:=Zu λ_ _ _ _ _ _ _ a=>add_int a
def J3:pq X (sZ .Sub)<|E8 λi j=>.int<|i -j:=Zu λ_ _ _ _ _ _ _ a=>sub_int a
def Uh:pq X (sZ .FloorDiv)<|rI aax λi j=>.int<|i/j:=opI λi j _ _ _ _ _ a b=>by have d:(0:Z)<j:=a.1;have e:j<1073741824:=a.2;exact floordiv_int (by lia) (by rw[Int.fdiv_eq_ediv_of_nonneg i<|by lia];exact b)<|.inl<|PyProof.noPylong_small<|by omega
def unI{f:z->Yd z}{ς:Z->Z}
  (rule:∀(i:Z) (t:Xy) (s:Í) (Q:z->Í->Prop) (E:z->Í->Prop),Q (.int (ς i) s.toks) {s with toks:=s.toks+1}->ô (ă X.prog X.w) X.A (f<|.int i t) Q E s):
  UnR X f (rU λi=>.int<|ς i):=by
 intro j s k a l m Q b d e;obtain⟨i,rfl,h⟩:=rU.ex e;obtain⟨t,rfl⟩:=d;exact rule i t s _ _ ⟨.int<|ς i,a,b.tok _,⟨_,D⟩,h⟩
def ou:UnR X (unaryOp .USub)<|rU λi=>.int<|-i:=unI λ_ _ _ _ _ a=>neg_int a
end
noncomputable def ZE:V->V->ě
 |.b_,.b_=>U|.b_,.int _=>U|.int _,.b_=>U|.b_,.bl _=>U|.bl _,.b_=>U|.b_,.str _=>U|.str _,.b_=>U
 |.int _,.int _=>U|.bl _,.bl _=>U|.str _,.str _=>U| .H7 _,.H7 _=>U
 |.int _,.str _=>U|.str _,.int _=>U|.bl _,.str _=>U|.str _,.bl _=>U
 |_,_=>Τ
def rEq:R2:=λx y H Q=>ZE x y=U/\Q (.bl<|ã<|x=y) H
def rNe:R2:=λx y H Q=>ZE x y=U/\Q (.bl<|!ã (x=y)) H
theorem cz{i j:Z}:ã (V.int i=V.int j)=(i==j):=by rw[ϱ];simp
def Qq{i j:ě}:ã (V.bl i=V.bl j)=(i==j):=by rw[ϱ];simp
def Ma{i j:S}:ã (V.str i=V.str j)=(i==j):=by rw[ϱ];simp
def MP{i j:ŕ ϔ}:ã (V.H7 i=V.H7 j)=(i.toList==j.toList):=by rw[ϱ];simp
section
variable{a b c:Ž}{È tb ϥ:TE}{pos:kX}
def cA{s:Í}{Q:VK}{k a:ě}(I:Inv X aC σ H s)(q:Q (.bl k) H)(e:k=a):EP X aC σ Q (.bool a) s:=by subst e;exact⟨.bl k,H,I,D,q⟩
def ee:pq X (Ų .Eq) rEq:=by
 intro o p q r m h s t u a j b n;obtain⟨i,d⟩:=n;cases m with
 |b_=>
  cases j;cases h with
  |b_=>cases b;exact Z5<|cA a d bh
  |bl e=>cases b;exact Z6<|cA a d<|by rfl
  |int e=>obtain⟨f,rfl⟩:=b;exact Z7<|cA a d<|by rfl
  |str e=>obtain⟨f,rfl⟩:=b;exact Z8<|cA a d<|by rfl
  |_=>exact absurd (show Τ=U from i) Ę
 |bl k=>
  cases j;cases h with
  |b_=>cases b;exact Z9<|cA a d<|by rfl
  |bl e=>cases b;exact eq_bool<|cA a d Qq
  |str e=>obtain⟨f,rfl⟩:=b;exact Yl<|cA a d<|by rfl
  |_=>exact absurd (show Τ=U from i) Ę
 |int k=>
  obtain⟨l,rfl⟩:=j;cases h with
  |b_=>cases b;exact Z_<|cA a d<|by rfl
  |int e=>obtain⟨f,rfl⟩:=b;exact eq_int<|cA a d cz
  |str e=>obtain⟨f,rfl⟩:=b;exact Ym<|cA a d<|by rfl
  |_=>exact absurd (show Τ=U from i) Ę
 |str k=>
  obtain⟨l,rfl⟩:=j;cases h with
  |b_=>cases b;exact PySem.EqNone.eq_str_none<|cA a d<|by rfl
  |bl e=>cases b;exact Yn<|cA a d<|by rfl
  |int e=>obtain⟨f,rfl⟩:=b;exact Yo<|cA a d<|by rfl
  |str e=>obtain⟨f,rfl⟩:=b;exact eq_str<|cA a d Ma
  |_=>exact absurd (show Τ=U from i) Ę
 |H7 k=>
  obtain⟨l,rfl⟩:=j;cases h with
  |H7 e=>obtain⟨f,rfl⟩:=b;exact PySem.W.eq_bytes<|cA a d MP
  |_=>exact absurd (show Τ=U from i) Ę
 |_=>cases h<;>exact absurd (show Τ=U from i) Ę
def I1:pq X (Ų .NotEq) rNe:=by
 intro o p q r m h s t u a j b n;obtain⟨i,d⟩:=n;cases m with
 |b_=>
  cases j;cases h with
  |b_=>cases b;exact PySem.EqNone.ne_none_none<|cA a d<|by rfl
  |bl e=>cases b;exact PySem.EqNone.ne_none_bool<|cA a d<|by assumption
  |int e=>obtain⟨f,rfl⟩:=b;exact PySem.EqNone.ne_none_int<|cA a d<|by assumption
  |str e=>obtain⟨f,rfl⟩:=b;exact PySem.EqNone.ne_none_str<|cA a d<|by assumption
  |_=>exact absurd (show Τ=U from i) Ę
 |bl k=>
  cases j;cases h with
  |b_=>cases b;exact PySem.EqNone.ne_bool_none<|cA a d<|by assumption
  |bl e=>cases b;exact ne_bool<|cA a d<|Ğ not Qq
  |str e=>obtain⟨f,rfl⟩:=b;exact Yp<|cA a d<|by assumption
  |_=>exact absurd (show Τ=U from i) Ę
 |int k=>
  obtain⟨l,rfl⟩:=j;cases h with
  |b_=>cases b;exact PySem.EqNone.ne_int_none<|cA a d<|by assumption
  |int e=>obtain⟨f,rfl⟩:=b;exact ne_int<|cA a d<|Ğ not cz
  |str e=>obtain⟨f,rfl⟩:=b;exact Yq<|cA a d<|by assumption
  |_=>exact absurd (show Τ=U from i) Ę
 |str k=>
  obtain⟨l,rfl⟩:=j;cases h with
  |b_=>cases b;exact PySem.EqNone.ne_str_none<|cA a d<|by assumption
  |bl e=>cases b;exact Yr<|cA a d<|by assumption
  |int e=>obtain⟨f,rfl⟩:=b;exact Ys<|cA a d<|by assumption
  |str e=>obtain⟨f,rfl⟩:=b;exact ne_str<|cA a d<|Ğ not Ma
  |_=>exact absurd (show Τ=U from i) Ę
 |H7 k=>
  obtain⟨l,rfl⟩:=j;cases h with
  |H7 e=>obtain⟨f,rfl⟩:=b;exact PySem.W.ne_bytes<|cA a d<|Ğ not MP
  |_=>exact absurd (show Τ=U from i) Ę
 |_=>cases h<;>exact absurd (show Τ=U from i) Ę
def iP:pq X (Ų .Lt)<|E8 λi j=>.bl<|ã<|i<j:=Xw λ_ _ _ _ _ _ _ a=>lt_int a
def jG:pq X (Ų .LtE)<|E8 λi j=>.bl<|ã<|i<=j:=Xw λ_ _ _ _ _ _ _ a=>le_int a
def kg:pq X (Ų .Gt)<|E8 λi j=>.bl<|ã<|j<i:=Xw λ_ _ _ _ _ _ _ a=>gt_int a
def aK(b:Ž)(h:ý≠.In:=by decide)(í:ý≠.NotIn:=by decide):ic ý b=Τ:=by cases b<;>simp[ic,(fX:(ý==CmpOp.In)=Τ),(fX:(ý==XA)=Τ)]
def l9{r:R2}(d:pq X (Ų ý) r)(e:PE X a È)(f:PE X b tb)(h:ic ý b=Τ):PE X (.Compare a [ý] [b] pos)<|OQ r È tb:=by intro i x j y k l m;exact wpAny_Compare1 (W_ e f l m λn o s2 p q s t u v w=>d i s2 j s p q n o k t u v w) h
def Wj(Q:ě->Hp->Prop)(x:V)(R:Hp):Prop:=R6 Q x R
def HX(t:TE):TT:=λσ H Q=>t σ H λx R=>Wj Q x R
def aF{r:R2}(f:pq X (Ų ý) r)(h:PE X a È)(i:PE X b tb)(j:ic ý b=Τ):PT X (.Compare a [ý] [b] pos)<|HX<|OQ r È tb:=by
 intro d k e l K m n;refine RJ (cH (h d k e l _ m n) λo s1 ⟨p,q,s,t,u⟩=>cH (i d s1 e q _ s u) λv s2 ⟨w,x,y,z,A⟩=> cH (f d s2 e x p w o v _ y t z A) λL s3 C=>?_) j
 obtain⟨M,E,F,G,H⟩:=C;obtain⟨N,I,J⟩:=R6.ex H;subst I;cases G;exact Ϣ ⟨E,F,J⟩
def PX(r b:R2)(È tb ϥ:TE):TE:=λσ H Q=>È σ H λx ο=>tb σ ο λy Θ=>r x y Θ λd a=>∃k,d=.bl k/\
 (if k then ϥ σ a λe f=>b y e f Q else Q (.bl Τ) a)
def r4{ý f:CmpOp}{r h:R2}(o:pq X (Ų ý) r)(p:pq X (Ų f) h)(q:PE X a È)(s:PE X b tb)(t:PE X c ϥ)
  (u:lastMarks [ý,f] [b,c]=Τ:=by with_unfolding_all rfl):PE X (.Compare a [ý,f] [b,c] pos)<|PX r h È tb ϥ:=by
 intro d v e w x y z;refine Compare_chain (cH (q d v e w _ y z) λA s1 ⟨C,E,F,G,H⟩=>chain_link<|cH (s d s1 e E _ F H) λi s2 ⟨j,I,J,k,K⟩=> cH (o d s2 e I C j A i _ J G k K) λW s3 L=>?_) u
 obtain⟨Y,l,m,M,N,O,n⟩:=L;subst O;cases M;refine Ϣ ?_;cases N with
 |false=>exact ite_ff ⟨.bl Τ,l,m,D,n⟩
 |true=>exact ite_tt<|chain_last<|cH (t d s3 e l _ m n) λP s4 ⟨Q,R,S,T,V⟩=>p d s4 e R j Q i P x S k T V
def lB{ý f:CmpOp}{r i:R2}(p:pq X (Ų ý) r)(q:pq X (Ų f) i)(s:PE X a È)(t:PE X b tb)(u:PE X c ϥ)
  (v:lastMarks [ý,f] [b,c]=Τ:=by with_unfolding_all rfl):PT X (.Compare a [ý,f] [b,c] pos)<|HX<|PX r i È tb ϥ:=by
 intro d w e y af z A;refine isTrue_chain (cH (s d w e y _ z A) λC s1 ⟨x,E,F,G,H⟩=>test_link<|cH (t d s1 e E _ F H) λj s2 ⟨k,I,J,l,K⟩=> cH (p d s2 e I x k C j _ J G l K) λag s3 h=>?_) v
 obtain⟨ah,m,n,L,M,N,o⟩:=h;subst N;cases L;refine Ϣ ?_;cases M with
 |false=>
  obtain⟨ai,O,P⟩:=R6.ex (x:=.bl Τ) o;cases O;exact ite_ff ⟨m,n,P⟩
 |true=>
  refine ite_tt<|test_last<|cH (u d s3 e m _ n o) λQ s4 ⟨R,S,T,V,W⟩=>cH (q d s4 e S k R j Q _ T l V W) λaj ak h=>?_;obtain⟨al,Y,Z,aa,ab⟩:=h;obtain⟨am,ad,ae⟩:=R6.ex ab;subst ad;cases aa;exact Ϣ ⟨Y,Z,ae⟩
def A2:(sizeLine:M)<2^63:=by simp[Î]
def rO{x:V}{Μ:J z}(r:bz [x] Μ):∃u,Μ=[u]/\bE x u:=by
 cases r with
 |cons a b=>cases b;exact⟨_,D,a⟩
def L0{x y:V}{Μ:J z}(r:bz [x,y] Μ):∃u a,Μ=[u,a]/\bE x u/\bE y a:=by
 cases r with
 |cons b d=>
  cases d with
  |cons e f=>cases f;exact⟨_,_,D,b,e⟩
def Nb(d:X.calm=U):ig X (.builtin "min") (λN H Q=>∃i j,N=[.int i,.int j]/\Q (.int<|if j<i then j else i) H):=by
 intro l m n H N o Q b e f;obtain⟨i,j,rfl,h⟩:=f;obtain⟨p,q,rfl,⟨r,rfl⟩,⟨s,rfl⟩⟩:=L0 e;refine min_two_ints (b.ok.hd d) λt u k=>⟨_,H,b.kept k,?_,h⟩;by_cases a:j<i
 .rw[à a,à a];exact⟨_,D⟩
 .rw[Ó a,Ó a];exact⟨_,D⟩
def QE:ig X (.builtin "ord") (λN H Q=>∃x,N=[.str x]/\x.length=1/\Q (.int (x.cps.getD 0 0:M)) H):=by intro h i j H N k Q a b d;obtain⟨x,rfl,e,f⟩:=d;obtain⟨l,rfl,m,rfl⟩:=rO b;exact ord_of_one e ⟨.int _,H,a.tok _,⟨_,D⟩,f⟩
end
structure Ls(h:ό)(x ξ C:O)(Č:S->É z):Prop where
 obj:h.get? x=B (cZ C ξ)
 ns:h.Ns1 ξ Č
 ne:ξ≠x
def Of{ξ:O}(n:h.Ns1 ξ Č):∃b,h.get? ξ=B b/\∀name,q2 name b=B (Č name):=by
 obtain⟨d,e,q,f,i,j,_,k⟩:=n;refine⟨d,f,λname=>?_⟩;have a:=k name;unfold nsFind findBy at a;rw[<-MT]at a;unfold q2;rw[i];dsimp only;split
 .simp_all[Ğ]
 .rename_i l;rw[l]at a;have r:e.toList.any (·.refKey)=Τ:=by rw[List.any_eq_false];intro m o;obtain⟨s,t,p⟩:=j m<|lG.mp o;simp[DictEntry.refKey,p]
  grind
def Ls.look{x ξ:O}(I:Ls h x ξ C Č):∃a,PySem.W.InstAt h x (cZ C ξ) C (B a)/\∀name,q2 name a=B (Č name):=
 let⟨a,b,d⟩:=Of I.ns
 ⟨a,⟨I.obj,D,D,b⟩,d⟩
section
variable{s:Í}{x ξ f:O}{name:S}{v:z}
def SN{a:ě}(X:K.In s.heap)(I:Ls s.heap x ξ C Č)(b:kj K C name=U)(d:nG K C=U)
  (e:Ń K (.ref C) name=B g) (f:Č name=B v) (i:MU v=U) (h:Q v {s with toks:=s.toks+1}):
  ô (ă prog w) A (Jh (.ref x) name a) Q E s:=by
 obtain⟨l,j,k⟩:=I.look;exact PySem.W.get_value X j (s6 b).1 (PySem.W.findObj_own d e D<|by rw[k,f]) i h
def Qk{Q:z×J z->Í->Prop}(X:K.In s.heap)(I:Ls s.heap x ξ C Č)(a:kj K C name=U)
  (b:Ń K (.ref C) name=B (B<|.ref f)) (d:pU K (.ref f)=U) (e:Č name=g) (h:Q (.ref f,[.ref x]) s):
  ô (ă prog w) A (s7 (.ref x) name ù) Q E s:=by
 obtain⟨i,j,k⟩:=I.look;exact PySem.W.method_fn X j (s6 a).1 (s6 a).2 b (gI.mp d) (by show(q2 name i).map (·.isSome)=B Τ;rw[k,e];rfl) h
def Tv{ns:J S}{Q:Vc->Í->Prop}(X:K.In s.heap)(I:Ls s.heap x ξ C Č)
  (e:Ń K (.ref C) "__setattr__"=B (B<|.builtin "object.__setattr__")) (f:ve K C=U) (i:yJ K C name=B g) (j:nG K C=U)
  (k:vc Č ns) (r:L ns<=sizeLine)
  (h:∀h',Ls h' x ξ C (λy=>if y=name then B v else Č y)->ϡ ξ s.heap h'->Q () {s with heap:=h',toks:=s.toks+2}):
  ô (ă prog w) A (xN (.ref x) name v) Q E s:=by
 obtain⟨t,a,u⟩:=I.look;refine PySem.W.set_plain X a e<|PySem.W.osa_open (s:={s with toks:=s.toks+1}) (r:=g) X a f i λz=>?_;obtain⟨F,l,m⟩:=PySem.W.any_some j;refine Λ<|Ê<|Λ<|Λ<|JC I.obj<|Λ<|Yt (s:={s with toks:=s.toks+1}) (PySem.W.looks_clsIn X l) ?_;rw[m];refine Ê (a:=B ξ)<|Λ<|Ê<|Λ ?_;refine OZ (s:={s with toks:=s.toks+1}) I.ns λh' b d=>?_;refine bx λG n=>?_;obtain⟨H,M,N,o,p,q⟩:=b.count<|Ca name v k;apply n;refine Λ (EJ o (p▸EK (Ć q (by rw[Ñ];simp_all))) ?_);exact Ê<|h _ ⟨(d.2 _<|Ϛ I.ne).trans I.obj,b,I.ne⟩ d
def IY{Χ:OX->Í->Prop}{vs:J z}(X:K.In s.heap)(a:qs K C=U)
  (Á:Ń K (.ref C) "__init__"=B (B<|.ref f)) (b:PySem.W.typeIn K (.ref f)=B (.type "function"))
  (h:j4 (ă prog w) (A.under<|.builtin "type.__call__" ⟨.ref C::vs,eU⟩) (.call (.ref f) ⟨.ref (s.heap.objs.size+1)::vs,eU⟩) (PySem.W.InitBack (s.heap.objs.size+1) Χ) {s with heap:=(s.heap.push ϧ).push<|cZ C s.heap.objs.size}):
  j4 (ă prog w) A (.call (.ref C) ⟨vs,eU⟩) Χ s:=by
 obtain⟨e,i,j,k,os⟩:=s;exact PySem.W.make_core (PySem.W.makes_of X a) (PySem.W.looks_findIn X Á) (λd=>PySem.W.bind_fn X d b) (.inl D) h
end
noncomputable def bf (f:S) (v:V):J (S×V)->J (S×V)
 |[]=>[(f,v)]
 |(ς,x)::r=>if ς=f then(ς,v)::r else(ς,x)::bf f v r
theorem q9(f ς:S)(v:V):∀fs:J<|S×V,(bf f v fs).lookup ς=if ς=f then B v else fs.lookup ς
 |[]=>by
  show tM ς [(f,v)]=_
  grind
 |(a,d)::b=>by
  have e:=q9 f ς v b;rw[show bf f v ((a,d)::b)=(if a=f then(a,v)::b else(a,d)::bf f v b) from D]
  grind
theorem oZ(f:S)(v:V):∀fs:J<|S×V,f∈(bf f v fs).map (·.1)/\∀ς,ς∈fs.map (·.1)->ς∈(bf f v fs).map (·.1)
 |[]=>⟨by simp[bf],λς e=>by simp at e⟩
 |(a,d)::b=>by
  obtain⟨h,i⟩:=oZ f v b;rw[show bf f v ((a,d)::b)=(if a=f then(a,v)::b else(a,d)::bf f v b) from D]
  grind
theorem rX(f:S)(v:V):∀fs:J<|S×V,(L<|bf f v fs)<=L fs+1
 |[]=>by simp[bf]
 |(a,d)::b=>by
  have e:=rX f v b;rw[show bf f v ((a,d)::b)=(if a=f then(a,v)::b else(a,d)::bf f v b) from D]
  grind
def l_.some_of{v:V}{o:É z}(r:l_ (B v) o):∃u,o=B u/\bE v u:=by
 cases o with
 |none=>exact(show Ϡ from r).elim
 |some u=>exact⟨u,D,r⟩
def l_.none_of{o:É z}(r:l_ g o):o=g:=by
 cases o with
 |none=>rfl
 |some a=>exact(show Ϡ from r).elim
def EA{v:V}{u:z}(r:bE v u):MU u=U:=by
 cases v with
 |b_=>cases(show u=ž from r);rfl
 |bl d=>cases(show u=nC d from r);rfl
 |int e=>obtain⟨a,b⟩:=(show∃a,u=pS e a from r);cases b;rfl
 |str f=>obtain⟨a,b⟩:=(show∃a,u=yI f a from r);cases b;rfl
 |H7 d=>obtain⟨a,b⟩:=(show∃a,u=Xz d a from r);cases b;rfl
 |U4 d=>obtain⟨a,b⟩:=(show∃a,u=Jy d a from r);cases b;rfl
 |ref h=>cases(show u=æ h from r);rfl
 |ty i=>cases(show u=d8 i from r);rfl
section
variable{ξ:O}{fs k_:J<|S×V}
theorem kR(b:qN P w H h)(e:H a=B (.aE C ξ fs)):∃Č,Ls h a ξ C Č/\(∀f,l_ (fs.lookup f)<|Č f)/\vc Č (fs.map (·.1))/\L fs<=1000/\H ξ=B (.own a):=by obtain⟨d,i,j,k,Č,l,m,n⟩:=(show cL P w H h a (.aE C ξ fs) from b a _ e);exact⟨Č,⟨k,l,j⟩,m,n,i,d⟩
end
structure OT(K:Ζ)(C:O):Prop where
 pg:kj K C Str.empty=U
 hd:nG K C=U
 po:ve K C=U
 sa:Ń K (.ref C) "__setattr__"=B (B<|.builtin "object.__setattr__")
theorem OT.get(c:OT K C)(f:S):kj K C f=U:=c.pg
def xG(K:Ζ)(C:O)(f:S):Prop:=Ń K (.ref C) f=B g
def xG.Y5{f:S}(n:xG K C f):yJ K C f=B g:=by unfold yJ;rw[show Ń K (.ref C) f=B g from n];rfl
structure GR(K:Ζ)(C:O)(m:S)(f:O):Prop where
 at_:Ń K (.ref C) m=B (B<|.ref f)
 fn:pU K (.ref f)=U
 kp:ũ K (.ref f)=U
section
variable{s:Í}{ξ:O}{fs:J<|S×V}{f:S}{v:V}
def BL{b:ě}(I:Inv X aC σ H s)(e:H a=B (.aE C ξ fs))(c:OT K C)(n:xG K C f)(l:fs.lookup f=B v)
  (h:∀u s',Inv X aC σ H s'->bE v u->Q u s'):ô (ă X.prog X.w) A (Jh (.ref a) f b) Q E s:=by
 obtain⟨i,j,k,_,_,_⟩:=kR I.hok e;obtain⟨u,m,d⟩:=l_.some_of (v:=v) (o:=i f)<|l▸k f;exact SN I.lV j (c.get f) c.hd n m (EA d)<|h u _ (I.tok _) d
def AB{m:S}{ς:O}{Q:z×J z->Í->Prop}(I:Inv X aC σ H s)(e:H a=B (.aE C ξ fs))(c:OT K C)(k:GR K C m ς)(l:fs.lookup m=g)
  (h:Q (.ref ς,[.ref a]) s):ô (ă X.prog X.w) A (s7 (.ref a) m ù) Q E s:=by
 obtain⟨f,b,d,_,_,_⟩:=kR I.hok e;exact Qk I.lV b (c.get m) k.at_ k.fn (l_.none_of<|l▸d m) h
def BE{u:z}{Q:Vc->Í->Prop}(I:Inv X aC σ H s)(e:H a=B (.aE C ξ fs))(c:OT K C)(n:xG K C f)(G:L fs<1000)(o:bE y u)
  (h:∀s',Inv X aC σ (T H a<|.aE C ξ<|bf f y fs) s'->Q () s'):ô (ă X.prog X.w) A (xN (.ref a) f u) Q E s:=by
 obtain⟨p,i,J,k,_,l⟩:=kR I.hok e;refine Tv I.lV i c.sa c.po n.Y5 c.hd k (by rw[Ε,Î];lia) λM j q=>h _ ?_;refine I.write (x:=a) (e:=ξ) (e▸Ϗ) (.inr l) (λr d t m=>(q.2 r t).trans m) (let⟨v,_,_,w,_⟩:=j.ns;⟨v,w⟩) ?_;refine⟨au i.ne▸l,?_,i.ne,j.obj,_,j.ns,λb=>?_,λb F=>?_⟩
 .have:=rX f y fs;lia
 .show l_ ((bf f y fs).lookup b) (if b=f then B u else p b);rw[q9];by_cases d:b=f
  .rw[à d,à d];exact o
  simp_all[Ó]
 .by_cases d:b=f
  .rw[d];exact(oZ f y fs).1
  .refine(oZ f y fs).2 b<|k b λm=>F ?_;simp_all
def Inv.made(I:Inv X aC σ H s):Inv X aC σ (T (T H s.heap.objs.size<|.own<|s.heap.objs.size+1) (s.heap.objs.size+1)<|.aE C s.heap.objs.size [])
  {s with heap:=(s.heap.push ϧ).push<|cZ C s.heap.objs.size}:=by
 have d:(s.heap.push ϧ).get? s.heap.objs.size=B ϧ:=Ą s.heap D;have f:((s.heap.push ϧ).push<|cZ C s.heap.objs.size).get? (s.heap.objs.size+1)=B (cZ C s.heap.objs.size):=by
  have:=Ą (s.heap.push ϧ) (o:=cZ C s.heap.objs.size) D
  rwa [ϝ]at this
 refine(I.laid (a:=s.heap.objs.size) (o:=.own<|s.heap.objs.size+1) (h':=s.heap.push ϧ) (t':=s.toks) (λh i b=>ß _ b) (Õ _) ⟨_,d⟩).laid (a:=s.heap.objs.size+1) (o:=.aE C s.heap.objs.size []) (t':=s.toks) (λh i b=>ß _ b) (iF<|ϝ _ _) ?_;have e:s.heap.objs.size≠s.heap.objs.size+1:=ė<|d9 _;refine⟨by rw[au e,af],Ò _,e,f,λ_=>g,(JD ⟨ϧ,#[],_,d,D,(λl j=>absurd j bh),λ_=>D⟩).at λo b=>ß _ b,λ_=>Ϗ,λm k=>absurd D k⟩
def ME{env:sG}{f:S}{pos:kX}{s:Í}(a:eo e f env (Ŧ e env)=Ŧ e env)
  (h:ô (ă prog w) A (Ŧ e env) (λo b=>ô (ă prog w) A (Jh o f U) Q E b) E s):ô (ă prog w) A (Ŧ (.Attribute e f pos) env) Q E s:=
 Attribute_any_ h (by rw[arm_eval_Attribute,a])
end
structure L4(K:Ζ)(C:O)(f:S):Prop where
 cl:OT K C
 na:xG K C f
inductive YQ(K:Ζ)(f:S)(Q:VK)(x:V)(ο:Hp):Prop
 |mk{a C ξ fs v:_}(_:x=.ref a)(_:ο a=B (.aE C ξ fs))(_:L4 K C f)(_:fs.lookup f=B v)(_:Q v ο)
def i9(K:Ζ)(È:TE)(f:S):TE:=λσ H Q=>È σ H λx ο=>YQ K f Q x ο
inductive ZN(K:Ζ)(f:S)(D:qO)(σ:St)(y:V)(x:V)(Θ:Hp):Prop
 |mk{a C ξ fs:_}(_:x=.ref a)(_:Θ a=B (.aE C ξ fs))(_:L4 K C f)(_:L fs<1000)(_:D.nx σ<|T Θ a<|.aE C ξ<|bf f y fs)
def VF(K:Ζ)(È ň:TE)(f:S):TS:=λa σ H=>ň σ H λy ο=>È σ ο λx Θ=>ZN K f a σ y x Θ
def Ze(X:Cx K)(ý:JB)(a:V->V->Hp->VK->Prop):Prop:=
 ∀(aC:J<|O×gf) (s:Í) (σ:St) (H:Hp) (x y:V) (u v:z) (Q:VK),Inv X aC σ H s->bE x u->bE y v->a x y H Q->ô (ă X.prog X.w) X.A (Yh ý u v) (EP X aC σ Q) X.xe s
inductive Pz(K:Ζ)(ň:TE)(rd:V->V->Hp->VK->Prop)(f:S)(D:qO)(σ:St)(x:V)(ο:Hp):Prop
 |mk {a C ξ fs v:_} (_:x=.ref a) (_:ο a=B (.aE C ξ fs)) (_:L4 K C f) (_:fs.lookup f=B v) (_:ň σ ο λy Θ=>rd v y Θ λz b=>∃d k_,b a=B (.aE C d k_)/\L k_<1000/\D.nx σ (T b a<|.aE C d<|bf f z k_))
def zU(K:Ζ)(È ň:TE)(a:V->V->Hp->VK->Prop)(f:S):TS:=λb σ H=>È σ H λx ο=>Pz K ň a f b σ x ο
section
variable{o value:Ž}{f:S}{pos Ň jm:kX}{È ň:TE}
def W(b:PE X e È)(d:eo e f X.env (Ŧ e X.env)=Ŧ e X.env):PE X (.Attribute e f pos)<|i9 K È f:=by intro h i j k C l m;refine ME d<|cH (b h i j k _ l m) λn s1 o=>?_;obtain⟨E,p,q,r,s⟩:=o;obtain @⟨t,F,G,H,u,v,w,a,x,y⟩:=s;subst v;obtain rfl:n=æ t:=r;exact BL q w a.cl a.na x λI s2 z A=>⟨u,p,z,A,y⟩
def aX(e:PE X o È)(h:PE X value ň)(i:kL value (B<|.Attribute o f Ň) pos.line X.env=pure Τ):PS X (.Assign [.Attribute o f Ň] value pos)<|VF K È ň f:=by intro b j a k F l m;refine lX (cH (h b j a k _ l m) λG s1 ⟨H,n,p,q,r⟩=>cH (e b s1 a n _ p r) λs s2 t=>?_) i;obtain⟨I,J,u,v,w⟩:=t;obtain @⟨x,L,M,N,y,z,d,A,C⟩:=w;subst y;obtain rfl:s=æ x:=v;exact BE u z d.cl d.na A q λs3 E=>⟨a,_,E,C⟩
def xC{ý:JB}{h:V->V->Hp->VK->Prop}(j:PE X o È)(k:PE X value ň)(l:Ze X ý h):PS X (.AugAssign (.Attribute o f jm) ý value pos)<|zU K È ň h f:=by intro d m a n T p q;refine wpAny_AugAssign_AttributeAny<|cH (j d m a n _ p q) λr s1 e=>?_;obtain⟨W,s,t,u,i⟩:=e;obtain @⟨v,Y,Z,aa,w,x,y,b,z,A⟩:=i;subst x;obtain rfl:r=æ v:=u;refine BL t y b.cl b.na z λC s2 E F=>cH (k d s2 a s _ E A) λG s3 ⟨H,I,J,L,M⟩=>cH (l d s3 a I w H C G _ J F L M) λab s4 e=>?_;obtain⟨i,ad,N,O,ae,af,P,Q,R⟩:=e;exact BE N P b.cl b.na Q O λag S=>⟨a,_,S,R⟩
inductive To(x:V)(y:V)(H:Hp)(Q:VK):Prop
 |mk(i j:_)(_:x=.int i)(_:y=.int j)(_:Q (.int<|i+j) H)
def Ka:Ze X .Add To:=by rintro n o p f q r h i s j k l ⟨a,b,rfl,rfl,m⟩;obtain⟨d,rfl⟩:=(show∃d,h=pS a d from k);obtain⟨e,rfl⟩:=(show∃e,i=pS b e from l);exact RK ⟨.int<|a+b,f,j.tok _,⟨_,D⟩,m⟩
end
section
variable{s:Í}{c:z}{b:ě}
inductive qp(K:Ζ)(H:Hp):V->z->Prop where
 |b_:qp K H .b_<|.type "NoneType"
 |bl(x:ě):qp K H (.bl x)<|.type "bool"
 |int(i:Z):qp K H (.int i)<|.type "int"
 |str(x:S):qp K H (.str x)<|.type "str"
 |U4(x:UInt64):qp K H (.U4 x)<|.type "float"
 |Y{a:O}{N:J V}(e:H a=B (.Y N)):qp K H (.ref a)<|.type "list"
 |jZ{a:O}{o:gf}{N:J V}(e:H a=B (.jZ o<|.Y N)):qp K H (.ref a)<|.type "list"
 |bO{a:O}{N:J V}(e:H a=B (.bO N)):qp K H (.ref a)<|.type "tuple"
 |dK{a:O}{Β:J<|bW×V}(e:H a=B (.dK Β)):qp K H (.ref a)<|.type "dict"
 |dT{a:O}{Β:J<|J bW×V}(e:H a=B (.dT Β)):qp K H (.ref a)<|.type "dict"
 |aE{a C ξ:O}{fs:J<|S×V}(e:H a=B (.aE C ξ fs))(cl:OT K C)(ha:Ń K (.ref C) "__class__"=B (B<|.builtin "object.__class__"))
  (hn:vf K (.builtin "object.__class__") "__get__"=B (B<|.builtin "getset_descriptor.__get__")) (htk:yK K (.builtin "object.__class__")=B U)
  (hm:tN K C (.type "object")=B U):qp K H (.ref a)<|.ref C
def NP{x:V}{u t:z}(I:Inv X aC σ H s)(f:bE x u)(ty:qp K H x t)(e:Ģ K t c=B b)(h:∀tk,Q (.bool b) {s with toks:=tk}):
  ô (ă X.prog X.w) A (jS (.builtin "isinstance") [u,c]) Q E s:=by
 cases ty with
 |b_=>cases(show u=ž from f);exact ϛ PySem.W.kitx_none I.lV Ϗ e (λa=>nomatch a) h
 |bl l=>cases(show u=nC l from f);exact ϛ PySem.W.kitx_bool I.lV Ϗ e (λa=>nomatch a) h
 |int v=>obtain⟨t,m⟩:=(show∃t,u=pS v t from f);cases m;exact ϛ PySem.W.kitx_int I.lV Ϗ e (λa=>nomatch a) h
 |str l=>obtain⟨t,m⟩:=(show∃t,u=yI l t from f);cases m;exact ϛ PySem.W.kitx_str I.lV Ϗ e (λa=>nomatch a) h
 |U4 l=>obtain⟨t,m⟩:=(show∃t,u=Jy l t from f);cases m;exact ϛ PySem.W.kitx_float I.lV Ϗ e (λa=>nomatch a) h
 | @Y d k i=>
  cases(show u=æ d from f);obtain⟨_,_,w,_,j⟩:=(show cL X.prog X.w H s.heap d (.Y k) from I.hok d _ i);exact ϛ Lz I.lV ⟨_,j,D⟩ e (λa=>nomatch a) h
 | @jZ d y k i=>
  cases(show u=æ d from f);obtain⟨_,_,_,w,_,j⟩:=(show cL X.prog X.w H s.heap d (.jZ y<|.Y k) from I.hok d _ i);exact ϛ Lz I.lV ⟨_,j,D⟩ e (λa=>nomatch a) h
 | @bO d k i=>
  cases(show u=æ d from f);obtain⟨_,_,_,p⟩:=(show cL X.prog X.w H s.heap d (.bO k) from I.hok d _ i);obtain⟨n,j,o,_⟩:=p;exact ϛ PySem.W.kitx_tuple I.lV ⟨n,j,o⟩ e (λa=>nomatch a) h
 | @dK d q i=>
  cases(show u=æ d from f);obtain⟨_,_,P,_,p⟩:=(show cL X.prog X.w H s.heap d (.dK q) from I.hok d _ i);obtain⟨n,C,F,j,o,_⟩:=p;exact ϛ LA I.lV ⟨n,j,o.1⟩ e (λa=>nomatch a) h
 | @dT d q i=>
  cases(show u=æ d from f);obtain⟨_,_,k,_,n,C,F,j,o,_⟩:=(show cL X.prog X.w H s.heap d (.dT q) from I.hok d _ i);exact ϛ LA I.lV ⟨n,j,o.1⟩ e (λa=>nomatch a) h
 | @aE d R S T i r G J L M=>
  cases(show u=æ d from f);obtain⟨W,N,_⟩:=kR I.hok i;obtain⟨Z,O,_⟩:=N.look;exact ϛ (PySem.W.kitx_own (r.get _) r.hd G J L M) I.lV O e (λa=>nomatch a) h
end
structure c6(k:M)(A:ź):Prop where
 hd:A.handled=g
 dp:A.depth+3*k+5<JE
 un:A.units+16*k+200<d_
def c6.mono{j k:M}(r:c6 k A)(h:j<=k):c6 j A:=⟨r.hd,by have:=r.dp;lia,by have:=r.un;lia⟩
theorem c6.deeper{k:M}(r:c6 (k+1) A)(env:sG):c6 k<|A.deeper env:=
 ⟨r.hd,by have:=r.dp;show A.depth+1+3*k+5<_;lia,by have:=r.un;show A.units+3+16*k+200<_;lia⟩
theorem B4:(A.under<|.builtin "type.__call__" ⟨.ref C::Μ,eU⟩).depth=A.depth+1:=by
 first|rfl|simp[Gb,Code.weight,Code.isCreation,Code.isGuard,Code.isCaller,Yu,Ji,guardIds]
theorem BS:(A.under<|.builtin "type.__call__" ⟨.ref C::Μ,eU⟩).units=A.units+1:=by
 first|rfl|simp[Gb,Code.cUnits,Yu,Ji]
def c6.make{k:M}(r:c6 (k+1) A)(C:O)(Μ:J z)(eU:J<|S×z):c6 k<|A.under<|.builtin "type.__call__" ⟨.ref C::Μ,eU⟩:=
 ⟨r.hd,by have:=r.dp;rw[B4];lia,by have:=r.un;rw[BS];lia⟩
theorem c6.depth{k:M}(r:c6 k A):A.depth<JE:=by have:=r.dp;lia
theorem c6.units{k:M}(r:c6 k A):A.units+64<d_:=by have:=r.un;lia
def cB:TA:=λ_ H Q=>Q [] H
def bg(È:TE)(a:TA):TA:=λσ H Q=>È σ H λx ο=>a σ ο λN Θ=>Q (x::N) Θ
section
variable{Α:J Ž}{t:TA}{pos:kX}
def aj:PA X [] cB:=λ_ _ _ _ a e b d=>wH ⟨[],a,b,.nil,d⟩
def aa(f:PE X e Â)(h:PA X Α t)(i:ë (e::Α) X.env=(Τ,Ŧ e X.env)::ë Α X.env:=by rfl):PA X (e::Α)<|bg Â t:=by intro pos a b d j y k l;rw[i];show ô _ _ (spliced<|(Τ,Ŧ e X.env)::ϴ pos (ë Α X.env)) _ _ b;refine jr<|cH (f a b d j _ k l) λz s1 m=>?_;obtain⟨n,o,p,q,r⟩:=m;exact cH (h pos a s1 d o _ p r) λA s2 ⟨s,u,v,w,x⟩=>⟨n::s,u,v,.cons q w,x⟩
def Ig(t:TA):TE:=λσ H Q=>t σ H λN ο=>L N<=sizeLine/\∀p,ο p=g->Q (.ref p) (T ο p<|.bO N)
def J7(t:TA):TE:=λσ H Q=>t σ H λN ο=>L N<=sizeLine/\∀p,ο p=g->Q (.ref p) (T ο p<|.Y N)
def mO{x1}(h:PA X Α t):PE X (.Tuple Α x1 pos)<|Ig t:=by intro e f i j r k l;refine wpAny_Tuple_spliced<|cH (h pos e f i j _ k l) λm s1 ⟨n,o,a,b,d,p⟩=>⟨b.length▸d,?_⟩;refine⟨.ref s1.heap.objs.size,T o s1.heap.objs.size<|.bO n,a.laid (t':=s1.toks) (λs u q=>ß _ q) (Õ _) ?_,D,p _<|a.hok.fresh<|Õ _⟩;exact⟨d,m,b,⟨_,Ą _ D,D,_,D⟩⟩
def aI(h:PA X Α t):PE X (.List Α pos)<|J7 t:=by intro e f i j r k l;refine wpAny_List_spliced<|cH (h pos e f i j _ k l) λm s1 ⟨n,o,a,b,d,p⟩=>⟨b.length▸d,?_⟩;refine⟨.ref s1.heap.objs.size,T o s1.heap.objs.size<|.Y n,a.laid (t':=s1.toks) (λs u q=>ß _ q) (Õ _) ?_,D,p _<|a.hok.fresh<|Õ _⟩;exact⟨d,m,0,b,Ą _ D⟩
end
abbrev Sp:=J V->Hp->VK->XK->Prop
abbrev E5:=J sG->Hp->Í->XK->z->Í->Prop
structure HK(P:Ŝ)(w:ś)(K:Ζ)(η:S->É z)(base:ό)(A:ź)(outer:J sG)(s:Í)(H:Hp):Prop where
 frames:A.frames=B outer
 mod:Mod K η base
 bs:∀b o,base.get? b=B o->s.heap.get? b=B o/\H b=g
 Jw:base.objs.size<=s.heap.objs.size
 qR:s.heap.FunFrames base outer
 Ow:∀b∈Gp outer,H b=g
 hok:qN P w H s.heap
 bare:xM s.gens
def CE(outer:J sG)(P:Ŝ)(w:ś)(H:Hp)(s:Í)(Q:VK)(u:z)(s':Í):Prop:=
 ∃v R,s'.os=s.os/\xM s'.gens/\Un (Gp outer) [] H R s.heap s'.heap/\qN P w R s'.heap/\bE v u/\Q v R
def CR(CX:E5)(outer:J sG)(P:Ŝ)(w:ś)(H:Hp)(s:Í)(Q:VK)(E:XK)(r:OX)(s':Í):Prop:=
 match r with
 |.ok (.ret u)=>CE outer P w H s Q u s'
 |.ok _=>Ϡ
 |.error e=>CX outer H s E e s'
structure lZ(P:Ŝ)(w:ś)(K:Ζ)(η:S->É z)(base:ό)(CX:E5)(k:M)(f:O)(Ä:jR)(θ:J S)(Ã:Sp):Prop where
 len:∀vs H Q E,Ã vs H Q E->L vs=L θ
 run:∀(A:ź) (outer:J sG) (s:Í) (H:Hp) (args:Args) (Μ:J z) (vs:J V) (Q:VK) (E:XK),c6 k A->HK P w K η base A outer s H->Cp s Ä args (θ.zip Μ)->bz vs Μ->Ã vs H Q E->
  j4 (ă P w) A (.call (.ref f) args) (CR CX outer P w H s Q E) s
theorem lZ.mono{base:ό}{CX:E5}{j k:M}{f:O}{Ã:Sp}(a:lZ P w K η base CX j f Ä θ Ã)(h:j<=k):
 lZ P w K η base CX k f Ä θ Ã:=⟨a.len,λb d e i l m n o p q=>a.run b d e i l m n o p<|q.mono h⟩
def HK.make{base:ό}{outer:J sG}{s:Í}(e:HK P w K η base A outer s H)(C:O)(Μ:J z)(eU:J<|S×z):
 HK P w K η base (A.under<|.builtin "type.__call__" ⟨.ref C::Μ,eU⟩) outer s H:=⟨by first|exact e.frames|(simpa[Gb,Code.envs,Ji,pushEnvs] using e.frames),e.mod,e.bs,e.Jw,e.qR,e.Ow,e.hok,e.bare⟩
section
variable{s s':Í}
def Inv.TY(I:Inv X aC σ H s):HK X.prog X.w K X.mg X.base X.A X.stack s H:=
 ⟨I.ok.frames,I.ok.mod,I.bs,Ć I.ok.Jw I.sz,I.stack,I.EZ,I.hok,I.bare⟩
def Inv.after{Q:VK}{u:z}(I:Inv X aC σ H s)(h:CE X.stack X.prog X.w H s Q u s'):EP X aC σ Q u s':=by obtain⟨a,b,os,d,e,f,i,j⟩:=h;obtain⟨k,l,m,n,o⟩:=s';obtain rfl:o=s.os:=os;exact⟨a,b,I.call (h':=k) (g':=l) (d':=m) (t':=n) (ch:=[]) e f d λq p=>absurd p bh,i,j⟩
end
def xZ(Ã:Sp)(Ł:J V)(E:XK)(t:TA):TE:=λσ H Q=>t σ H λvs ο=>Ã (vs++Ł) ο Q E
inductive Xg(C:O)(m:S)(Ã:Sp)(Ł:J V)(E:XK)(t:TA)(σ:St)(Q:VK)(x:V)(ο:Hp):Prop
 |mk (a ξ fs:_) (_:x=.ref a) (_:ο a=B (.aE C ξ fs)) (_:fs.lookup m=g) (_:t σ ο λvs Θ=>Ã (x::(vs++Ł)) Θ Q E)
def yb(C:O)(m:S)(Ã:Sp)(Ł:J V)(E:XK)(È:TE)(t:TA):TE:=λσ H Q=>È σ H λx ο=>Xg C m Ã Ł E t σ Q x ο
def Iz(C:O)(Ã:Sp)(Ł:J V)(E:XK)(t:TA):TE:=λσ H Q=>t σ H λvs ο=>∀x ξ,ο x=g->ο ξ=g->ξ≠x->
 Ã (.ref x::(vs++Ł)) (T (T ο ξ<|.own x) x<|.aE C ξ []) (λv Θ=>v=.b_/\Q (.ref x) Θ) E
def jl(K:Ζ)(Ä:jR)(θ:J S)(Ù:J z):Prop:=
 ∀(s:Í) (Μ:J z),K.In s.heap->(L<|Μ++Ù)=L θ->Cp s Ä ⟨Μ,[]⟩ (θ.zip<|Μ++Ù)
theorem jl.all(h:∀Μ:J z,L Μ=L θ->R8 Ä ⟨Μ,[]⟩=pure (θ.zip Μ)):jl K Ä θ []:=λb Μ _ a=>by rw[ö]at a⊢;exact .of_eq<|h Μ a
def jb(CX:E5)(X:Cx K)(E:XK):Prop:=∀(aC:J<|O×gf) (σ:St) (H:Hp) (s:Í) (e:z) (s':Í),Inv X aC σ H s->CX X.stack H s E e s'->X.xe e s'
section
variable{CX:E5}{k:M}{f:O}{Ã:Sp}{Ł:J V}{Ù:J z}{E:XK}{x m:S}{p pos ĝ:kX}{o:Ž}{Α:J Ž}{È:TE}{t:TA}
def F8{aC:J<|O×gf}{σ:St}{H:Hp}{s:Í}{Q:VK}{Μ:J z}{vs:J V}(b:lZ X.prog X.w K X.mg X.base CX k f Ä θ Ã)(e:c6 k X.A)(i:jl K Ä θ Ù)(j:bz Ł Ù)(Ο:jb CX X E)
  (I:Inv X aC σ H s) (r:bz vs Μ) (h:Ã (vs++Ł) H Q E):ô (ă X.prog X.w) X.A (jS (.ref f) Μ) (EP X aC σ Q) X.xe s:=by
 have d:bz (vs++Ł)<|Μ++Ù:=r.append j;refine mC<|gJ (b.run X.A X.stack s H ⟨Μ,[]⟩ (Μ++Ù) (vs++Ł) Q E e I.TY (i s Μ I.lV<|d.length▸b.len _ _ _ _ h) d h) λr l a=>?_;cases r with
 |error m=>exact Ο aC σ H s m l I a
 |ok n=>
  cases n with
  |ret o=>exact I.after a
  |next=>exact ŏ a
  |brk=>exact ŏ a
  |cont=>exact ŏ a
def SX(d:lZ X.prog X.w K X.mg X.base CX k f Ä θ Ã)(h:c6 k X.A)(i:Gl X x)(j:X.mg x=B (.ref f))(hk:ũ K (.ref f)=U)(l:jl K Ä θ Ù)(m:bz Ł Ù)(Ο:jb CX X E)
  (n:PA X (e::Α) t) (o:(x==("__debug__":S))=Τ:=by decide) (q:ë (e::Α) X.env=(Τ,Ŧ e X.env)::ë Α X.env:=by rfl) (r:(ϴ pos<|ë Α X.env).any (·.1)=Τ:=by rfl):
  PE X (.Call (.Name x p) (e::Α) [] pos) (xZ Ã Ł E t):=by
 intro s u v w C a y;refine c5<|n9 a i j ?_ o;refine dQ (h₀:=X.base) a.ok.mod.QW hk (cH (n pos s u v w _ a y) λF s1 ⟨G,H,b,z,A⟩=>⟨b.lV,?_⟩) q r;exact F8 d h l m Ο b z A
def SW(p:PE X o È)(c:OT K C)(b:GR K C m f)(q:lZ X.prog X.w K X.mg X.base CX k f Ä θ Ã)(r:c6 k X.A)(s:jl K Ä θ Ù)(u:bz Ł Ù)(Ο:jb CX X E)(v:PA X (e::Α) t)
  (w:ë (e::Α) X.env=(Τ,Ŧ e X.env)::ë Α X.env:=by rfl) (x:(ϴ pos<|ë Α X.env).any (·.1)=Τ:=by rfl)
  (y:Ŧ (.Call (.Attribute o m ĝ) (e::Α) [] pos) X.env=(do
   let d <-Ŧ o X.env
   Co ĝ.atName
   let(f,z) <-ni [d] (s7 d m ù)
   Cq pos f z (ϴ pos<|ë (e::Α) X.env) (jT pos<|er [] X.env)):=by rfl):
  PE X (.Call (.Attribute o m ĝ) (e::Α) [] pos) (yb C m Ã Ł E È t):=by
 intro h A i F S j G;refine qJ (pl:=ù) (cH (p h A i F _ j G) λH s1 I=>?_) y;obtain⟨T,J,l,L,a,V,W,M,N,O,P⟩:=I;subst M;obtain rfl:H=æ a:=L;refine AB l N c b O ?_;refine dQ (first:=[.ref a]) (h₀:=X.base) j.ok.mod.QW b.kp (cH (v pos h s1 i J _ l P) λΜ s2 ⟨vs,Y,n,Q,R⟩=>⟨n.lV,?_⟩) w x;exact F8 (Μ:=.ref a::Μ) (vs:=.ref a::vs) q r s u Ο n (.cons D Q) R
def PR(h:PE X o È)(c:OT K C)(d:GR K C m f)(i:lZ X.prog X.w K X.mg X.base CX k f Ä θ Ã)(j:c6 k X.A)(l:jl K Ä θ Ù)(n:bz Ł Ù)(Ο:jb CX X E)
  (p:Ŧ (.Call (.Attribute o m ĝ) [] [] pos) X.env=(do
   let e <-Ŧ o X.env
   Co ĝ.atName
   let(f,q) <-ni [e] (s7 e m ù)
   Cq pos f q (ϴ pos<|ë [] X.env) (jT pos<|er [] X.env)):=by rfl):
  PE X (.Call (.Attribute o m ĝ) [] [] pos) (yb C m Ã Ł E È cB):=by
 intro r s t u I v w;refine qJ (pl:=ù) (cH (h r s t u _ v w) λx s1 y=>?_) p;obtain⟨J,L,b,z,a,M,N,A,F,G,H⟩:=y;subst A;obtain rfl:x=æ a:=z;refine AB b F c d G ?_;exact Jj (first:=[.ref a]) b.lV d.kp<|F8 (Μ:=[.ref a]) (vs:=[.ref a]) i j l n Ο b (.cons D .nil) H
structure Mk(K:Ζ)(C f:O):Prop where
 makes:qs K C=U
 init:Ń K (.ref C) "__init__"=B (B<|.ref f)
 fn:pU K (.ref f)=U
 kp:ũ K (.ref C)=U
def Au{aC:J<|O×gf}{σ:St}{H:Hp}{s:Í}{Q:VK}{Μ:J z}{vs:J V}(è:Mk K C f)(e:lZ X.prog X.w K X.mg X.base CX k f Ä θ Ã)(l:c6 (k+1) X.A)(m:jl K Ä θ Ù)(n:bz Ł Ù)
  (Ο:jb CX X E) (I:Inv X aC σ H s) (r:bz vs Μ)
  (h:∀x ξ,H x=g->H ξ=g->ξ≠x->Ã (.ref x::(vs++Ł)) (T (T H ξ<|.own x) x<|.aE C ξ []) (λv Θ=>v=.b_/\Q (.ref x) Θ) E):
  ô (ă X.prog X.w) X.A (jS (.ref C) Μ) (EP X aC σ Q) X.xe s:=by
 have i:=h (s.heap.objs.size+1) s.heap.objs.size (I.hok.fresh<|Cb _) (I.hok.fresh<|Õ _)<|ė<|d9 _;have b:=Inv.made (C:=C) I;have j:bz (V.ref (s.heap.objs.size+1)::(vs++Ł))<|æ (s.heap.objs.size+1)::(Μ++Ù):=.cons D<|r.append n;have o:(L<|æ (s.heap.objs.size+1)::Μ++Ù)=L θ:=by have d:=j.length;rw[e.len _ _ _ _ i]at d;exact d.symm
 refine mC<|IY (f:=f) I.lV è.makes è.init (gI.mp è.fn)<|gJ (e.run _ X.stack _ _ ⟨æ (s.heap.objs.size+1)::Μ,[]⟩ (æ (s.heap.objs.size+1)::(Μ++Ù)) _ _ E (l.make C Μ []) (b.TY.make C Μ []) (m _ (æ (s.heap.objs.size+1)::Μ) b.lV o) j i) λr p a=>?_
 cases r with
 |error d=>exact Ο aC σ _ _ d p b a
 |ok q=>
  cases q with
  |ret F=>
   obtain⟨v,t,u,w,y,A⟩:=b.after a;subst y;exact⟨w,⟨V.ref<|s.heap.objs.size+1,t,u,D,A⟩⟩
  |next=>exact ŏ a
  |brk=>exact ŏ a
  |cont=>exact ŏ a
def Mm(è:Mk K C f)(d:lZ X.prog X.w K X.mg X.base CX k f Ä θ Ã)(h:c6 (k+1) X.A)(i:Gl X x)(j:X.mg x=B (.ref C))(l:jl K Ä θ Ù)(m:bz Ł Ù)(Ο:jb CX X E)
  (n:PA X (e::Α) t) (o:(x==("__debug__":S))=Τ:=by decide) (q:ë (e::Α) X.env=(Τ,Ŧ e X.env)::ë Α X.env:=by rfl) (r:(ϴ pos<|ë Α X.env).any (·.1)=Τ:=by rfl):
  PE X (.Call (.Name x p) (e::Α) [] pos) (Iz C Ã Ł E t):=by
 intro s u v w F a y;refine c5<|n9 a i j ?_ o;refine dQ (h₀:=X.base) a.ok.mod.QW è.kp (cH (n pos s u v w _ a y) λG s1 ⟨H,I,b,z,A⟩=>⟨b.lV,?_⟩) q r;exact Au è d h l m Ο b z A
def QC(è:Mk K C f)(b:lZ X.prog X.w K X.mg X.base CX k f Ä θ Ã)(d:c6 (k+1) X.A)(e:Gl X x)(h:X.mg x=B (.ref C))(i:jl K Ä θ Ù)(j:bz Ł Ù)(Ο:jb CX X E)
  (l:(x==("__debug__":S))=Τ:=by decide):PE X (.Call (.Name x p) [] [] pos)<|Iz C Ã Ł E cB:=by
 intro n o q r s a m;refine c5<|n9 a e h ?_ l;exact Jj a.lV è.kp<|Au (Μ:=[]) è b d i j Ο a .nil m
end
structure aB(Δ P:J S)(ü:kK):Prop where
 kind:ü.kind=.function
 co:ü.isCoroutine=Τ
 gen:ü.isGenerator=Τ
 nd:Δ.Nodup
 pre:Δ.take (L P)=P
 par:∀x∈P,ü.names.lookup x=B .local\/ü.names.lookup x=B .cell
 VC:∀y∈ü.names,y.2≠.free
instance{Δ P:J S}{ü:kK}:Yc<|aB Δ P ü:=decidable_of_iff (ü.kind=.function/\ü.isCoroutine=Τ/\ü.isGenerator=Τ/\Δ.Nodup/\Δ.take (L P)=P/\(∀x∈P,ü.names.lookup x=B .local\/ü.names.lookup x=B .cell)/\∀y∈ü.names,y.2≠.free) ⟨λh=>⟨h.1,h.2.1,h.2.2.1,h.2.2.2.1,h.2.2.2.2.1,h.2.2.2.2.2.1,h.2.2.2.2.2.2⟩,λh=>⟨h.1,h.2,h.3,h.4,h.5,h.6,h.7⟩⟩
theorem Ed{kindOf:S->É fQ}{x:S}:∀{a:J<|S×z} {m:S->É z},(∀v,(x,v)∉a)->R9 kindOf a m x=m x
 |[],_,_=>D
 |(f,v)::h,m,b=>by
  unfold R9;rw[Ed λd e=>b d<|Ç _ e];split
  .grind
  .rfl
theorem EF{kindOf:S->É fQ}{x:S}:∀{a:J<|S×z} {m:S->É z},(∀v,(x,v)∉a)->R_ kindOf a m x=m x
 |[],_,_=>D
 |(f,v)::h,m,b=>by
  unfold R_;rw[EF λd e=>b d<|Ç _ e];split
  .rfl
  grind
theorem DR{kindOf:S->É fQ}{x:S}{v:z}:∀{P:J S} {vs:J z} {i:M} {m:S->É z},P.Nodup->P[i]?=B x->vs[i]?=B v->kindOf x=B .local->
  R9 kindOf (P.zip vs) m x=B v
 |[],_,_,_,_,e,_,_=>by simp at e
 |_::_,[],_,_,_,_,e,_=>by simp at e
 |a::P,f::vs,0,m,h,b,d,j=>by simp at b d;subst b;subst d;show R9 kindOf ((a,f)::P.zip vs) m a=_;unfold R9;rw[Ed λv k=>(ϐ.mp h).1 (q3 k).1,à j];simp
 |a::P,f::vs,i+1,m,h,b,d,j=>by show R9 kindOf ((a,f)::P.zip vs) m x=_;exact DR (i:=i) (ϐ.mp h).2 (by simpa using b) (by simpa using d) j
theorem Ez{kindOf:S->É fQ}{x:S}{v:z}:∀{P:J S} {vs:J z} {i:M} {m:S->É z},P.Nodup->P[i]?=B x->vs[i]?=B v->kindOf x≠B .local->
  R_ kindOf (P.zip vs) m x=B v
 |[],_,_,_,_,e,_,_=>by simp at e
 |_::_,[],_,_,_,_,e,_=>by simp at e
 |a::P,f::vs,0,m,h,b,d,j=>by simp at b d;subst b;subst d;show R_ kindOf ((a,f)::P.zip vs) m a=_;unfold R_;rw[EF λv k=>(ϐ.mp h).1 (q3 k).1,Ó j];simp
 |a::P,f::vs,i+1,m,h,b,d,j=>by show R_ kindOf ((a,f)::P.zip vs) m x=_;exact Ez (i:=i) (ϐ.mp h).2 (by simpa using b) (by simpa using d) j
noncomputable def start (Δ:J S) (vs:J V):St:=vs.map B++UA (L Δ -L vs) g
noncomputable def o8 (CX:E5) (P:Ŝ) (w:ś) (K:Ζ) (η:S->É z) (base:ό) (Δ:J S) (ì:S) (Ρ:kK) (f:O) (õ:z) (A:ź) (outer:J sG) (s:Í) (H:Hp) (E:XK):Cx K where
 prog:=P
 w:=w
 mg:=η
 base:=base
 A:=A.deeper<|gK ì Ρ s.heap.objs.size f õ
 N:=Δ
 CJ:=s
 V7:=H
 env:=gK ì Ρ s.heap.objs.size f õ
 outer:=outer
 stack:=gK ì Ρ s.heap.objs.size f õ::outer
 ex:=[]
 calm:=U
 fn:=λ_=>U
 pn:=[]
 xe:=λe s'=>ô (ă P w) (A.deeper<|gK ì Ρ s.heap.objs.size f õ) (leaving (gK ì Ρ s.heap.objs.size f õ) e) (λ_ a=>CX outer H s E e a) (λb a=>CX outer H s E b a) s'
def Hf{ü:kK}{x:S}(h:ü.names.lookup x=B .cell):∃c,(ϑ n ü.names []).lookup x=B c:=by exact oE.mp<|pV ü.names n []<|.inl h
def D8{CX:E5}{base:ό}{Δ:J S}{ì:S}{f:O}{õ:z}{outer:J sG}{s s1:Í}{E:XK}{vs:J V}
  (χ:aB Δ θ Ρ) (G:A.handled=g) (d:HK P w K η base A outer s H) (T:L vs=L θ) (r:bz vs Μ)
  (x:InCallC s s.heap.objs.size (R9 (gK ì Ρ s.heap.objs.size f õ).kindOf (θ.zip Μ) λ_=>g) (ϑ (s.heap.objs.size+1) Ρ.names []) (R_ (gK ì Ρ s.heap.objs.size f õ).kindOf (θ.zip Μ) λ_=>g) s1):
  Inv (o8 CX P w K η base Δ ì Ρ f õ A outer s H E) [] (start Δ vs) H s1:=by
 have W:L θ<=L Δ:=by have:=Ğ L χ.pre;rw[ŀ]at this;lia
 obtain⟨q,X,rfl,v⟩:=x.done;have u:∀e:O,e∉(o8 CX P w K η base Δ ì Ρ f õ A outer s H E).ex:=λe j=>absurd (show e∈([]:J O) from j) bh;refine⟨⟨d.mod,χ.kind,D,D,Õ _,λa j h q b=>?_,λa i=>?_,λa h _ l=>?_,λ_=>G,Jk d.frames,.inr ⟨D,D⟩,λe j=>absurd j<|u e,d.bs,d.Jw,λe _ _=>u e,λe j=>absurd j<|u e,d.qR,d.Ow⟩,D,d.bare,Un.kept v,⟨_,x.toInCall.ns,λm a I q b Y=>?_⟩,λa h l=>⟨_,x.cell a h l⟩,d.hok.fresh<|Õ _,λa h l=>?_,λM o=>absurd (show M∈([]:J<|O×gf) from o) bh,d.hok.kept v,?_⟩
 .exact name_of_addr x.apart (Ľ q)<|Ľ b
 .have i:Ρ.names.lookup a=B .cell\/Ρ.names.lookup a=B .free:=i;rcases i with i|i
  .exact Hf i
  .exact absurd D<|χ.VC _<|Ľ i
 .exact š<|x.above a h<|Ľ l
 .have t:m<L vs:=by
   unfold start at b;by_cases t:m<L vs
   .exact t
   .rw[Dn<|by simpa using t]at b;rw[List.getElem?_replicate]at b;split at b<;>cases b
  have N:vs[m]?=B I:=by
   unfold start at b;rw[iG<|by simpa using t,Ë]at b;cases p:vs[m]? with
   |none=>rw[p]at b;cases b
   |some Z=>rw[p]at b;cases b;rfl
  obtain⟨Q,y,R⟩:=r.get N;have o:θ[m]?=B a:=by rw[<-χ.pre,List.getElem?_take_of_lt fX];exact q
  have C:θ.Nodup:=χ.pre▸χ.nd.sublist (List.take_sublist _ _);refine⟨Q,R,?_⟩;rcases χ.par a (υ o) with k|k
  .exact .inl ⟨k,DR C o y k⟩
  .obtain⟨h,p⟩:=Hf (n:=s.heap.objs.size+1) k;refine .inr ⟨.inl k,h,p,?_⟩;have F:=x.cell a h p;rw[Ez C o y (by show Ρ.names.lookup a≠_;rw[k];decide)]at F;exact F
 .exact d.hok.fresh<|š<|x.above a h<|Ľ l
 .unfold start;show _=L Δ;simp_all
def Pg{CX:E5}{P:Ŝ}{w:ś}{K:Ζ}{η:S->É z}{base:ό}{k:M}{f:O}{name ì:S}{params:OF}{ť:J dP}{Ρ:kK}{r kV x y b ct oc:z}{C N:É O}
  {T:ŕ<|É z} {Δ θ:J S} {Ã:Sp} (W:K.lookup f=B ⟨oc,N,.func<|eB name ì params ť Ρ r kV x y C b ct,T⟩) (X:mD K b ì=U) (χ:aB Δ θ Ρ)
  (len:∀vs H Q E,Ã vs H Q E->L vs=L θ)
  (Y:∀(A:ź) (outer:J sG) (s:Í) (H:Hp) (vs:J V) (Q:VK) (E:XK),c6 k (A.deeper<|gK ì Ρ s.heap.objs.size f b)->Ã vs H Q E-> ∃t,zq (o8 CX P w K η base Δ ì Ρ f b A outer s H E) ť t/\t {nx:=λ_ R=>Q .b_ R,rt:=Q} (start Δ vs) H):
  lZ P w K η base CX (k+1) f (eB name ì params ť Ρ r kV x y C b ct) θ Ã:=by
 refine⟨len,λA outer s H ak Z vs Q E j e aa ab F=>?_⟩;have G:K.In s.heap:=e.mod.QW.keeps λl m h=>(e.bs l m h).1;have ad:∀n∈θ.zip Z,Ρ.names.lookup n.1=B .local\/(Ρ.names.lookup n.1=B .cell/\((ϑ (s.heap.objs.size+1) Ρ.names []).lookup n.1).isSome=U):=λ⟨ae,v⟩ af=>by
  rcases χ.par ae (q3 af).1 with q|q
  .exact .inl q
  .exact .inr ⟨q,pV _ _ _<|.inl q⟩
 refine RL j.depth (G _ _ W) D χ.co χ.gen D (JF G X)<|aa _ _ _ _ ?_;refine JG χ.kind ad λal ag s1 I=>?_;subst ag;refine⟨(e.mod.nolimit.keeps λl m h=>(e.bs l m h).1).keeps I.toInCall.keep,codeAny_func ?_⟩;obtain⟨t,ah,ai⟩:=Y A outer s H vs Q E (j.deeper _) F;refine Ż (ah [] s1 (start Δ vs) H _ (D8 χ j.hd e (len _ _ _ _ F) ab I) ai) (λaj o d=>?_) λh o d=>d;have jk:∀{i:St} {R:Hp} {v:V} {u:z},Inv (o8 CX P w K η base Δ ì Ρ f b A outer s H E) [] i R o->bE v u->Q v R->CE outer P w H s Q u o:=
  λ{i R v u} a p q=>⟨v,R,a.os,a.bare,a.base,a.hok,p,q⟩
 cases aj with
 |ret u=>
  obtain⟨v,i,R,a,p,q⟩:=d;exact jk a p q
 |next=>
  obtain⟨i,R,a,q⟩:=d;exact jk (v:=V.b_) (u:=ž) a D q
 |brk=>
  obtain⟨_,_,_,q⟩:=d;exact ŏ q
 |cont=>
  obtain⟨_,_,_,q⟩:=d;exact ŏ q
section
variable{x:S}{p pos:kX}{Α:J Ž}{t:TA}{id Æ:jC}{r:J V->Hp->VK->Prop}
def Ek(r:J V->Hp->VK->Prop)(t:TA):TE:=λσ H Q=>t σ H λvs ο=>r vs ο Q
def jN(f:ig X (.builtin id) r)(h:Gl X x)(i:X.mg x=g)(j:uh x=B (.builtin id))(k:PA X (e::Α) t)(l:x≠"__name__":=by decide)(m:(x==("__debug__":S))=Τ:=by decide)
  (n:ë (e::Α) X.env=(Τ,Ŧ e X.env)::ë Α X.env:=by rfl) (o:(ϴ pos<|ë Α X.env).any (·.1)=Τ:=by rfl):PE X (.Call (.Name x p) (e::Α) [] pos)<|Ek r t:=by
 intro a q b s u d v;refine c5<|BP d h i j ?_ l m;exact tO (cH (k pos a q b s _ d v) λw s1 ⟨y,z,A,C,E⟩=>f a s1 b z y w u A C E) n o
def mw(f:ig X (.type Æ) r)(h:Gl X x)(i:X.mg x=g)(j:uh x=B (.type Æ))(k:PA X (e::Α) t)(l:x≠"__name__":=by decide)(m:(x==("__debug__":S))=Τ:=by decide)
  (n:ë (e::Α) X.env=(Τ,Ŧ e X.env)::ë Α X.env:=by rfl) (o:(ϴ pos<|ë Α X.env).any (·.1)=Τ:=by rfl):PE X (.Call (.Name x p) (e::Α) [] pos)<|Ek r t:=by
 intro a q b s u d v;refine c5<|BP d h i j ?_ l m;exact kM (cH (k pos a q b s _ d v) λw s1 ⟨y,z,A,C,E⟩=>f a s1 b z y w u A C E) n o
end
namespace HT
section
variable{s:Í}
def Tw{t:O}{vs a:J z}(u:Ga s.heap t vs.toArray)(v:Ga s.heap b a.toArray)(h:vs≠[])
  (á:a=[]->Q (.ref t) s) (í:a≠[]->Q (.ref s.heap.objs.size) {s with heap:=s.heap.push {cls:=.type "tuple",data:=.seq (vs++a).toArray}})
  (x:L vs+L a<=sizeLine):ô (ă prog w) A (sZ .Add (.ref t)<|.ref b) Q E s:=by
 obtain⟨⟨cls,i,data,j⟩,d,k,l,m⟩:=id u;obtain⟨⟨y,n,data2,o⟩,e,p,q,r⟩:=id v;simp only at k m p r;subst k m p r;by_cases f:a=[]
 .exact Cr ⟨_,d,D⟩ ⟨_,e,D⟩ EL MV pW oJ (oi _ _)
   (tuple_addW1 t b vs.toArray a.toArray l q i n j o (by simpa using h)<|by simp[f]) ⟨d,e,á f⟩
 .refine Cr ⟨_,d,D⟩ ⟨_,e,D⟩ EL MV pW oJ (oi _ _)
   (tuple_addW2 t b vs.toArray a.toArray l q i n j o (by simpa using h) (by simpa using f) (by rw[ġ,ġ];exact x)) ⟨d,e,?_⟩
  rw[(bh:vs.toArray++a.toArray=(vs++a).toArray)];exact í f
def CF(n d:M):É Z->M
 |none=>d
 |some v=>if v<0 then(v+(n:Z)).toNat else min v.toNat n
theorem AU(n d:M):CF n d g=d:=rfl
theorem vN(n d k:M):CF n d (B (k:Z))=min k n:=by show(if(k:Z)<0 then((k:Z)+(n:Z)).toNat else min (k:Z).toNat n)=min k n;simp[Ó,Ţ]
end
end HT
abbrev TO:=St->Hp->(É Z->Hp->Prop)->Prop
def PO(X:Cx K)(e:É Ž)(t:TO):Prop:=
 ∀(aC:J<|O×gf) (s:Í) (σ:St) (H:Hp) (Q:É Z->Hp->Prop),Inv X aC σ H s->t σ H Q->
  ô (ă X.prog X.w) X.A (evalPart e X.env) (λu s'=>∃o R,Inv X aC σ R s'/\IsPart u o/\Q o R) X.xe s
def F0:TO:=λ_ H Q=>Q g H
def Ag(Q:É Z->Hp->Prop)(x:V)(ο:Hp):Prop:=match x with
 |.int i=>Q (B i) ο
 |_=>Ϡ
theorem Ag.ex{Q:É Z->Hp->Prop}{x:V}{ο:Hp}(h:Ag Q x ο):∃i,x=.int i/\Q (B i) ο:=by
 unfold Ag at h;split at h
 .exact⟨_,D,h⟩
 .exact h.elim
def P8(t:TE):TO:=λσ H Q=>t σ H λx ο=>Ag Q x ο
section
variable{lo Á:É Ž}{Ŏ th:TO}{pos Ŕ:kX}
def dz:PO X g F0:=by intro e f h a i b d;rw[evalPart_none];exact Ê ⟨g,a,b,.none,d⟩
def bD(h:PE X e Â):PO X (B e)<|P8 Â:=by intro b d f i s j k;rw[evalPart_some];refine cH (h b d f i _ j k) λt s1 l=>?_;obtain⟨u,m,n,o,p⟩:=l;obtain⟨a,rfl,q⟩:=Ag.ex p;obtain⟨r,rfl⟩:=o;exact⟨B a,m,n,.int a r,q⟩
def SlR(X:Cx K)(r:V->É Z->É Z->Hp->VK->Prop):Prop:=
 ∀(aC:J<|O×gf) (s:Í) (σ:St) (H:Hp) (x:V) (v a b:z) (lo Á:É Z) (Ė:O) (Q:VK),Inv X aC σ H s->bE x v->s.heap.IsSliceOf Ė a b .none->IsPart a lo->IsPart b Á->r x lo Á H Q->
  ∃Æ id,dR (.type Æ) "__getitem__"=pure (B<|.builtin id)/\s.TypeIs v Æ/\ô (ă X.prog X.w) X.A (Jl v<|.ref Ė) (EP X aC σ Q) X.xe s
def tSl(r:V->É Z->É Z->Hp->VK->Prop)(Â:TE)(Ŏ th:TO):TE:=λσ H Q=>Â σ H λx ο=>Ŏ σ ο λl Θ=>th σ Θ λu a=>r x l u a Q
def bF(k:SlR X r)(l:PE X e Â)(m:PO X lo Ŏ)(n:PO X Á th):PE X (.Subscript e (.Slice lo Á g Ŕ) pos)<|tSl r Â Ŏ th:=by intro a o b p j q s;refine Vf<|cH (l a o b p _ q s) λd s1 f=>?_;obtain⟨t,u,v,w,x⟩:=f;refine wpAny_Slice<|cH (m a s1 b u _ v x) λh s2 ⟨y,z,A,C,E⟩=>cH (n a s2 b z _ A E) λi s3 f=>?_;obtain⟨F,G,H,I,J⟩:=f;rw[evalPart_none];refine Ê ?_;obtain⟨O,id,K,L,M⟩:=k a {s3 with heap:=s3.heap.push {cls:=.type "slice",data:=.fields #[h,i,.none]}} b G t d h i y F s3.heap.objs.size j (H.kept (t':=s3.toks) λP Q N=>ß _ N) w (XE ..) C I J;show ô (ă X.prog X.w) X.A (subscriptTail e (.Slice lo Á g Ŕ) d<|.ref s3.heap.objs.size) (EP X a b j) X.xe {s3 with heap:=s3.heap.push {cls:=.type "slice",data:=.fields #[h,i,.none]}};exact tail_any (ops:=[.ref s3.heap.objs.size,d]) L K M<|by with_unfolding_all rfl
noncomputable def br (N:J V) (lo Á:É Z):J V:=(N.drop<|HT.CF (L N) 0 lo).take<|HT.CF (L N) (L N) Á -HT.CF (L N) 0 lo
def G4(N:J V)(lo Á:É Z):(L<|br N lo Á)<=L N:=by unfold br;rw[ŀ,Ϸ];lia
inductive Zg(K:Ζ)(x:V)(y:V)(H:Hp)(Q:VK):Prop
 |mk(a b N Å:_)(_:x=.ref a)(_:y=.ref b)(_:gb K H a N)(_:gb K H b Å)(_:N≠[])(_:L N+L Å<=sizeLine)(_:(Å=[]->Q (.ref a) H))(_:(Å≠[]->∀p,H p=g->Q (.ref p) (T H p<|.bO<|N++Å)))
def bz.zY{N:J V}{Μ:J z}(r:bz N Μ):Μ=[]↔N=[]:=by
 cases r with
 |nil=>simp
 |cons _ _=>simp
def S5:pq X (sZ .Add)<|Zg K:=by intro A f C i E F G H I a j k l;obtain⟨m,n,p,q,rfl,rfl,r,s,t,h,u,v⟩:=l;cases j;cases k;obtain⟨J,e,w,_⟩:=a.tuple r;obtain⟨L,d,x,_⟩:=a.tuple s;refine HT.Tw w x (λb=>t<|e.zY.mp b) (λb=>⟨.ref m,i,a,D,u<|d.zY.mp b⟩) (λb=>?_) (by rw[<-e.length,<-d.length];exact h);refine⟨.ref f.heap.objs.size,_,a.laid (t':=f.toks) (o:=.bO<|p++q) (λn M y=>ß _ y) (Õ _) ?_,D,v (λz=>b<|d.zY.mpr z) _<|a.hok.fresh<|Õ _⟩;exact⟨Ω▸h,_,e.append d,IsTup.new _ _⟩
end
noncomputable def R1 (n:M) (i:Z):É M:=if 0<=i then(if i<n then B i.toNat else g) else if -(n:Z)<=i then B (i+n).toNat else g
def UM(N:J Ν)(i:Z):É Ν:=(R1 (L N) i).bind λj=>N[j]?
def Mb{i:Z}{j:M}(h:R1 n i=B j):seqIndex? i n=B j/\j<n/\ -(n:Z)<=i/\i<n:=by
 unfold R1 at h;by_cases b:0<=i
 .rw[à b]at h;by_cases a:i<n
  .rw[à a]at h;exact⟨by rw[Sa b a,ĥ h],aL,aL,a⟩
  simp_all[Ó]
 .rw[Ó b]at h;by_cases a: -(n:Z)<=i
  .rw[à a]at h
   grind[ĥ,O0]
  simp_all[Ó]
def L1{Ν:Type}{N:J Ν}{i:Z}{v:Ν}(h:UM N i=B v):∃j,seqIndex? i (L N)=B j/\N[j]?=B v/\j<L N/\ -(L N:Z)<=i/\i<L N:=by
 unfold UM at h;cases a:R1 (L N) i with
 |none=>rw[a]at h;cases h
 |some j=>
  rw[a]at h;obtain⟨b,d,e,f⟩:=Mb a;exact⟨j,b,h,d,e,f⟩
def bN{N:J Ν}{j:M}{v:Ν}(h:N[j]?=B v):UM N (j:Z)=B v:=by have a:j<L N:=(Ð.mp h).1;simp_all[R1,à,UM]
theorem ry(N:J Ν)(v:Ν):UM (N++[v]) (-1)=B v:=by
 have a:R1 (L<|N++[v]) (-1)=B (L N):=by unfold R1;rw[(bh:(L<|N++[v])=L N+1),Ó bM,à aL];congr 1;lia
 unfold UM;rw[a];show(N++[v])[L N]?=B v;simp_all
def Tq(b:Ž):Prop:=∀o i,Gd b Τ o i=operate [o,i] (Jl o i)
def IxR(X:Cx K)(r:R2):Prop:=
 ∀(value a:Ž) (aC:J<|O×gf) (s:Í) (σ:St) (H:Hp) (x y:V) (v u:z) (Q:VK),Inv X aC σ H s->bE x v->bE y u->r x y H Q->
  Gd a Τ v u=operate [v,u] (Jl v u)->ô (ă X.prog X.w) X.A (subscriptTail value a v u) (EP X aC σ Q) X.xe s
def MtR(X:Cx K)(id:jC)(r:V->J V->Hp->VK->Prop):Prop:=
 ∀(aC:J<|O×gf) (s:Í) (σ:St) (H:Hp) (x:V) (N:J V) (v:z) (Μ:J z) (Q:VK),Inv X aC σ H s->bE x v->bz N Μ->r x N H Q->
  ô (ă X.prog X.w) X.A (jS (.builtin id)<|v::Μ) (EP X aC σ Q) X.xe s
section
variable{a b:Ž}{È tb:TE}{pos:kX}
def aY{r:R2}(d:IxR X r)(e:PE X a È)(f:PE X b tb)(h:Tq b):PE X (.Subscript a b pos)<|OQ r È tb:=by intro i x j y k l m;exact Vf<|W_ e f l m λn o s2 p q s t u v w=>d a b i s2 j s p q n o k t u v w<|h _ _
inductive aaQ(K:Ζ)(x:V)(y:V)(H:Hp)(Q:VK):Prop
 |mk(p N i v:_)(_:x=.ref p)(_:y=.int i)(_:aN K H p N)(_:UM N i=B v)(_:Q v H)
inductive aah(K:Ζ)(x:V)(y:V)(H:Hp)(Q:VK):Prop
 |mk(p N i v:_)(_:x=.ref p)(_:y=.int i)(_:gb K H p N)(_:UM N i=B v)(_:Q v H)
def aM:IxR X<|aaQ K:=by
 intro J L i q j r M N O P k l s t u m;obtain⟨Q,R,d,v,rfl,rfl,w,x,y⟩:=u;cases s;refine bx λS z=>?_;obtain⟨T,rfl⟩:=t;obtain⟨A,a,e,V⟩:=l.list w;obtain⟨n,b,C,W,E,F⟩:=L1 x;obtain⟨f,o,G⟩:=a.get C;apply z;have H:=a.length;have Y:=A2;have jk:EP X i j k f q:=⟨v,r,l,G,y⟩;by_cases p:0<=d
 .have h:d.toNat=n:=by rw[Sa p F]at b;exact ĥ b
  exact item_listR e.isList p aL (by rw[h];simpa using o) jk m
 .have h:(d+(A.toArray.size:Z)).toNat=n:=by rw[O0 fX E]at b;rw[ġ,<-H];exact ĥ b
  exact O1 (x:=f) e.isList.typeIs XF.lookup
   (wpAny_getItem_list_neg (Q:=λa I=>a=f/\EP X i j k a I) e.isList fX (by rw[ġ]<;>simp_all) aL (by rw[h];simpa using o) ⟨D,jk⟩) m
def qf:IxR X<|aah K:=by
 intro z A f C h i E F G H j b k l m n;obtain⟨I,J,L,o,rfl,rfl,p,q,r⟩:=m;cases k;refine bx λM s=>?_;obtain⟨N,rfl⟩:=l;obtain⟨O,a,d,P⟩:=b.tuple p;obtain⟨t,u,v,Q,R,S⟩:=L1 q;obtain⟨e,w,x⟩:=a.get v;apply s;have T:=A2;exact O1 (x:=e) d.typeIs slot_tuple_getitem.lookup
  (getItem_tuple (j:=t) (Q:=λa y=>a=e/\EP X f h j a y) d aL aL (by rw[ġ,<-a.length];exact u) (by simpa using w) ⟨D,⟨o,i,b,x,r⟩⟩) n
def Kh(Ï:J z)(n j:M)(u:z):q4 (·.setIfInBounds j u) {cls:=.type "list",data:=.seq Ï.toArray n}={cls:=.type "list",data:=.seq (Ï.set j u).toArray n}:=by simp[q4]
theorem Inv.Y{s:Í}{p:O}(I:Inv X aC σ H s)(h:H p=B (.Y N)):
  ∃(Ï:J z) (n:M),bz N Ï/\s.heap.get? p=B {cls:=.type "list",data:=.seq Ï.toArray n}/\L N<=sizeLine:=by
 obtain⟨a,Ï,n,b,d⟩:=I.hok p _ h;exact⟨Ï,n,b,d,a⟩
def Inv.Xj{s:Í}{p:O}{Å:J V}{its':J z}{a:M}{f:gf->gf}(I:Inv X aC σ H s)(h:H p=B (.Y N))
  (d:s.heap.get? p=B {cls:=.type "list",data:=.seq Ï.toArray n}) (b:f {cls:=.type "list",data:=.seq Ï.toArray n}={cls:=.type "list",data:=.seq its'.toArray a}) (r:bz Å its') (i:L Å<=sizeLine) (t:M):
  Inv X aC σ (T H p<|.Y Å) {s with heap:=s.heap.update p f,toks:=t}:=by
 have e:(s.heap.update p f).get? p=B {cls:=.type "list",data:=.seq its'.toArray a}:=by rw[Ū f d (by rw[b]<;>rfl),b]
 refine I.write (x:=p) (e:=p) (by rw[h];trivial) (.inl D) (λl m j k=>(ϫ _ _<|Ϛ j).trans k) ⟨_,e⟩ ?_;exact⟨i,its',a,r,e⟩
def YW:V->V->V->Hp->(Hp->Prop)->Prop:=λo i v H Q=>∃p N k j,o=.ref p/\i=.int k/\H p=B (.Y N)/\R1 (L N) k=B j/\Q (T H p<|.Y<|N.set j v)
def I3:ZL X YW:=by
 intro u d v w J K x L M j N k y z A C;obtain⟨l,E,e,a,rfl,rfl,m,F,n⟩:=C;cases y;refine bx λO G=>?_;obtain⟨P,rfl⟩:=z;obtain⟨o,H,p,f,I⟩:=k.Y m;obtain⟨b,Q,q,r⟩:=Mb F;apply G;have h:=p.length;have R:=A2;have s:Inv X u v (T w l<|.Y<|E.set a x) {d with heap:=d.heap.update l (q4 (·.setIfInBounds a j))}:=
  k.Xj m f (Kh o H a j) (p.set A a) (by rw[Sb];exact I) d.toks
 by_cases t:0<=e
 .have i:e.toNat=a:=by rw[Sa t r]at b;exact ĥ b
  exact PySem.W.ki_setAt f t aL (by rw[ġ,<-h];exact r)<|i▸⟨_,s,n⟩
 .have i:(e+(o.toArray.size:Z)).toNat=a:=by rw[O0 fX q]at b;rw[ġ,<-h];exact ĥ b
  exact PySem.W.ki_setBack f fX (by rw[ġ,<-h];exact q) aL<|i▸⟨_,s,n⟩
def FL(lo Á:É Z)(n:M):(nE lo Á g n).1=((HT.CF n 0 lo:M):Z)/\(nE lo Á g n).2.1=((HT.CF n n Á:M):Z)/\(nE lo Á g n).2.2=1:=by
 refine⟨?_,?_,D⟩
 .cases lo with
  |none=>simp[nE,HT.CF]
  |some b=>
   simp[nE,HT.CF,OG,show(1:Z)>0 by decide,oK];by_cases a:b<0
   .simp[a,oK]<;>lia
   .simp[a,lH]<;>lia
 .cases Á with
  |none=>simp[nE,HT.CF]
  |some b=>
   simp[nE,HT.CF,OG,show(1:Z)>0 by decide,oK];by_cases a:b<0
   .simp[a,oK]<;>lia
   .simp[a,lH]<;>lia
theorem CG(Ï:J z)(lo Á:É Z):slicePick Ï.toArray lo Á g=((Ï.drop<|HT.CF (L Ï) 0 lo).take<|HT.CF (L Ï) (L Ï) Á -HT.CF (L Ï) 0 lo).toArray:=by obtain⟨a,b,d⟩:=FL lo Á Ï.toArray.size;unfold slicePick;rw[a,b,d];simp only[sliceRange_one,pick_run,ġ]<;>rfl
inductive Wb(K:Ζ)(x:V)(lo:É Z)(Á:É Z)(H:Hp)(Q:VK):Prop
 |mk(a N:_)(_:x=.ref a)(_:aN K H a N)(_:∀p,H p=g->Q (.ref p) (T H p<|.Y<|br N lo Á))
def bZ:SlR X<|Wb K:=by intro s f t u v w x y lo b z A d j k l m n;obtain⟨C,a,rfl,p,e⟩:=n;cases j;obtain⟨E,h,i,q⟩:=d.list p;have r:=h.length;refine⟨"list",_,XF.lookup,i.isList.typeIs,?_⟩;refine wpAny_getItem_list_slice i.isList k l m .none bh ?_ (by rw[ġ]<;>simp_all);rw[CG,<-r];refine⟨.ref f.heap.objs.size,_,d.laid (t':=f.toks) (o:=.Y<|br a lo b) (λF G e=>ß _ e) (Õ _) ?_,D,e _<|d.hok.fresh<|Õ _⟩;exact⟨Ć (G4 a lo b) q,_,0,(h.drop<|HT.CF (L a) 0 lo).take<|HT.CF (L a) (L a) b -HT.CF (L a) 0 lo,Ą _ D⟩
noncomputable def kh:V->ě
 |.b_=>U
 |.bl _=>U
 |.int _=>U
 |.str _=>U
 |_=>Τ
noncomputable def Ju:V->V->ě
 |.b_,.b_=>U
 |.bl a,.bl b=>a==b
 |.bl a,.int b=>(if a then 1 else 0)==b
 |.int a,.bl b=>a==(if b then 1 else 0)
 |.int a,.int b=>a==b
 |.str a,.str b=>a==b
 |_,_=>Τ
def Wc{A:ź}{s:Í}{y x:V}{u v:z}(h:bE y u)(b:bE x v)(j:kh y=U)(i:kh x=U):Yv A s u v<|Ju y x:=by
 cases y with
 |b_=>
  cases h;cases x with
  |b_=>cases b;exact SeqAt.EqAt.same _
  |bl a=>cases b;exact SeqAt.EqAt.none_bool a
  |int a=>obtain⟨d,rfl⟩:=b;exact SeqAt.EqAt.none_int a d
  |str a=>obtain⟨d,rfl⟩:=b;exact SeqAt.EqAt.none_str a d
  |_=>exact absurd (show Τ=U from i) Ę
 |bl e=>
  cases h;cases x with
  |b_=>cases b;exact SeqAt.EqAt.bool_none e
  |bl a=>cases b;exact SeqAt.EqAt.bool_bool e a
  |int a=>obtain⟨d,rfl⟩:=b;exact SeqAt.EqAt.bool_int e a d
  |str a=>obtain⟨d,rfl⟩:=b;exact SeqAt.EqAt.bool_str e a d
  |_=>exact absurd (show Τ=U from i) Ę
 |int e=>
  obtain⟨f,rfl⟩:=h;cases x with
  |b_=>cases b;exact SeqAt.EqAt.int_none e f
  |bl a=>cases b;exact SeqAt.EqAt.int_bool e f a
  |int a=>obtain⟨d,rfl⟩:=b;exact SeqAt.EqAt.int_int e f a d
  |str a=>obtain⟨d,rfl⟩:=b;exact F9 e f a d
  |_=>exact absurd (show Τ=U from i) Ę
 |str e=>
  obtain⟨f,rfl⟩:=h;cases x with
  |b_=>cases b;exact SeqAt.EqAt.str_none e f
  |bl a=>cases b;exact SeqAt.EqAt.str_bool e f a
  |int a=>obtain⟨d,rfl⟩:=b;exact F_ e f a d
  |str a=>obtain⟨d,rfl⟩:=b;exact SeqAt.EqAt.str_str e f a d
  |_=>exact absurd (show Τ=U from i) Ę
 |_=>exact absurd (show Τ=U from j) Ę
noncomputable def Jv (x:V) (u:z):ě:=match u with
 |.none=>Ju .b_ x
 |.bool b=>Ju (.bl b) x
 |.int i _=>Ju (.int i) x
 |.str a _=>Ju (.str a) x
 |_=>Τ
theorem Ff{x y:V}{u:z}(r:bE y u)(f:kh y=U):Jv x u=Ju y x:=by
 cases y with
 |b_=>cases r;rfl
 |bl b=>cases r;rfl
 |int d=>obtain⟨a,rfl⟩:=r;rfl
 |str e=>obtain⟨a,rfl⟩:=r;rfl
 |_=>exact absurd (show Τ=U from f) Ę
theorem vP{x:V}:∀{N:J V} {Μ:J z},bz N Μ->N.all kh=U->Μ.any (Jv x)=N.any λy=>Ju y x
 |_,_,.nil,_=>D
 |y::N,e::Μ,.cons b d,a=>by rw[lI,ø]at a;rw[pK,pK,Ff b a.1,vP d a.2]
theorem oY{A:ź}{s:Í}{x:V}{v:z}(d:bE x v)(e:kh x=U):∀{N:J V} {Μ:J z},bz N Μ->N.all kh=U->∀u∈Μ,Yv A s u v (Jv x u)
 |_,_,.nil,_=>λu a=>by cases a
 |y::N,u::Μ,.cons f h,b=>λi a=>by
  rw[lI,ø]at b;rcases ç.mp a with rfl|a
  .rw[Ff f b.1];exact Wc f d b.1 e
  .exact oY d e h b.2 i a
def R3(x:V)(N:J V):ě:=N.any λy=>Ju y x
inductive rIn(K:Ζ)(neg:ě)(x:V)(y:V)(H:Hp)(Q:VK):Prop
 |mk(p N:_)(_:y=.ref p)(_:(aN K H p N\/gb K H p N))(_:kh x=U)(_:N.all kh=U)(_:Q (.bl<|if neg then !R3 x N else R3 x N) H)
def Ep:pq X (Ų .In)<|rIn K Τ:=by
 intro s t u l a v w x y f m p q;obtain⟨z,A,rfl,b,n,h,o⟩:=q;cases p;rcases b with b|b
 .obtain⟨d,e,i,r⟩:=f.list b;refine SeqAt.in_listAt (Jv a) i.isList (λj k=>oY m n e h j<|by simpa using k) ⟨.bl _,l,f,D,?_⟩;rw[show d.toArray.any (Jv a)=d.any (Jv a) by simp,vP e h];exact o
 .obtain⟨d,e,i,r⟩:=f.tuple b;refine SeqAt.in_tupleAt (Jv a) i (λj k=>oY m n e h j<|by simpa using k) ⟨.bl _,l,f,D,?_⟩;rw[show d.toArray.any (Jv a)=d.any (Jv a) by simp,vP e h];exact o
def pZ:pq X (Ų .NotIn)<|rIn K U:=by
 intro s t u l a v w x y f m p q;obtain⟨z,A,rfl,b,n,h,o⟩:=q;cases p;rcases b with b|b
 .obtain⟨d,e,i,r⟩:=f.list b;refine SeqAt.notIn_listAt (Jv a) i.isList (λj k=>oY m n e h j<|by simpa using k) ⟨.bl _,l,f,D,?_⟩;rw[show d.toArray.any (Jv a)=d.any (Jv a) by simp,vP e h];exact o
 .obtain⟨d,e,i,r⟩:=f.tuple b;refine SeqAt.notIn_tupleAt (Jv a) i (λj k=>oY m n e h j<|by simpa using k) ⟨.bl _,l,f,D,?_⟩;rw[show d.toArray.any (Jv a)=d.any (Jv a) by simp,vP e h];exact o
def Fi:ig X (.builtin "len") (λN H Q=>∃p Å,N=[.ref p]/\(aN K H p Å\/gb K H p Å)/\Q (.int<|L Å) H):=by
 intro o h q H N r Q b j k;obtain⟨p,Å,rfl,a,i⟩:=k;obtain⟨s,rfl,l⟩:=rO j;cases l;have t:=A2;rcases a with a|a
 .obtain⟨m,d,e,n⟩:=b.list a;have f:=d.length;exact Calls.call_len_list e.isList (by simp[ġ]<;>lia) ⟨.int<|L Å,H,b.tok _,⟨h.toks+1,by rw[ġ,f]⟩,i⟩
 .obtain⟨m,d,e,n⟩:=b.tuple a;have f:=d.length;exact len_tuple e (by simp[ġ]<;>lia) ⟨.int<|L Å,H,b.tok _,⟨h.toks+1,by rw[ġ,f]⟩,i⟩
def Fo:ig X (.builtin "len") (λN H Q=>∃a,N=[.str a]/\a.length<=sizeLine/\Q (.int a.length) H):=by intro h i j H N k Q b d e;obtain⟨a,rfl,l,f⟩:=e;obtain⟨m,rfl,n,rfl⟩:=rO d;have o:=A2;exact len_str aL ⟨.int a.length,H,b.tok _,⟨_,D⟩,f⟩
def F4:ig X (.type "list") (λN H Q=>∃p Å,N=[.ref p]/\(aN K H p Å\/gb K H p Å)/\∀l,H l=g->Q (.ref l) (T H l<|.Y Å)):=by
 intro u f v H N G Q m w x;obtain⟨p,Å,rfl,h,y⟩:=x;obtain⟨I,rfl,A⟩:=rO w;cases A;have jk:∀(b:J z),bz Å b->L Å<=sizeLine->∀(a:ό) (d:M),(∀s t,f.heap.get? s=B t->a.get? s=B t)->
   a.get? f.heap.objs.size=B {cls:=.type "list",dict:=g,data:=.seq b.toArray d,slots:= #[]}->EP X u v Q (.ref f.heap.objs.size) {f with heap:=a}:=λb e i a d j k=>
  ⟨.ref f.heap.objs.size,_,m.laid (t':=f.toks) j (Õ _)<|show cL X.prog X.w _ a _ (.Y Å) from⟨i,b,d,e,k⟩,D,y _<|m.hok.fresh<|Õ _⟩
 rcases h with h|h
 .obtain⟨b,e,n,i⟩:=m.list h;have C:=e.length;obtain⟨E,o,q,F,r⟩:=n.isList;exact call_list_seq p (.inl D) o q r (λa d j k=>jk b e i a d j k) fX
 .obtain⟨b,e,n,i⟩:=m.tuple h;have C:=e.length;obtain⟨E,o,q,F,r⟩:=n;exact call_list_seq p (.inr D) o q r (λa d j k=>jk b e i a d j k) fX
def C_:ig X (.type "tuple") (λN H Q=>∃p Å,N=[.ref p]/\((aN K H p Å/\∀l,H l=g->Q (.ref l) (T H l<|.bO Å))\/(gb K H p Å/\Q (.ref p) H))):=by
 intro m a n H N w Q b r e;obtain⟨p,Å,rfl,e⟩:=e;obtain⟨x,rfl,s⟩:=rO r;cases s;rcases e with⟨f,h⟩|⟨f,h⟩
 .obtain⟨i,j,k,o⟩:=b.list f;have y:=j.length;refine call_tuple_list k.isList (λd t=>?_) fX;have q:Inv X m n H {a with heap:=d}:=b.kept (t':=a.toks) t;have u:Inv X m n (T H d.objs.size<|.bO Å) {a with heap:=d.push {cls:=.type "tuple",data:=.seq i.toArray}}:=
   q.laid (t':=a.toks) (λz A v=>ß _ v) (Õ _) (show cL X.prog X.w _ _ _ (.bO Å) from⟨o,i,j,IsTup.new _ _⟩)
  exact⟨.ref d.objs.size,_,u,D,h _<|q.hok.fresh<|Õ _⟩
 .obtain⟨i,j,k,o⟩:=b.tuple f;exact call_tuple_same k ⟨.ref p,H,b,D,h⟩
def tyV(K:Ζ)(Æ:jC)(x:V)(H:Hp):Prop:=match x with
 |.str _=>Æ="str"
 |.int _=>Æ="int"
 |.ref p=>(Æ="list"/\∃N,aN K H p N)\/(Æ="tuple"/\∃o,K.lookup p=B o/\o.cls=.type "tuple"/\o.dict=g)\/
  (Æ="dict"/\((∃Β,H p=B (.dK Β))\/∃Β,H p=B (.dT Β)))\/(Æ="set"/\∃χ n,H p=B (.set χ n))
 |_=>Ϡ
def P9{aC:J<|O×gf}{σ:St}{H:Hp}{s:Í}{Æ:jC}{x:V}{v:z}(I:Inv X aC σ H s)(r:bE x v)(ty:tyV K Æ x H):
  s.TypeIs v Æ/\∀a,v=.ref a->∃ob,s.heap.get? a=B ob/\ob.dict=g:=by
 cases x with
 |str i=>
  obtain⟨j,rfl⟩:=r;cases(show Æ="str" from ty);exact⟨typeIs_str s i j,λ_ b=>nomatch b⟩
 |int n=>
  obtain⟨j,rfl⟩:=r;cases(show Æ="int" from ty);exact⟨typeIs_int s n j,λ_ b=>nomatch b⟩
 |ref h=>
  cases r;rcases ty with⟨rfl,u,o⟩|⟨rfl,d,e,p,k⟩|⟨rfl,e⟩|⟨rfl,w,q,e⟩
  .obtain⟨y,_,m,_⟩:=I.list o;refine⟨m.isList.typeIs,λa b=>?_⟩;cases b;obtain⟨d,q,b,A,k,_⟩:=m;exact⟨d,b,k⟩
  .refine⟨⟨d,I.lV h d e,p⟩,λa b=>?_⟩;cases b;exact⟨d,I.lV _ d e,k⟩
  .have i:∃d,s.heap.get? h=B d/\d.ExactDict:=by
    rcases e with⟨t,e⟩|⟨t,e⟩
    .obtain⟨_,_,_,_,d,_,_,b,f,_⟩:=I.hok h _ e;exact⟨d,b,f⟩
    .obtain⟨_,_,_,_,d,_,_,b,f,_⟩:=I.hok h _ e;exact⟨d,b,f⟩
   obtain⟨d,b,f⟩:=i;refine⟨⟨d,b,f.1⟩,λa l=>?_⟩;cases l;exact⟨d,b,f.2.1⟩
  .obtain⟨d,_,_,_,b,f,_⟩:=I.hok h _ e;refine⟨⟨d,b,f.1⟩,λa l=>?_⟩;cases l;exact⟨d,b,f.2.1⟩
 |_=>exact ŏ ty
def aaU(K:Ζ)(Æ:jC)(r:V->J V->Hp->VK->Prop)(ŉ:TE):TE:=λσ H Q=>ŉ σ H λx ο=>tyV K Æ x ο/\r x [] ο Q
def SR(K:Ζ)(Æ:jC)(r:V->J V->Hp->VK->Prop)(ŉ:TE)(t:TA):TE:=λσ H Q=>ŉ σ H λx ο=>tyV K Æ x ο/\t σ ο λN Θ=>r x N Θ Q
variable{o:Ž}{Α:J Ž}{ŉ:TE}{t:TA}{name:S}{ĝ Ď:kX}{Æ id:jC}{r:V->J V->Hp->VK->Prop}
def P7(f:PlainAttrs Æ)(h:Slot Æ name id)(i:O2 (.builtin id)=pure (.type "method_descriptor"))(j:MtR X id r)(k:PE X o ŉ)
  (l:eo o name X.env (Ŧ o X.env)=Ŧ o X.env:=by rfl) (m:(ĝ.endLine==Ď.line)=U:=by rfl):PE X (.Call (.Attribute o name ĝ) [] [] Ď)<|aaU K Æ r ŉ:=by
 intro a n b p q s t;refine wpAny_Call_method0_late l m<|cH (k a n b p _ s t) λu s1 v=>?_;obtain⟨w,x,d,e,y,z⟩:=v;obtain⟨A,C⟩:=P9 d e y;exact⟨Æ,id,f,h,i,A,C,jU D<|PySem.evalArgs_none<|j a s1 b x w [] u [] q d e .nil z⟩
def En(i:PlainAttrs Æ)(j:Slot Æ name id)(k:O2 (.builtin id)=pure (.type "method_descriptor"))(l:MtR X id r)(m:PE X o ŉ)(n:PA X (e::Α) t)
  (p:eo o name X.env (Ŧ o X.env)=Ŧ o X.env:=by rfl)
  (q:((ϴ Ď<|ë (e::Α) X.env).all (λx=> !x.1)&&(jT Ď<|er [] X.env).all (λx=>x.1.isSome) &&ã ((L<|e::Α)+(L ([]:J nq))+(if([]:J nq).isEmpty then 0 else 1)<30))=U:=by rfl)
  (s:(ĝ.endLine==Ď.line)=U:=by rfl) (u:ë (e::Α) X.env=(Τ,Ŧ e X.env)::ë Α X.env:=by rfl) (v:(ϴ Ď<|ë Α X.env).any (·.1)=Τ:=by rfl):
  PE X (.Call (.Attribute o name ĝ) (e::Α) [] Ď) (SR K Æ r ŉ t):=by
 intro a w b y z A C;refine wpAny_Call_method_late p q s D<|cH (m a w b y _ A C) λE s1 F=>?_;obtain⟨x,G,d,f,H,I⟩:=F;obtain⟨M,N⟩:=P9 d f H;refine⟨Æ,id,i,j,k,M,N,?_⟩;have h:=n Ď a s1 b G _ d I;rw[u]at h⊢;refine jU (by show(Τ||(ϴ Ď<|ë Α X.env).any (·.1))=Τ;rw[v]<;>rfl)<|s8 ?_;exact cH h λO s2 ⟨P,Q,R,S,T⟩=>l a s2 b Q x P E O z R f S T
end
def MtM(X:Cx K)(id:jC)(r:V->J V->Hp->VK->Prop):Prop:=
 ∀(aC:J<|O×gf) (s:Í) (σ:St) (H:Hp) (x:V) (N:J V) (v:z) (Μ:J z) (Q:VK),Inv X aC σ H s->bE x v->bz N Μ->r x N H Q->
  ô (ă X.prog X.w) X.A (jS (.builtin id)<|v::Μ) (EP X aC σ Q) X.xe s
theorem bz.one:∀{x:V} {Μ:J z},bz [x] Μ->∃u,Μ=[u]/\bE x u
 |_,_,.cons a .nil=>⟨_,D,a⟩
theorem bz.zero:∀{Μ:J z},bz [] Μ->Μ=[]
 |_,.nil=>D
theorem bz.dropLast{N:J V}{Μ:J z}(h:bz N Μ):bz N.dropLast Μ.dropLast:=by
 induction h with
 |nil=>exact .nil
 |cons a b d=>
  cases b with
  |nil=>exact .nil
  |cons e f=>exact .cons a d
def VR(l:J Ν):l.eraseIdx (L l -1)=l.dropLast:=by simp
section
variable{s:Í}{l:O}{Å Ô:J V}
def Inv.Wf{its':J z}{f:ŕ z->ŕ z}(I:Inv X aC σ H s)(b:H l=B (.Y N))
  (e:s.heap.get? l=B {cls:=.type "list",data:=.seq Ï.toArray n}) (d:f Ï.toArray=its'.toArray) (h:bz Å its') (i:L Å<=sizeLine):
  Inv X aC σ (T H l<|.Y Å) {s with heap:=s.heap.update l<|q4 f,toks:=t'}:=by
 have a:=PySem.IsL.update e f;rw[d]at a;refine I.write (x:=l) (e:=l) (b▸trivial) (.inl D) (λm o j k=>(ϫ s.heap (q4 f)<|Ϛ j).trans k) ⟨_,a⟩ ?_;exact⟨i,its',_,h,a⟩
def Inv.aaJ(I:Inv X aC σ H s)(a:bz Å Ï)(b:L Å<=sizeLine):
  Inv X aC σ (T H s.heap.objs.size<|.Y Å) {s with heap:=s.heap.push {cls:=.type "list",data:=.seq Ï.toArray},toks:=t'}:=
 I.laid (λ_ _ d=>ß _ d) (Õ _) ⟨b,Ï,0,a,Ą _ D⟩
theorem Inv.fresh(I:Inv X aC σ H s):H s.heap.objs.size=g:=I.hok.fresh<|Õ _
def Inv.Vs(I:Inv X aC σ H s)(b:H l=B (.Y N)):L N<=sizeLine/\∃(Ï:J z) (n:M),bz N Ï/\L N=L Ï/\s.heap.get? l=B {cls:=.type "list",data:=.seq Ï.toArray n}:=by obtain⟨d,Ï,n,a,e⟩:=I.hok l _ b;exact⟨d,Ï,n,a,a.length,e⟩
theorem Ri(h:n<=sizeLine):mj n=Τ:=by unfold mj;simp_all
end
inductive vU(x:V)(vs:J V)(H:Hp)(Q:VK):Prop
 |mk(l N y:_)(_:x=.ref l)(_:vs=[y])(_:H l=B (.Y N))(_:L N<sizeLine)(_:Q .b_<|T H l<|.Y<|N++[y])
def xq:MtM X "list.append" vU:=by
 intro p q r s t u v w x b h i j;obtain⟨k,y,z,rfl,rfl,d,A,l⟩:=j;cases h;obtain⟨e,rfl,m⟩:=i.one;obtain⟨C,f,n,o,E,a⟩:=b.Vs d;refine uq jD ⟨_,a,D⟩ F.entry_list_append (F.args_list_append_2 _ _) (PySem.list_append k f.toArray n e (by rw[ġ];simp_all)) ⟨a,?_⟩;refine⟨.b_,_,b.Wf (its':=f++[e]) d a bh (o.append<|.cons m .nil) ?_,D,l⟩;rw[Ω,Ϝ]
 assumption
inductive aaP(x:V)(vs:J V)(H:Hp)(Q:VK):Prop
 |mk(l N y:_)(_:x=.ref l)(_:vs=[])(_:H l=B (.Y N))(_:N[L N -1]?=B y)(_:Q y<|T H l<|.Y N.dropLast)
def Qo:MtM X "list.pop" aaP:=by
 intro t u v w x y z A C d i j k;obtain⟨l,E,m,rfl,rfl,e,n,o⟩:=k;cases i;have p:=j.zero;subst p;obtain⟨G,a,q,f,H,b⟩:=d.Vs e;obtain⟨h,I,r⟩:=f.get n;have s:a.toArray[a.toArray.size -1]?=B h:=by simp_all
 refine uq ur ⟨_,b,D⟩ F.entry_list_pop (F.args_list_pop_1 _) (MeetsSeq.list_pop_last l a.toArray q h s (by rw[ġ];simp_all)) ⟨b,?_⟩;refine⟨m,_,d.Wf (its':=a.dropLast) e b ?_ f.dropLast ?_,r,o⟩
 .simp
 .grind
section
variable{s:Í}
end
theorem bz.ints:∀{ns:J Z} {Μ:J z},bz (ns.map V.int) Μ->IntsAre Μ ns
 |[],Μ,a=>by rw[iA]at a;cases a;exact IntsAre.nil
 |n::ns,Μ,a=>by
  rw[þ]at a;cases a with
  |cons b d=>
   obtain⟨e,rfl⟩:=b;exact IntsAre.cons n e<|bz.ints d
theorem bz.bls:∀{å:J ě} {Μ:J z},bz (å.map V.bl) Μ->Μ=å.map nC
 |[],Μ,a=>by rw[iA]at a;cases a;rfl
 |b::å,Μ,a=>by
  rw[þ]at a;cases a with
  |cons d e=>
   cases d;rw[bz.bls e,þ]
theorem bz.Y_{a:O}{Μ:J z}(r:bz [V.ref a] Μ):Μ=[æ a]:=by
 cases r with
 |cons r b=>
  cases b;cases r;rfl
section
variable{s:Í}{l:O}{ns:J Z}
def S1(f:A.handled=g)(a:s.heap.IsList l Ï.toArray)(Á:IntsAre Ï ns)
  (h:∀h' tk t',(∀b o,s.heap.get? b=B o->h'.get? b=B o)->Q (.int ns.sum t') {s with heap:=h',toks:=tk}):ô (ă prog w) A (jS (.builtin "sum") [.ref l]) Q E s:=by
 obtain⟨i,d⟩:=Á.allInts.items;have e:numsOf (intItems i).toList=ns:=d▸Á.numsOf;rw[nums_intItems]at e;rw[d]at a;refine PySem.sum_intListG f a λh' tk t' j=>?_;have:=h h' tk t' j;rw[preSum_eq,gm bh,e];exact this
end
inductive WR(K:Ζ)(vs:J V)(H:Hp)(Q:VK):Prop
 |mk(a:O)(ns:J Z)(_:vs=[V.ref a])(_:aN K H a<|ns.map V.int)(_:Q (.int ns.sum) H)
def Ww(b:X.calm=U):ig X (.builtin "sum")<|WR K:=by intro m n o d p q r a e f;obtain⟨s,t,rfl,h,i⟩:=f;obtain⟨u,j,k,_⟩:=a.list h;rw[bz.Y_ e];exact S1 (a.ok.hd b) k.isList j.ints λv w x l=>⟨.int _,d,a.kept l,⟨_,D⟩,i⟩
inductive K0(K:Ζ)(x:V)(N:J V)(H:Hp)(Q:VK):Prop
 |mk(a:O)(Å:J V)(y:V)(j:M)(z:V)(_:x=V.ref a)(_:N=[y])(_:aN K H a Å)(_:kh y=U)(_:Å.all kh=U)(_:Å[j]?=B z)(_:Ju z y=U)(_:(∀(m:M) (b:V),m<j->Å[m]?=B b->Ju b y=Τ))(_:Q (.int (j:M)) H)
theorem Mc{Å:J V}(f:Å.all kh=U){j:M}{a:V}(h:Å[j]?=B a):kh a=U:=Ě.mp f a<|υ h
def QY:MtR X "list.index"<|K0 K:=by
 intro Z aa ab o ad ae af ag ah i p q r;obtain⟨s,j,t,e,ai,rfl,rfl,u,v,f,k,w,x,y⟩:=r;cases p;cases q with
 |cons z A=>
  rename_i C aj;cases A;obtain⟨b,d,⟨⟨ak,E,al,F⟩,G,l,m,am,n⟩,an⟩:=i.list u;simp only at m n;subst m n;obtain⟨H,I,J⟩:=d.get k;obtain⟨N,O⟩:=Ð.mp I;have ao:=d.length;have ap:=Î;refine uq je ⟨_,l,D⟩ Cs (Cc _ _)
   (MW s b.toArray G E F C (Jv t) e (by simpa using N) aL ?_ ?_) ⟨l,λP Q=>oY z v d f P<|by simpa using Q,?_⟩
  .rw[(by simpa using O:b.toArray[e]=H),Ff J<|Mc f k];exact w
  .intro a R S;have aq:a<L b:=by simpa using R
   have h:j[a]?=B j[a]:=ą fX;obtain⟨T,V,W⟩:=d.get h;obtain⟨_,Y⟩:=Ð.mp V;rw[(by simpa using Y:b.toArray[a]=T),Ff W<|Mc f h];exact x a _ S h
  .exact⟨.int (e:M),o,i.tok _,⟨_,D⟩,y⟩
def QS{s:Í}{l:O}{items:ŕ z}(b:s.heap.IsList l items)
  (h:∀a:Í,a={s with heap:=s.heap.push {cls:=.type "list_iterator",data:=.fields #[.ref l,.int 0 0]}}-> (a.heap.IsListIter s.heap.objs.size l 0/\a.heap.IsList l items)->l≠s.heap.objs.size->Q (.ref s.heap.objs.size) a):ô (ă prog w) A (OY<|.ref l) Q E s:=by
 exact lF b<|h _ D ⟨⟨_,Ą _ D,D,D⟩,b.push _⟩<|ė (by obtain⟨_,d,_⟩:=b;exact û d)
def G9{å:J ě}(e:Ï=å.map nC):
  TruthOf prog w A (λi v=>Ï.toArray[i]?=B v) (λi=>å.getD i Τ):=λi v d f m h j=>by
 have a:Ï[i]?=B v:=by simpa using h
 rw[e,Ë]at a;obtain⟨k,l,rfl⟩:=Ü.mp a;have b:f (å.getD i Τ) d:=j;rw[(by rw[nH,l]<;>rfl:å.getD i false=k)]at b;exact Ϣ b
theorem Es:∀å:J ě,(ſ<|L å).all (λi=>å.getD i Τ)=å.all id
 |[]=>D
 |b::å=>by
  rw[Ñ,List.range_succ_eq_map,lI,j5,lI,<-Es å]
  all_goals rfl
inductive T4(K:Ζ)(vs:J V)(H:Hp)(Q:VK):Prop
 |mk(a:O)(å:J ě)(_:vs=[V.ref a])(_:aN K H a<|å.map V.bl)(_:Q (.bl<|å.all id) H)
def VB(f:X.calm=U):ig X (.builtin "all")<|T4 K:=by
 intro w x y h z A C a i j;obtain⟨k,E,rfl,l,m⟩:=j;obtain⟨n,o,p,_⟩:=a.list l;rw[bz.Y_ i];have d:=o.bls;refine call_all_walk<|QS p.isList λF q st r=>?_;subst q;refine⟨_,_,_,_,_,_,_,D,Yw (A:=X.A.in1) (a.ok.hd f) _ k r n.toArray,st,G9 d,λG H s=>?_⟩;refine⟨.bl _,h,a.kept λt u e=>s t u (λb=>?_)<|ß _ e,?_,m⟩
 .rcases ç.mp b with v|b
  .exact absurd (v▸û e)<|gD _
  .cases b
 .show nC _=nC _;rw[<-Es,d,ġ,Ε]
mutual
inductive Dp(K:Ζ)(H:Hp):V->z6->Prop
 |b_:Dp K H .b_ .none
 |bl(b:ě):Dp K H (.bl b)<|.bool b
 |int(i:Z):Dp K H (.int i)<|.int i
 |str(x:S):Dp K H (.str x)<|.str x
 |Y{a:O}{N:J V}{Ù:J z6}:aN K H a N->yi K H N Ù->Dp K H (.ref a) (.list Ù)
 |bO{a:O}{N:J V}{Ù:J z6}:gb K H a N->yi K H N Ù->Dp K H (.ref a) (.tuple Ù)
inductive yi(K:Ζ)(H:Hp):J V->J z6->Prop
 |nil:yi K H [] []
 |cons{v:V}{vs:J V}{d:z6}{Ù:J z6}:Dp K H v d->yi K H vs Ù->yi K H (v::vs) (d::Ù)
end
section
variable{s:Í}
mutual
theorem Dp.reads(I:Inv X aC σ H s):∀(d:z6) (v:V) (u:z),Dp K H v d->bE v u->∃as,Reads s.heap u d as
 |.none,_,_,a,b=>by cases a;cases b;exact⟨_,Reads.none⟩
 |.bool p,_,_,a,b=>by cases a;cases b;exact⟨_,Reads.bool p⟩
 |.int q,_,_,a,b=>by cases a;obtain⟨e,rfl⟩:=b;exact⟨_,Reads.int q e⟩
 |.str r,_,_,a,b=>by cases a;obtain⟨e,rfl⟩:=b;exact⟨_,Reads.str r e⟩
 |.list f,_,_,a,b=>by
  cases a with
  |Y h i=>
   cases b;obtain⟨j,k,⟨t,w,l,m,_,n⟩,_⟩:=I.list h;obtain⟨as,o⟩:=Dp.readsAll I f _ j i k;exact⟨_,Reads.list l m n o⟩
 |.tuple f,_,_,a,b=>by
  cases a with
  |bO h i=>
   cases b;obtain⟨j,k,⟨t,l,m,w,n⟩,_⟩:=I.tuple h;obtain⟨as,o⟩:=Dp.readsAll I f _ j i k;exact⟨_,Reads.tuple l m n o⟩
 |.dict _,_,_,a,_=>by cases a
theorem Dp.readsAll(I:Inv X aC σ H s):∀(Ù:J z6) (vs:J V) (Μ:J z),yi K H vs Ù->bz vs Μ->∃as,ReadsAll s.heap Μ Ù as
 |[],_,_,a,b=>by cases a;cases b;exact⟨_,ReadsAll.nil⟩
 |d::Ù,_,_,a,b=>by
  cases a with
  |cons e f=>
   cases b with
   |cons h i=>
    obtain⟨as,j⟩:=Dp.reads I d _ _ e h;obtain⟨l,k⟩:=Dp.readsAll I Ù _ _ f i;exact⟨_,ReadsAll.cons j k⟩
end
end
def aaM(K:Ζ):R2:=λx y H Q=>∃d e,Dp K H x d/\Dp K H y e/\jV d=U/\jV e=U/\Q (.bl<|jf d e) H
def aaF(K:Ζ):R2:=λx y H Q=>∃d e,Dp K H x d/\Dp K H y e/\jV d=U/\jV e=U/\Q (.bl<|!jf d e) H
def Q6(b:X.A.units+64<d_):pq X (Ų .Eq)<|aaM K:=by intro v w x d e f h i y a j k l;obtain⟨m,n,o,p,q,r,s⟩:=l;obtain⟨z,t⟩:=Dp.reads a m e h o j;obtain⟨A,u⟩:=Dp.reads a n f i p k;exact SeqAt.compareEq_shaped t u q r b ⟨.bl _,d,a,D,s⟩
def RC(b:X.A.units+64<d_):pq X (Ų .NotEq)<|aaF K:=by intro v w x d e f h i y a j k l;obtain⟨m,n,o,p,q,r,s⟩:=l;obtain⟨z,t⟩:=Dp.reads a m e h o j;obtain⟨A,u⟩:=Dp.reads a n f i p k;exact SeqAt.compareNe_shaped t u q r b ⟨.bl _,d,a,D,s⟩
abbrev Py(h:ό)(c:O)(v:É z):Prop:=h.IsCell c v
noncomputable def aaq (Ρ ü:kK):kK:=
 {Ρ with names:=Ρ.names.map λ(n,k)=>if(k==.free&&ü.kind==.function&&ü.names.lookup n==B .cell) then(n,.cell) else(n,k)}
noncomputable def cO (cells:J<|S×O):J (S×fQ)->J (S×O)->J (S×O)
 |[],a=>a
 |(n,k)::r,a=>if k==.free then cO cells r ((n,(cells.lookup n).getD 0)::a) else cO cells r a
theorem wc(env:sG)(f:S×fQ->J (S×O)->Yd (ForInStep<|J<|S×O))
  (d:∀n k c,f (n,k) c=if k==.free then(do let a <-cellOf env n;pure (.yield<|(n,a)::c)) else pure (.yield c)):
  ∀(names:J<|S×fQ) (acc:J<|S×O),(∀y∈names,y.2=.free->∃c,env.cells.lookup y.1=B c)->forIn names acc f=pure (cO env.cells names acc)
 |[],acc,_=>by rw[UB];rfl
 |(n,k)::j,acc,e=>by
  rw[List.forIn_cons,d];have h:=λacc=>wc env f d j acc λy l=>e y<|Ç _ l;unfold cO;by_cases b:(k==O3)=U
  .rw[à b,à b];obtain⟨c,i⟩:=e (n,k) Ö (by simpa using b);rw[(by unfold cellOf;rw[i]:cellOf env n=pure c)];rw[(by rw[i];rfl:(env.cells.lookup n).getD 0=c)];exact h _
  .rw[Ó b,Ó b];exact h _
def KG{env:sG}(h:∀y∈Ρ.names,y.2=.free->∃c,env.cells.lookup y.1=B c):closureFor Ρ env=pure (cO env.cells Ρ.names []):=by simp only[closureFor];rw[wc env _ (λa b c=>D) Ρ.names [] h];rfl
theorem uP{Ν:Type}:∀{l:J<|S×Ν} {n:S} {c:Ν},(n,c)∈l->∃a,l.lookup n=B a
 |(b,d)::e,n,c,h=>by
  rw[RM];cases f:n==b with
  |true=>exact⟨_,D⟩
  |false=>
   rcases ç.mp h with i|h
   .simp_all
   .exact uP h
theorem nO{cells:J<|S×O}:∀{names:J<|S×fQ} {acc:J<|S×O} {n:S} {c:O},(n,c)∈cO cells names acc->(n,c)∈acc\/((n,.free)∈names/\c=(cells.lookup n).getD 0)
 |[],_,_,_,a=>.inl a
 |(h,f)::i,acc,n,c,a=>by
  unfold cO at a;split at a
  .rename_i e;have e:f=.free:=by simpa using e
   rcases nO a with a|⟨b,d⟩
   .grind
   .exact .inr ⟨Ç _ b,d⟩
  .rcases nO a with a|⟨b,d⟩
   .exact .inl a
   .exact .inr ⟨Ç _ b,d⟩
theorem rJ{cells:J<|S×O}:∀{names:J<|S×fQ} {acc:J<|S×O} {p:S×O},p∈acc->p∈cO cells names acc
 |[],_,_,a=>a
 |(b,d)::e,acc,p,a=>by
  unfold cO;split
  .exact rJ<|Ç _ a
  .exact rJ a
theorem rj{cells:J<|S×O}:∀{names:J<|S×fQ} {acc:J<|S×O} {n:S},(n,.free)∈names->(n,(cells.lookup n).getD 0)∈cO cells names acc
 |(b,d)::e,acc,n,h=>by
  unfold cO;rcases ç.mp h with a|h
  .cases a;exact rJ Ö
  .split
   .exact rj h
   .exact rj h
theorem oS:∀{names:J<|S×fQ} {h:ό} {acc:J<|S×O} {x:S} {c:O},(x,c)∈ϑ h.objs.size names acc->
  (x,c)∈acc\/((x,.cell)∈names/\h.objs.size<=c/\Py (pL h names) c g)
 |[],_,_,_,_,h=>.inl h
 |(k,l)::i,h,acc,x,c,a=>by
  unfold ϑ at a;unfold pL;split at a
  .rename_i b;rw[à b];rw[<-ϝ h {cls:=.type "cell",data:=.cell g}]at a;rcases oS a with a|⟨e,d,f⟩
   .rcases ç.mp a with j|a
    .cases j;exact .inr ⟨(by simpa using b)▸Ö,Õ _,_,u5 i _ _ _<|Ą _ D,D⟩
    .exact .inl a
   .rw[ϝ]at d;exact .inr ⟨Ç _ e,pM d,f⟩
  .rename_i b;rw[Ó b];rcases oS a with a|⟨e,d,f⟩
   .exact .inl a
   .exact .inr ⟨Ç _ e,d,f⟩
theorem sV:∀{names:J<|S×fQ} {n:M} {acc:J<|S×O} {p:S×O},p∈acc->p∈ϑ n names acc
 |[],_,_,_,a=>a
 |(b,d)::e,n,acc,p,a=>by
  unfold ϑ;split
  .exact sV<|Ç _ a
  .exact sV a
theorem xx:∀{names:J<|S×fQ} {n:M} {acc:J<|S×O} {x:S},(x,.cell)∈names->∃c,(x,c)∈ϑ n names acc
 |(b,d)::e,n,acc,x,h=>by
  unfold ϑ;rcases ç.mp h with a|h
  .cases a;exact⟨n,sV Ö⟩
  .split
   .exact xx h
   .exact xx h
theorem xH:∀{names:J<|S×fQ} {h:ό} {acc:J<|S×O} {x y:S} {c:O},(∀p∈acc,p.2<h.objs.size)->(∀x y c,(x,c)∈acc->(y,c)∈acc->x=y)->
  (x,c)∈ϑ h.objs.size names acc->(y,c)∈ϑ h.objs.size names acc->x=y
 |[],_,_,_,_,_,_,d,b,a=>d _ _ _ b a
 |(j,k)::l,h,acc,x,y,c,i,d,b,a=>by
  unfold ϑ at b a;split at b
  .rename_i e;rw[à e]at a;rw[<-ϝ h {cls:=.type "cell",data:=.cell g}]at b a;refine xH (h:=h.push _) (λp f=>?_) (λx y c m n=>?_) b a
   .rw[ϝ];rcases ç.mp f with rfl|f
    .exact d9 _
    .exact ko<|i p f
   grind
  .rename_i e;rw[Ó e]at a;exact xH i d b a
def I5{s:Í}{globals:O}{a:J<|S×O}{ì:S}{b:É O}{code:z}{d:sG}{e:O}{Q:sG->Í->Prop}
  (h:Q (newEnv Ρ s.heap.objs.size globals (ϑ (s.heap.objs.size+1) Ρ.names a) ì b code (B d) e) {s with heap:=pL (s.heap.push {cls:=.type "dict",data:=.dict #[]}) Ρ.names}):
  ô è A (newFunctionEnv Ρ globals a [] ì b code (B d) e) Q E s:=by
 simp only[newFunctionEnv,LB,oK];refine Λ<|wpAny_alloc ?_;refine Λ<|wpAny_layCells _ (λf i j=>D) Ρ.names a _ _ ?_;rw[show({s with heap:=s.heap.push {cls:=.type "dict",data:=.dict #[]}}:Í).heap.objs.size=s.heap.objs.size+1 from ϝ ..];rw[UB];exact Λ<|Ê<|Ê h
theorem sr{ü:kK}:∀{names:J<|S×fQ} {x:S} {k:fQ},
  (names.map λ(n,k)=>if(k==O3&&ü.kind==.function&&ü.names.lookup n==B .cell) then(n,O4) else(n,k)).lookup x=B k->
  ∃a,names.lookup x=B a/\(k=a\/(a=.free/\k=.cell))
 |[],_,_,b=>by simp at b
 |(n,e)::d,x,k,b=>by
  have f:= @sr ü d x k
  grind
structure HQ(Δ:J S)(ü Ρ:kK)(own:J<|S×M):Prop where
 kind:Ρ.kind=.function
 uniq:∀y∈Ρ.names,Ρ.names.lookup y.1=B y.2
 ix:∀p∈own,Δ[p.2]?=B p.1
 free:∀y∈Ρ.names,y.2=.free->ü.names.lookup y.1=B .cell\/ü.names.lookup y.1=B .free
 own:∀y∈Ρ.names,y.2=.local\/y.2=.cell->y.1∈own.map (·.1)\/y.1∉Δ
noncomputable def cE (σ:St):J M->St
 |[]=>σ
 |v::vs=>(cE σ vs).set v g
theorem k9(σ:St):∀vs:J M,(L<|cE σ vs)=L σ
 |[]=>D
 |v::vs=>by unfold cE;rw[Sb,k9 σ vs]
theorem w6{σ:St}{i:M}{x:V}:∀{vs:J M},(cE σ vs)[i]?=B (B x)->σ[i]?=B (B x)/\i∉vs
 |[],a=>⟨a,bh⟩
 |v::vs,a=>by
  unfold cE at a;by_cases b:v=i
  .subst b;by_cases d:v<(L<|cE σ vs)
   .rw[dM d]at a;cases a
   .rw[eg<|by simpa using d]at a;cases a
  .rw[lU b]at a;obtain⟨e,f⟩:=w6 a;exact⟨e,by simp[ç,not_or];exact⟨λh=>b h.symm,f⟩⟩
noncomputable abbrev Cx.j0 (X:Cx K) (s:Í) (H:Hp) (Ρ:kK) (a:sG) (â:J O):Cx K:={X with CJ:=s,V7:=H,env:=a,outer:=X.stack,ex:=â,fn:=λx=>Ρ.names.lookup x==B .cell,pn:=[],xe:=λ_ _=>Ϡ}
section
variable{s:Í}
def Ib{â:J O}(I:Inv X aC σ H s)(ok:HQ X.N X.env.scope Ρ own)(ab:X.N.Nodup)(w:∀b∈â,BY X aC H b/\b<s.heap.objs.size):
  Inv (X.j0 s H Ρ (iX Ρ (ϑ (s.heap.objs.size+1) Ρ.names<|cO X.env.cells Ρ.names []) s.heap.objs.size X.env) â) [] (cE σ (own.map (·.2))) H {s with heap:=pL (s.heap.push {cls:=.type "dict",data:=.dict #[]}) Ρ.names}:=by
 have ad:∀a∈Ρ.names,a.2=.free->∃d,X.env.cells.lookup a.1=B d:=λa r e=>by
  rcases ok.free a r e with k|k
  .exact I.ok.has _<|.inl k
  .exact I.ok.has _<|.inr k
 generalize A:iX Ρ (ϑ (s.heap.objs.size+1) Ρ.names<|cO X.env.cells Ρ.names []) s.heap.objs.size X.env=f;have G:∀b x,s.heap.get? b=B x->(pL (s.heap.push {cls:=.type "dict",data:=.dict #[]}) Ρ.names).get? b=B x:=λb x e=>u5 _ _ _ _<|ß _ e;have R:f.locals=s.heap.objs.size:=by rw[<-A];rfl
 have t:f.cells=ϑ (s.heap.objs.size+1) Ρ.names (cO X.env.cells Ρ.names []):=by rw[<-A];rfl
 have S:f.scope=aaq Ρ X.env.scope:=by rw[<-A];rfl
 rw[<-ϝ s.heap {cls:=.type "dict",data:=.dict #[]}]at t;have C:∀{a d},(a,d)∈cO X.env.cells Ρ.names []->X.env.cells.lookup a=B d/\d<s.heap.objs.size:=λ{a d} i=>by
  rcases nO i with i|⟨h,rfl⟩
  .cases i
  .obtain⟨d,V⟩:=ad _ h D;rw[V];obtain⟨K,z⟩:=I.cell _ _ V;exact⟨D,z.lt⟩
 have T:∀{a d},f.cells.lookup a=B d->(X.env.cells.lookup a=B d/\d<s.heap.objs.size)\/(s.heap.objs.size+1<=d/\Py (pL (s.heap.push {cls:=.type "dict",data:=.dict #[]}) Ρ.names) d g):=λ{a d} e=>by
  rw[t]at e;rcases oS (Ľ e) with i|⟨_,E,al⟩
  .exact .inl<|C i
  simp_all
 have W:∀{a},Ρ.names.lookup a=B .free->∃d,f.cells.lookup a=B d/\X.env.cells.lookup a=B d:=λ{a} L=>by
  obtain⟨M,j⟩:=uP<|sV (names:=Ρ.names) (n:=(s.heap.push {cls:=.type "dict",data:=.dict #[]}).objs.size)<|rj (cells:=X.env.cells) (acc:=[])<|Ľ L;rw[<-t]at j;refine⟨M,j,?_⟩;rw[t]at j;rcases oS (Ľ j) with i|⟨h,_,_⟩
  .exact(C i).1
  .have:=ok.uniq _ h;rw[L]at this;cases this
 have ae:(X.j0 s H Ρ f â).Ok:=by
  refine⟨I.ok.mod,by show f.scope.kind=_;rw[S];exact ok.kind,by show f.globals=_;rw[<-A];exact I.ok.glob,by show f.builtins=_;rw[<-A];exact I.ok.blt,by simp_all[Õ],
   λa z d m o=>?_,λa r=>?_,λa d z e=>?_,I.ok.hd,I.ok.frames,.inl D,λb p=>⟨?_,λa d e z=>?_⟩,I.bs,Ć I.ok.Jw I.sz,λb x e p=>?_,λb p z=>?_,I.stack,I.EZ⟩
  .have m:f.cells.lookup a=B d:=m;have o:f.cells.lookup z=B d:=o;rw[t]at m o;refine xH (λu F=>?_) (λa z d af b=>I.ok.inj a z d (C af).1 (C b).1) (Ľ m)<|Ľ o;rw[ϝ];exact ko (@C u.1 u.2 F).2
  .show∃d,f.cells.lookup a=B d;have y:∀k,f.kindOf a=B k->(k=.cell\/k=.free)->∃d,f.cells.lookup a=B d:=λk v Y=>by
    unfold Env.kindOf at v;rw[S]at v;obtain⟨q,e,N⟩:=sr v;have:q=.cell\/q=.free:=by lia
    rcases this with rfl|rfl
    .obtain⟨d,i⟩:=xx (n:=(s.heap.push {cls:=.type "dict",data:=.dict #[]}).objs.size) (acc:=cO X.env.cells Ρ.names [])<|Ľ e;obtain⟨M,j⟩:=uP i;exact⟨M,t▸j⟩
    .obtain⟨d,h,_⟩:=W e;exact⟨d,h⟩
   rcases r with r|r
   .exact y _ r<|.inl D
   .exact y _ r<|.inr D
  .have z:(Ρ.names.lookup a==B O4)=U:=z;have e:f.cells.lookup a=B d:=e;rw[t]at e;rcases oS (Ľ e) with i|⟨_,E,_⟩
   .rcases nO i with i|⟨h,_⟩
    .cases i
    .have P:=ok.uniq _ h;rw[(by simpa using z:Ρ.names.lookup a=some .cell)]at P;cases P
   .rw[ϝ]at E;exact pM E
  .show b≠f.locals;rw[R];exact ė (w b p).2
  .rcases T e with⟨h,_⟩|⟨h,_⟩
   .exact(w b p).1.2.2.2.2.1 a d h z
   .exact absurd (ĭ (w b p).2<|pM<|z▸h)<|gD _
  .rcases(w b p).1.2.2.2.1 with z|z
   .exact I.ok.CW b x e z
   .exact absurd (ĭ (û e)<|Ć I.ok.Jw z)<|gD _
  .rcases ç.mp (I.Lf b z) with z|z
   .exact(w b p).1.2.1 z
   .exact(w b p).1.2.2.1 z
 refine⟨ae,D,I.bare,Un.kept G,⟨λ_=>g,?_,λag a ah m o l=>?_⟩,λa d e=>?_,?_,λa d e=>?_,λu F=>?_,I.hok.kept G,by rw[k9];exact I.len⟩
 .show Heap.Ns _ f.locals _;rw[R];exact Heap.Ns.keeps (Heap.Ns.new ..) λb x e=>u5 _ _ _ _ e
 .obtain⟨o,ai⟩:=w6 o;have Q:Ρ.names.lookup a=B .free/\(f.kindOf a=B .cell\/f.kindOf a=B .free):=by
   have y:∀k,f.scope.names.lookup a=B k->k=.local\/k=.cell\/k=.free->Ρ.names.lookup a=B .free/\(f.kindOf a=B .cell\/f.kindOf a=B .free):=λk v Y=>by
    have Z:=v;rw[S]at v;obtain⟨q,e,N⟩:=sr v;have aa:¬(q=.local\/q=.cell):=λaj=>by
     rcases ok.own _ (Ľ e) aj with j|j
     .obtain⟨u,F,ak⟩:=ń.mp j;have l:=ok.ix u F;have:u.1=a:=ak;rw[this]at l;exact ai<|ń.mpr ⟨u,F,AA ab l m⟩
     .exact j<|υ m
    rcases N with rfl|⟨rfl,rfl⟩
    .rcases Y with rfl|rfl|rfl
     .exact absurd (.inl D) aa
     .exact absurd (.inr D) aa
     .exact⟨e,.inr Z⟩
    .exact⟨e,.inl Z⟩
   have l:Vis f.scope a:=l;rcases l with l|l|l
   .exact y _ l<|.inl D
   .exact y _ l<|.inr<|.inl D
   .exact y _ l<|.inr<|.inr D
  obtain⟨am,an,L⟩:=I.loc;obtain⟨K,N,P⟩:=L ag a ah m o<|(ok.free _ (Ľ Q.1) D).elim (λk=>.inr<|.inl k) λk=>.inr<|.inr k;refine⟨K,N,.inr ⟨Q.2,?_⟩⟩;obtain⟨d,h,E⟩:=W Q.1;rcases P with⟨k,_⟩|⟨_,M,j,z⟩
  .have k:X.env.scope.names.lookup a=B .local:=k;rcases ok.free _ (Ľ Q.1) D with q|q<;>rw[show X.env.scope.names.lookup a=_ from q]at k<;>cases k
  .rw[E]at j;cases j;exact⟨d,h,z.keeps G⟩
 .rcases T e with⟨h,_⟩|⟨_,z⟩
  .obtain⟨K,z⟩:=I.cell a d h;exact⟨K,z.keeps G⟩
  .exact⟨_,z⟩
 .show H f.locals=g;rw[R];exact I.hok.fresh<|Õ _
 .rcases T e with⟨h,_⟩|⟨h,_⟩
  .exact I.jL a d h
  .exact I.hok.fresh<|pM h
 .simp_all[absurd,O]
def W2{a:O}{v:z}(I:Inv X aC σ H s)(b:H a=B (.Y N))(f:L N<sizeLine)(r:bE y v)
  (h:∀s',Inv X aC σ (T H a<|.Y<|N++[y]) s'->Q .none s'):ô (ă X.prog X.w) X.A (jS (.builtin "list.append") [.ref a,v]) Q E s:=by
 obtain⟨q,i,j,d,k⟩:=I.hok a _ b;have t:=d.length;refine append_at (hsz:=by rw[ġ];simp_all) k λl m e=>?_;refine h {s with heap:=l} (I.write (t':=s.toks) (by rw[b];trivial) (.inl D) (λn u o p=>(m.2 n o).trans p) ⟨_,e⟩ ⟨Ω▸f,i++[v],j+1,d.append<|.cons r .nil,?_⟩);rw[e];simp
def ZP(X:Cx K)(a:J Ž)(t:TT):Prop:=
 ∀(aC:J<|O×gf) (s:Í) (σ:St) (H:Hp) (Q:ě->Hp->Prop),Inv X aC σ H s->t σ H Q->
  ô (ă X.prog X.w) X.A (forIn a U λc r=>if r then do let ok <-Vd c X.env (Ŧ c X.env);pure (pN ok) else pure (pN r)) (TP X aC σ Q) X.xe s
def CN:TT:=λ_ H Q=>Q U H
def cY:ZP X [] CN:=λ_ _ _ a _ b d=>wpAny_tests_nil ⟨a,b,d⟩
def vt{c:Ž}{t:TT}(h:PT X c t):ZP X [c] t:=λa b d e f i j=>wpAny_tests_one<|h a b d e f i j
end
def NW{t:Yd Ν}{Q b:Ν->Í->Prop}{s:Í}(h:ô è A t Q (λ_ _=>Ϡ) s)(d:∀a s,Q a s->b a s):ô è A t b E s:=Ż h d λ_ _ e=>ŏ e
def Fg{prog:Ŝ}{w:ś}{A:ź}{Χ:OX->Í->Prop}{s:Í}{f b kH:Ž}{i:J Ž}{Ρ:kK}{pos:kX}{d acc:z}{env:sG}(I:M->Í->Prop)
  (y:∀n s,I n s->ô (ă prog w) A (z5 d) (λr j=>match r with
   |none=>Χ (.ok .next) j
   |some v=>ô (ă prog w) A (Gu b d v) (λ_ l=>ô (ă prog w) A (JA b env v) (λ_ o=>
    ô (ă prog w) A (forIn i U λc r=>if r then do let ok <-Vd c env (Ŧ c env);pure (pN ok) else pure (pN r)) (λok k=>
     if ok then ô (ă prog w) A (Ŧ f env) (λx p=>
      ô (ă prog w) A (jS (.builtin "list.append") [acc,x]) (λ_ q=>∃m,m<n/\I m q) (Jm (ă prog w) A env λe s'=>Χ (.error e) s') p) (Jm (ă prog w) A env λe s'=>Χ (.error e) s') k
     else∃m,m<n/\I m k) (Jm (ă prog w) A env λe s'=>Χ (.error e) s') o) (Jm (ă prog w) A env λe s'=>Χ (.error e) s') l) (Jm (ă prog w) A env λe s'=>Χ (.error e) s') j) (Jm (ă prog w) A env λe s'=>Χ (.error e) s') s)
  (n:M) (h:I n s):
  j4 (ă prog w) A (.compLoop (.ListComp f [⟨b,kH,i,0⟩] Ρ pos) 0 d acc env) Χ s:=by
 refine codeAny_loop D I (λn s C=>?_) n h;show ô _ A ((compTurn (.ListComp f [⟨b,kH,i,0⟩] Ρ pos) 0 d acc env).onRaise (λx=>do s9 x env;theTreesLotGoes x)) _ _ s;refine wpAny_noted ?_;rw[compTurn_list];refine Λ<|nj<|Λ<|Ż (y n s C) (λr j t=>?_) λ_ _ a=>a;cases r with
 |none=>exact Ê t
 |some v=>
  refine Λ<|Ż t (λ_ l E=>?_) λ_ _ a=>a;refine Λ<|Ż E (λ_ o F=>Λ<|Ż F (λok k u=>?_) λ_ _ a=>a) λ_ _ a=>a;cases ok with
  |false=>exact Ê ⟨D,u⟩
  |true=>
   exact Λ<|Λ<|Ż u (λx p G=>Λ<|Ż G (λ_ q H=>Ê<|Ê ⟨D,H⟩) λ_ _ a=>a) λ_ _ a=>a
def tLc(o:TI)(ς:TG)(tt:TT)(Â:TE)(vs:J M):TE:=λσ H Q=>o σ H λd ο=>∀a,ο a=g->∃e:M->M->Hp->Prop,(∃m,e 0 m<|T ο a<|.Y [])/\∀i m H,e i m H->
 (d.stop i H/\Q (.ref a) H)\/(d.go i H/\∃f:Hp->Prop,(∀R,f R->∃k,k<m/\e (i+1) k R)/\∀x R,d.HW i H x R->ς x (cE σ vs) R λh Θ=>cE h vs=cE σ vs/\tt h Θ λb l=> if b then Â h l λy n=>∃j,n a=B (.Y j)/\L j<sizeLine/\f (T n a<|.Y<|j++[y]) else f l)
def LX{s:Í}{Q:VK}{E kH:Ž}{F:J Ž}{pos Ň:kX}{ak:TI}{tt:TT}{y:É<|z->Yd Vc}{Qf:z->Í->Prop}
  (al:X.calm=U) (aL:X.N.Nodup) (I:Inv X aC σ H s) (Á:PI X ĉ kH ak) (ok:HQ X.N X.env.scope Ρ own)
  (aM:∀(s:Í) (H:Hp) (C:O) (cl:J<|S×O) (â:J O),PG (X.j0 s H Ρ (iX Ρ cl C X.env) â) ĉ ς) (aN:∀(s:Í) (H:Hp) (C:O) (cl:J<|S×O) (â:J O),ZP (X.j0 s H Ρ (iX Ρ cl C X.env) â) F tt)
  (aO:∀(s:Í) (H:Hp) (C:O) (cl:J<|S×O) (â:J O),PE (X.j0 s H Ρ (iX Ρ cl C X.env) â) E Â) (aP:∀x,qS kH X.env x=pure x)
  (h:tLc ak ς tt Â (own.map (·.2)) σ H Q)
  (aQ:∀e C s' m R,Inv X aC σ R s'->Q (.ref e) R->s'.heap.Ns C m->BY X aC R C->compPost (ă X.prog X.w) X.A X.xe y Qf (.ref e) C (.ok .next) s'):
  ô (ă X.prog X.w) X.A (comprehension (.ListComp E [⟨ĉ,kH,F,0⟩] Ρ pos) Ρ X.env Ň (newList []) Τ (Ŧ kH X.env) y) Qf X.xe s:=by
 have aR:∀q∈Ρ.names,q.2=.free->∃V,X.env.cells.lookup q.1=B V:=λq W d=>by
  rcases ok.free q W d with k|k
  .exact I.ok.has _<|.inl k
  .exact I.ok.has _<|.inr k
 refine wpAny_comprehension_free (use:=y) D aP (KG aR) ok.kind (λq W d=>by rw[ok.uniq q W,d])
  (cH (Á aC s σ H _ I h) λbt s1 aS=>cH aS λbu s2 aT=>?_)
 refine bx λam A=>?_;obtain⟨an,â,Y,bv,p,d,ao,n,ap,f2,aU⟩:=aT;apply A;subst d;refine lJ (I5 ?_) (by show 0<=sizeLine;decide);generalize G:s2.heap.objs.size=e;obtain⟨aq,⟨aV,w0⟩,aW⟩:=aU e<|ao.hok.fresh<|iF G;generalize ar:({s2 with heap:=s2.heap.push {cls:=.type "list",data:=.seq ([]:J z).toArray}}:Í)=s3;have K:Inv X aC σ (T p e<|.Y []) s3:=by rw[<-ar];refine ao.laid (t':=s2.toks) (λa f d=>ß _ d) (iF G) ⟨Ò _,[],0,.nil,?_⟩;rw[<-G];exact Ą _ D
 have av:s3.heap=s2.heap.push {cls:=.type "list",data:=.seq ([]:J z).toArray}:=by rw[<-ar]
 have aX:∀a∈â,a<s2.heap.objs.size:=λa b=>by obtain⟨f,d,_⟩:=n.obj _ _ ap a b;exact û d
 have f3:∀a∈â,BY X aC (T p e<|.Y []) a/\a<s3.heap.objs.size:=λa b=>by have aw:=aX a b;refine⟨⟨?_,(f2 a b).2⟩,by rw[av,ϝ];exact ko aw⟩;rw[au<|G▸ė aw];exact(f2 a b).1
 have L:=Ib K ok aL f3;have Z:=aM s3 (T p e<|.Y []) s3.heap.objs.size (ϑ (s3.heap.objs.size+1) Ρ.names<|cO X.env.cells Ρ.names []) â;have aa:=aN s3 (T p e<|.Y []) s3.heap.objs.size (ϑ (s3.heap.objs.size+1) Ρ.names<|cO X.env.cells Ρ.names []) â;have ab:=aO s3 (T p e<|.Y []) s3.heap.objs.size (ϑ (s3.heap.objs.size+1) Ρ.names<|cO X.env.cells Ρ.names []) â;show j4 _ _ (.compStart (.ListComp E [⟨ĉ,kH,F,0⟩] Ρ pos) 0 (.ref an) (.ref e)<|iX Ρ (ϑ (s3.heap.objs.size+1) Ρ.names<|cO X.env.cells Ρ.names []) s3.heap.objs.size X.env) (compPost (ă X.prog X.w) X.A X.xe y Qf (.ref e) s3.heap.objs.size) {s3 with heap:=pL (s3.heap.push {cls:=.type "dict",data:=.dict #[]}) Ρ.names};have ax:∀a∈â,(T p e<|.Y []) a=g:=λa b=>(f3 a b).1.1;generalize aY:iX Ρ (ϑ (s3.heap.objs.size+1) Ρ.names<|cO X.env.cells Ρ.names []) s3.heap.objs.size X.env=i at L Z aa ab⊢;have ay:i.locals=s3.heap.objs.size:=by subst aY;rfl
 generalize bw:T p e (.Y [])=o at K L Z aa ab w0 ax f3;generalize aZ:({s3 with heap:=pL (s3.heap.push {cls:=.type "dict",data:=.dict #[]}) Ρ.names}:Í)=s4 at L⊢;have az:Y 0 s4.heap:=n.keep _ _ _ (n.keep _ _ _ ap λa _ f d=>av▸ß _ d) λa _ f d=>aZ▸u5 _ _ _ _ (ß _ d);have ad:∀{aA:St} {R:Hp} {s':Í},Inv (X.j0 s3 o Ρ i â) [] aA R s'->(∀a∈â,R a=g)->∀a∈â,BY (X.j0 s3 o Ρ i â) [] R a:=λ{aA R s'} r t a b=>
  ⟨t a b,(r.ok.SD a b).1,r.ok.C0 a b,.inl b,λx V d=>(r.ok.SD a b).2 x V d,λa0 a1=>absurd (show a0∈([]:J<|O×gf)++[] from a1) bh⟩
 have aB:j4 (ă X.prog X.w) X.A (.compLoop (.ListComp E [⟨ĉ,kH,F,0⟩] Ρ pos) 0 (.ref an) (.ref e) i) (compPost (ă X.prog X.w) X.A X.xe y Qf (.ref e) s3.heap.objs.size) s4:=by
  refine Fg (λM s'=>∃l R,Inv (X.j0 s3 o Ρ i â) [] (cE σ (own.map (·.2))) R s'/\Y l s'.heap/\(∀a∈â,R a=g)/\aq l M R) ?_ aV ⟨0,o,L,az,ax,w0⟩;refineλM aD a2=>bx λam A=>?_;obtain⟨l,u,N,aE,aF,a3⟩:=a2;apply A;rcases aW l M u a3 with⟨a4,a5⟩|⟨a6,a7,a8,step⟩
  .refine NW (n.done (X.j0 s3 o Ρ i â) D D al l [] aD _ u (λ_ _=>Ϡ) N (ad N aF) aE a4) λa9 ae j=>?_;obtain⟨af,v⟩:=j;subst af;have a_:u s3.heap.objs.size=g:=by have w:u i.locals=g:=v.free;rw[ay]at w;exact w
   refine bx λam A=>?_;obtain⟨m,t,_⟩:=v.loc;apply A;have t:ae.heap.Ns i.locals m:=t;rw[ay]at t;exact aQ e s3.heap.objs.size ae m u (K.Qe (ch:=â) v.os v.base v.hok v.bare λa b=>⟨(f3 a b).1.2.2.2.1,(f3 a b).1.2.1,(f3 a b).1.2.2.2.2.1,(f3 a b).1.2.2.2.2.2⟩) a5 t<|K.NQ (Õ _) a_
  .refine NW (n.item (X.j0 s3 o Ρ i â) D D al l [] aD _ u (λ_ _=>Ϡ) N (ad N aF) aE a6) λa9 ae j=>?_;obtain⟨a',af,ba⟩:=j;subst af;refine NW ba λ_ ag j=>?_;obtain⟨x,aG,aH,bb,bc,ah,bd⟩:=j;refine NW (Z _ ag _ aG x a' _ (aH.pinned (ad aH bd)<|n.obj _ _ ah) bb<|step x aG bc) λ_ be j=>?_;obtain⟨ai,bf,bg,aI,bi⟩:=j;refine NW (aa _ be ai bf _ bg bi) λa bj j=>?_;obtain⟨bk,aJ,P⟩:=j;have jk:∀{s':Í} {R:Hp},Inv (X.j0 s3 o Ρ i â) ([]++BJ â ag.heap) ai R s'->a7 R->∃m,m<M/\∃l R,Inv (X.j0 s3 o Ρ i â) [] (cE σ (own.map (·.2))) R s'/\Y l s'.heap/\(∀a∈â,R a=g)/\aq l m R:=λ{s' R} r aj=>by
    obtain⟨bl,bm,bn⟩:=a8 R aj;have aK:∀a∈â,∀f,ag.heap.get? a=B f->s'.heap.get? a=B f/\R a=g:=λa b f d=>
     let w:=r.pin (a,f)<|ò _<|ò _<|uS b d
     ⟨w.1,w.2.1⟩
    refine⟨bl,bm,l+1,R,(r.vZ (aC:=[])).weak (by rw[<-aI,k9]) λbz bA d=>?_,n.keep _ _ _ ah λa b f d=>(aK a b f d).1,λa b=>?_,bn⟩
    .rw[<-aI]at d;exact(w6 d).1
    .obtain⟨f,d,_⟩:=n.obj _ _ ah a b;exact(aK a b f d).2
   cases a with
   |false=>
    simp[wu,lH]at P⊢;exact jk aJ P
   |true=>
    simp[oK]at P⊢;refine NW (ab _ bj ai bk _ aJ P) λw bB j=>?_;obtain⟨bC,bD,bo,bp,bE,bq,br,aj⟩:=j;exact W2 (X:=X.j0 s3 o Ρ i â) bo bq br bp λbF bs=>jk bs aj
 exact codeAny_compStart_list aB<|n.self X.A 0 _ _ _ az aB
def gV{a kH:Ž}{b:J Ž}{pos:kX}{d:TI}{tt:TT}(e:X.calm=U)(f:X.N.Nodup)(Á:PI X ĉ kH d)(ok:HQ X.N X.env.scope Ρ own)
  (h:∀(s:Í) (H:Hp) (C:O) (cl:J<|S×O) (â:J O),PG (X.j0 s H Ρ (iX Ρ cl C X.env) â) ĉ ς) (i:∀(s:Í) (H:Hp) (C:O) (cl:J<|S×O) (â:J O),ZP (X.j0 s H Ρ (iX Ρ cl C X.env) â) b tt)
  (j:∀(s:Í) (H:Hp) (C:O) (cl:J<|S×O) (â:J O),PE (X.j0 s H Ρ (iX Ρ cl C X.env) â) a Â) (k:∀x,qS kH X.env x=pure x:=by intro _;rfl):
  PE X (.ListComp a [⟨ĉ,kH,b,0⟩] Ρ pos) (tLc d ς tt Â (own.map (·.2))):=by
 intro G s I H K l m;rw[eval_ListComp];refine LX e f l Á ok h i j k m λn C o p q r t u v=>⟨p,u,λL w=>?_⟩;obtain⟨y,f1,f2,f3,f4,z⟩:=v;exact⟨.ref n,q,r.turned (t':=o.toks) (λA M E F=>(w.2 A E).trans F) y f1 f3 f4 z,D,t⟩
def GJ{y:S}{b:kX}{d kH:Ž}{a:J Ž}{pos h:kX}{j:TI}{tt:TT}(o:X.calm=U)(k:X.N.Nodup)(p:X.N[i]?=B y)(l:X.env.scope.names.lookup y=B .local)
  (q:kL (.ListComp d [⟨ĉ,kH,a,0⟩] Ρ pos) (B<|.Name y b) h.line X.env=pure U) (Á:PI X ĉ kH j) (ok:HQ X.N X.env.scope Ρ own)
  (r:∀(s:Í) (H:Hp) (C:O) (cl:J<|S×O) (â:J O),PG (X.j0 s H Ρ (iX Ρ cl C X.env) â) ĉ ς) (t:∀(s:Í) (H:Hp) (C:O) (cl:J<|S×O) (â:J O),ZP (X.j0 s H Ρ (iX Ρ cl C X.env) â) a tt)
  (u:∀(s:Í) (H:Hp) (C:O) (cl:J<|S×O) (â:J O),PE (X.j0 s H Ρ (iX Ρ cl C X.env) â) d Â) (w:∀x,qS kH X.env x=pure x:=by intro _;rfl):
  PS X (.Assign [.Name y b] (.ListComp d [⟨ĉ,kH,a,0⟩] Ρ pos) h) (Hj (tLc j ς tt Â (own.map (·.2)))<|c8 i):=by
 intro A s ag H E F G;rw[exec_Assign_Name_used _ _ _ _ q];refine Λ<|nj<|Λ ?_;show ô _ X.A (do let _ <-comprehension (.ListComp d [⟨ĉ,kH,a,0⟩] Ρ pos) Ρ X.env (firstIterPos [⟨ĉ,kH,a,0⟩] pos) (newList []) Τ (Ŧ kH X.env) (B<|JA (.Name y b) X.env)) _ _ s;refine Λ<|cH (LX (Qf:=λ_ e=>SP X A E .next e) o k F Á ok r t u w G λm C e I K L M N P=>?_) λ_ e Q=>Ê<|Ê Q;show ô _ _ (JA (.Name y b) X.env<|.ref m) _ _ _;refine XC<|xB (v:=V.ref m) L k p (.inl l) D (λs2 R T=>?_)<|.inr l;obtain⟨n,W,Y⟩:=T;obtain⟨Z,f1,f2,f3,f4,aa⟩:=P;have ab:C≠n:=by
  rcases Y with z|z
  .rw[z];exact f1
  .exactλf=>f4 y n z f.symm
 refine⟨I,N.sameBut W ab,λah ad=>?_⟩;exact⟨_,K,R.turned (t':=s2.toks) (λae ai af f=>(ad.2 ae af).trans f) Z f1 f3 f4 aa,M⟩
def Mr{a:Ž}{ŝ:J Comprehension}{pos b:kX}{y:S}{l:M}{env:sG}(hk:env.scope.kind=.function)(d:env.scope.names.lookup y=B .local)(e:(b.line==pos.line)=U)
  (f:(Ρ.names.any λ(n,k)=>n==y&&(k==.local||k==.cell))=Τ):kL (.ListComp a ŝ Ρ pos) (B<|.Name y b) l env=pure U:=by
 have h:env.kindOf y=B .local:=d;have i:env.blockKind=.function:=by unfold Env.blockKind;rw[hk];rfl
 unfold kL;simp only[i,h,f,show(Expr.ListComp a ŝ Ρ pos).pos=pos from D,e];rfl
def zH{tt:TT}{vs:J M}{ο:Hp}{f:O}{q:Hp->Prop}(d:M->Hp->Prop)(t:d 0<|T ο f<|.Y [])(u:∀i H,i<=L N->d i H->aN K H a N)
  (v:∀i x H,N[i]?=B x->d i H->ς x (cE σ vs) H λe Θ=>cE e vs=cE σ vs/\tt e Θ λb h=> if b then Â e h λy j=>∃acc,j f=B (.Y acc)/\L acc<sizeLine/\d (i+1) (T j f<|.Y<|acc++[y]) else d (i+1) h) (w:∀H,d (L N) H->q H):
  ∃k:M->M->Hp->Prop,(∃m,k 0 m<|T ο f<|.Y [])/\∀i m H,k i m H->
   ((xW K a).stop i H/\q H)\/((xW K a).go i H/\∃l:Hp->Prop,(∀R,l R->∃r,r<m/\k (i+1) r R)/\∀x R,(xW K a).HW i H x R->ς x (cE σ vs) R λe Θ=>cE e vs=cE σ vs/\tt e Θ λb h=> if b then Â e h λy j=>∃acc,j f=B (.Y acc)/\L acc<sizeLine/\l (T j f<|.Y<|acc++[y]) else l h):=by
 refine⟨λi m H=>m=L N -i/\i<=L N/\d i H,⟨L N,bh,Ò _,t⟩,?_⟩;rintro i m H ⟨rfl,z,n⟩;have o:=u i H z n;by_cases s:i<L N
 .refine .inr ⟨⟨N,N[i],o,by simp[s]⟩,d<|i+1,λR A=>⟨L N -(i+1),by omega,D,s,A⟩,λx R y=>?_⟩;obtain⟨p,y⟩:=y;subst p;exact v i x _ (y N o) n
 .have p:i=L N:=aL;subst p;exact .inl ⟨⟨N,o,Õ _⟩,w H n⟩
noncomputable def Zq (Δ:J S) (ü Ρ:kK) (own:J<|S×M):ě:=
 (match Ρ.kind with|.function=>U|_=>Τ)&&(Ρ.names.all λy=>ã<|Ρ.names.lookup y.1=B y.2)&&(own.all λp=>ã<|Δ[p.2]?=B p.1)&&
  (Ρ.names.all λy=>match y.2 with
   |.free=>(match ü.names.lookup y.1 with|some .cell=>U|some .free=>U|_=>Τ)
   |.local=>ã (y.1∈own.map (·.1))||decide (y.1∉Δ)
   |.cell=>ã (y.1∈own.map (·.1))||decide (y.1∉Δ)
   |_=>U)
def bL{Δ:J S}{ü:kK}(h:Zq Δ ü Ρ own=U):HQ Δ ü Ρ own:=by
 unfold Zq at h;simp only[ø,Ě,dN]at h;obtain⟨⟨⟨k,i⟩,j⟩,f⟩:=h;refine⟨?_,i,j,λb d e=>?_,λb d e=>?_⟩
 .lia
 .have a:=f b d;simp[e]at a;split at a<;>first|exact .inl (by assumption)|exact .inr (by assumption)|cases a
 .have a:=f b d;rcases e with e|e<;>(simp only[e,Sd,dN]at a;exact a)
section
variable{ñ:Type}[iW ñ]
noncomputable def cW (Β:J<|ñ×V) (k:ñ):É V:=(Β.find? λa=>ã<|a.1=k).map (·.2)
noncomputable def c7 (Β:J<|ñ×V) (k:ñ) (v:V):J<|ñ×V:=
 if(Β.any λa=>ã<|a.1=k) then Β.map (λa=>if a.1=k then(a.1,v) else a) else Β++[(k,v)]
theorem gj{p:ñ×V}{r:J<|ñ×V}{k:ñ}(e:p.1=k):cW (p::r) k=B p.2:=by simp[cW,ϲ,e]
theorem fO{p:ñ×V}{r:J<|ñ×V}{k:ñ}(e:¬p.1=k):cW (p::r) k=cW r k:=by simp[cW,ϲ,e]
theorem mQ(k:ñ):∀Β:J<|ñ×V,(Β.any λb=>ã<|b.1=k)=(cW Β k).isSome
 |[]=>D
 |d::e=>by
  rw[pK];by_cases a:d.1=k
  .simp_all[gj,ő,xO,LB]
  .rw[fO a,Ņ a,jg];exact mQ k e
theorem Ii(k j:ñ)(y:V):∀Β:J<|ñ×V,cW (Β.map λd=>if d.1=k then(d.1,y) else d) j=(cW Β j).map λx=>if j=k then y else x
 |[]=>D
 |p::f=>by
  have e:=Ii k j y f;rw[þ];by_cases b:p.1=k
  .rw[à b];by_cases a:p.1=j
   .rw[gj (p:=(p.1,y)) a,gj a,iY,à<|a.symm.trans b]
   .rw[fO (p:=(p.1,y)) a,fO a,e]
  .rw[Ó b];by_cases a:p.1=j
   .rw[gj (p:=p) a,gj a,iY,Ó λh=>b<|a.trans h]
   .rw[fO (p:=p) a,fO a,e]
theorem Eg(k j:ñ)(y:V):∀Β:J<|ñ×V,cW Β k=g->cW (Β++[(k,y)]) j=if j=k then B y else cW Β j
 |[],_=>by
  by_cases a:k=j
  .rw[à a.symm];exact gj (p:=(k,y)) a
  .rw[Ó λd=>a d.symm];exact fO (p:=(k,y)) a
 |p::e,b=>by
  rw[qt];have f:¬p.1=k:=λd=>by rw[gj d]at b;cases b
  rw[fO f]at b;by_cases a:p.1=j
  .simp_all[gj,Ó]
  .rw[fO a,fO a,Eg k j y e b]
theorem mL(Β:J<|ñ×V)(k j:ñ)(y:V):cW (c7 Β k y) j=if j=k then B y else cW Β j:=by
 unfold c7;by_cases a:(Β.any λb=>ã<|b.1=k)=U
 .rw[à a,Ii];rw[mQ]at a;by_cases d:j=k
  .obtain⟨e,f⟩:=oE.mp a;simp_all[à,iY]
  simp_all
 simp_all[Ó,Eg,mQ]
def jo(Β:J<|ñ×V)(k:ñ)(v:V):(L<|c7 Β k v)<=L Β+1:=by
 unfold c7;split
 .rw[Ε];simp
 .rw[Ω,Ñ,ŭ];simp
theorem Hv{Β:J<|ñ×V}{k:ñ}(v:V)(h:cW Β k=g):c7 Β k v=Β++[(k,v)]:=by unfold c7;rw[mQ,h];rfl
theorem l_.o4{o:É V}{u:É z}(r:l_ o u):o.isSome=u.isSome:=by
 cases o with
 |none=>cases u with
  |none=>rfl
  |some _=>exact(show Ϡ from r).elim
 |some _=>cases u with
  |none=>exact(show Ϡ from r).elim
  |some _=>rfl
theorem l_.getD{o:É V}{u:É z}{d:V}{d':z}(r:l_ o u)(a:bE d d'):bE (o.getD d)<|u.getD d':=by
 cases o with
 |none=>cases u with
  |none=>exact a
  |some _=>exact(show Ϡ from r).elim
 |some _=>cases u with
  |none=>exact(show Ϡ from r).elim
  |some _=>exact r
theorem KV.val{Β:J<|ñ×V}{vs:J<|ñ×z}(r:KV Β vs)(k:ñ):l_ (cW Β k)<|Ct vs k:=by
 induction r with
 |nil=>exact Ϗ
 | @cons f a o d h p i=>
  obtain⟨e,j⟩:=h;by_cases b:f.1=k
  .rw[gj b,(by simp[Ct,ϲ,e.symm.trans b]:Ct (a::d) k=some a.2)];exact j
  .have l:¬a.1=k:=λm=>b<|e.trans m;have n:Ct (a::d) k=Ct d k:=by simp[Ct,ϲ,l]
   rw[fO b,n];exact i
theorem KV.any{Β:J<|ñ×V}{vs:J<|ñ×z}(r:KV Β vs)(k:ñ):(Β.any λa=>ã<|a.1=k)=vs.any λa=>ã<|a.1=k:=by
 induction r with
 |nil=>rfl
 |cons b e d=>rw[pK,pK,d,b.1]
def KV.repl{Β:J<|ñ×V}{vs:J<|ñ×z}(r:KV Β vs)(k:ñ){y:V}{u:z}(e:bE y u):
  KV (Β.map λa=>if a.1=k then(a.1,y) else a) (vs.map λa=>if a.1=k then(a.1,u) else a):=by
 induction r with
 |nil=>exact .nil
 | @cons f j l m h n i=>
  rw[þ,þ];refine .cons ?_ i;obtain⟨b,o⟩:=h;by_cases d:f.1=k
  .rw[à d,à<|b.symm.trans d];exact⟨b,e⟩
  simp_all[Ó]
theorem KV.put{Β:J<|ñ×V}{vs:J<|ñ×z}(r:KV Β vs)(k:ñ){u:z}(b:bE y u):KV (c7 Β k y)<|stored vs k u:=by
 unfold c7 stored;rw[r.any k];by_cases a:(vs.any λd=>ã<|d.1=k)=U
 .rw[à a,à a];exact r.repl k b
 .rw[Ó a,Ó a];exact Paired.snoc r ⟨D,b⟩
theorem KV.length{Β:J<|ñ×V}{vs:J<|ñ×z}(r:KV Β vs):L Β=L vs:=Paired.length r
end
def yE{P:Ŝ}{w:ś}{k:bW}{u:z}(r:bE (kV k) u):(aZ P w).is k u=U:=by
 cases k with
 |inl d=>obtain⟨a,b⟩:=(show∃a,u=pS d a from r);subst b;exact GN P w d a
 |inr e=>obtain⟨a,b⟩:=(show∃a,u=yI e a from r);subst b;exact HC P w e a
theorem DP{P:Ŝ}{w:ś}:∀{ks:J bW} {Μ:J z},bz (ks.map kV) Μ->ItemsAre (aZ P w) ks Μ
 |[],_,a=>by rw[iA]at a;cases a;exact .nil
 |k::ks,_,a=>by
  rw[þ]at a;cases a with
  |cons b d=>exact .cons (yE b)<|DP d
abbrev KT(H:Hp):J (J bW×V)->J (J bW×O×z)->Prop:=ď λp q=>p.1=q.1/\H q.2.1=B (.bO<|p.1.map kV)/\bE p.2 q.2.2
theorem KT.val{H:Hp}{Β:J<|J bW×V}{N:J<|J bW×O×z}(r:KT H Β N)(k:J bW):l_ (cW Β k) ((wI N k).map (·.2)):=by
 induction r with
 |nil=>exact Ϗ
 | @cons f a o d h p i=>
  obtain⟨e,_,j⟩:=h;by_cases b:f.1=k
  .rw[gj b,(by simp[wI,ϲ,e.symm.trans b]:wI (a::d) k=some a.2)];exact j
  .have l:¬a.1=k:=λm=>b<|e.trans m;have n:wI (a::d) k=wI d k:=by simp[wI,ϲ,l]
   rw[fO b,n];exact i
def KT.repl{H:Hp}{Β:J<|J bW×V}{N:J<|J bW×O×z}(r:KT H Β N)(k:J bW){y:V}{u:z}(f:bE y u):
  KT H (Β.map λd=>if d.1=k then(d.1,y) else d) (N.map<|putAt k u):=by
 induction r with
 |nil=>exact .nil
 | @cons h n o p i q j=>
  rw[þ,þ];refine .cons ?_ j;obtain⟨a,e,l⟩:=i;unfold putAt;by_cases b:h.1=k
  .rw[à b,à<|a.symm.trans b];exact⟨a,e,f⟩
  .rw[Ó b,Ó λm=>b<|a.trans m];exact⟨a,e,l⟩
theorem KT.put{N:J<|J bW×O×z}(r:KT H Β N)(k:J bW){u:z}(e:H b=B (.bO<|k.map kV))(d:bE y u):
  KT H (c7 Β k y) (oM N k b u):=by
 have f:(Β.any λh=>ã<|h.1=k)=(wI N k).isSome:=by rw[mQ,(r.val k).o4,wz]
 unfold c7 oM;rw[f];by_cases a:(wI N k).isSome=U
 .rw[à a,à a];exact r.repl k d
 .rw[Ó a,Ó a];exact Paired.snoc r ⟨D,e,d⟩
def KT.keeps{N:J<|J bW×O×z}(r:KT H Β N)(d:∀b Å,H b=B (.bO Å)->R b=B (.bO Å)):KT R Β N:=
 Paired.VP r λ_ _ a=>⟨a.1,d _ _ a.2.1,a.2.2⟩
def U9{u:HO}(ok:qN P w H h)(e:Rd H a u):cL P w H h a u:=e.ok ok
def B8{Β:J<|bW×V}(ok:qN P w H h)(e:Rd H a<|.dK Β):L Β<=sizeLine/\(a==ϟ)=Τ/\∃vs,KV Β vs/\h.DictOf (aZ P w) a vs:=
 show cL P w H h a (.dK Β) from U9 ok e
def ZF{Β:J<|bW×V}(ok:qN P w H h)(e:H a=B (.dK Β)):L Β<=sizeLine/\(a==ϟ)=Τ/\∃vs,KV Β vs/\h.DictOf (aZ P w) a vs:=B8 ok<|.inl e
def qj{ks:J bW}(ok:qN P w H h)(e:H a=B (.bO<|ks.map kV)):(ϗ<|aZ P w).is h ks a:=by obtain⟨_,b,d,f,i,j,k,l⟩:=(show cL P w H h a (.bO<|ks.map kV) from ok a _ e);exact⟨f,b.toArray,k,i,j,l,by simpa using DP d⟩
def yv(ok:qN P w H h)(e:Rd H a<|.dT Β):L Β<=sizeLine/\(a==ϟ)=Τ/\
  ∃N,KT H Β N/\h.DictOfH (ϗ<|aZ P w) a N:=by
 refine bx λA m=>?_;obtain⟨n,o,N,i,p,q,r,s,t,u,v,x⟩:=(show cL P w H h a (.dT Β) from U9 ok e);apply m;refine⟨n,o,N,i,p,q,r,s,t,u,v,λb d=>?_,x⟩;have all:∀{j:J<|J bW×V} {f:J<|J bW×O×z},KT H j f->∀b∈f,(ϗ<|aZ P w).is h b.1 b.2.1:=by
  intro j f k
  induction k with
  |nil=>simp
  | @cons C k E F l G y=>
   intro b d;rcases ç.mp d with e|d
   .subst e;exact qj ok<|l.1▸l.2.1
   .exact y b d
 exact all i b d
def UK(ok:qN P w H h)(e:H a=B (.dT Β)):L Β<=sizeLine/\(a==ϟ)=Τ/\
 ∃N,KT H Β N/\h.DictOfH (ϗ<|aZ P w) a N:=yv ok<|.inl e
def jx(H:Hp)(a:O)(y:V)(r:É V):Prop:=
 (∃Β k,Rd H a (.dK Β)/\y=kV k/\r=cW Β k)\/∃Β k b,Rd H a (.dT Β)/\y=.ref b/\H b=B (.bO<|k.map kV)/\r=cW Β k
def B_(H:Hp)(a:O)(y v:V)(R:Hp):Prop:=
 (∃Β k,H a=B (.dK Β)/\y=kV k/\L Β<sizeLine/\R=T H a (.dK<|c7 Β k v))\/
 ∃Β k b,H a=B (.dT Β)/\y=.ref b/\H b=B (.bO<|k.map kV)/\L Β<sizeLine/\R=T H a (.dT<|c7 Β k v)
theorem jx.k{Β:J<|bW×V}{k:bW}(e:H a=B (.dK Β)):jx H a (kV k)<|cW Β k:=.inl ⟨Β,k,.inl e,D,D⟩
theorem jx.t{k:J bW}(e:H a=B (.dT Β))(d:H b=B (.bO<|k.map kV)):jx H a (.ref b)<|cW Β k:=.inr ⟨Β,k,b,.inl e,D,d,D⟩
theorem B_.t{k:J bW}{v:V}(e:H a=B (.dT Β))(d:H b=B (.bO<|k.map kV))(f:L Β<sizeLine):
 B_ H a (.ref b) v (T H a<|.dT<|c7 Β k v):=.inr ⟨Β,k,b,e,D,d,f,D⟩
section
variable{s:Í}{v:V}{u r:z}{o:É V}
def Inv.big(I:Inv X aC σ H s):ϟ<s.heap.objs.size:=by exact fE bM<|(I.mod.glob.keeps I.bk).lt
def N1(p:A.units+1<d_)(I:Inv X aC σ H s)(ς:jx H a y<|B v)(n:bE y u)(h:∀b s',Inv X aC σ H s'->bE v b->Q b s'):
  ô (ă X.prog X.w) A (Jl (.ref a) u) Q E s:=by
 rcases ς with⟨q,d,e,f,i⟩|⟨q,d,r,e,f,t,i⟩
 .subst f;obtain⟨w,x,z,j,k⟩:=B8 I.hok e;obtain⟨b,l,m⟩:=l_.some_of (v:=v) (o:=Ct z d)<|i▸j.val d;exact Yx (yE n) k.mapOf l<|h b _ (I.tok _) m
 .subst f;cases(show u=æ r from n);obtain⟨w,x,C,j,k⟩:=yv I.hok e;obtain⟨b,l,m⟩:=l_.some_of (v:=v) (o:=(wI C d).map (·.2))<|i▸j.val d;obtain⟨J,F,G⟩:=Ü.mp l;refine wpAny_getItem_heap (gM p) (qj I.hok t) k F ?_;rw[G];exact h b _ (I.tok _) m
def aa9(n:A.units+1<d_)(I:Inv X aC σ H s)(ς:jx H a y o)(l:bE y u)(h:∀s',Inv X aC σ H s'->Q (.bool o.isSome) s'):
  ô (ă X.prog X.w) A (Ų .In u<|.ref a) Q E s:=by
 rcases ς with⟨p,b,d,e,f⟩|⟨p,b,q,d,e,r,f⟩
 .subst e;obtain⟨t,i,v,j,k⟩:=B8 I.hok d;refine wpAny_in_of (yE l) i k.mapOf ?_;rw[<-(j.val b).o4,<-f];exact h _<|I.tok _
 .subst e;cases(show u=æ q from l);obtain⟨t,i,w,j,k⟩:=yv I.hok d;refine wpAny_in_heap (gM n) (qj I.hok r) i k ?_;have m:=(j.val b).o4;rw[wz]at m;rw[<-m,<-f];exact h _<|I.tok _
def T3(n:A.units+1<d_)(I:Inv X aC σ H s)(ς:jx H a y o)(l:bE y u)(h:∀s',Inv X aC σ H s'->Q (.bool<|!o.isSome) s'):
  ô (ă X.prog X.w) A (Ų .NotIn u<|.ref a) Q E s:=by
 rcases ς with⟨p,b,d,e,f⟩|⟨p,b,q,d,e,r,f⟩
 .subst e;obtain⟨t,i,v,j,k⟩:=B8 I.hok d;refine wpAny_notIn_of (yE l) i k.mapOf ?_;rw[<-(j.val b).o4,<-f];exact h _<|I.tok _
 .subst e;cases(show u=æ q from l);obtain⟨t,i,w,j,k⟩:=yv I.hok d;refine wpAny_notIn_heap (gM n) (qj I.hok r) i k ?_;have m:=(j.val b).o4;rw[wz]at m;rw[<-m,<-f];exact h _<|I.tok _
def E6{ob:HO}(I:Inv X aC σ H s)(b:UP<|H a)(d:ϡ a s.heap h')(f:∃q,h'.get? a=B q)(h:cL X.prog X.w (T H a ob) h' a ob):
  Inv X aC σ (T H a ob) {s with heap:=h',toks:=t'}:=
 I.write (x:=a) (e:=a) b (.inl D) (λi q j k=>(d.2 i j).trans k) f h
def Vu{Β:J<|bW×V}{vs:J<|bW×z}(b:L Β<=sizeLine)(d:(a==ϟ)=Τ)(e:KV Β vs)(f:h'.DictOf (aZ P w) a vs):
 cL P w R h' a (.dK Β):=⟨b,d,vs,e,f⟩
def NG{Q:Vc->Í->Prop}(C:A.units+1<d_)(I:Inv X aC σ H s)(ς:B_ H a y v R)(t:bE y u)(w:bE v r)(h:∀s',Inv X aC σ R s'->Q () s'):
  ô (ă X.prog X.w) A (setItem (.ref a) u r) Q E s:=by
 rcases ς with⟨l,d,b,m,F,n⟩|⟨l,d,G,b,m,x,F,n⟩
 .subst m n;obtain⟨e,o,T,f,p⟩:=ZF I.hok b;refine wpAny_setItem_pairs (hsz:=(f.length▸e)) (yE t) p λJ i q=>h _ ?_;exact E6 I (b▸Ϗ) q (let⟨j,_,_,k,_⟩:=i;⟨j,k⟩)<|Vu (by have:=jo l d v;lia) o (f.put d w) i
 .subst m n;cases(show u=æ G from t);obtain⟨e,o,V,f,p⟩:=UK I.hok b;refine wpAny_setItem_heap (hsz:=(Paired.length f▸e)) (gM C) (qj I.hok x) p λJ i q=>h _ ?_;refine bx λW K=>?_;obtain⟨j,L,M,k,N,O,P,_,S⟩:=i;apply K;refine E6 I (b▸Ϗ) q ⟨j,k⟩ ⟨by have:=jo l d v;lia,o,_,(f.put d x w).keeps λY Z z=>?_,j,L,M,k,N,O,P,S⟩;rw[au (bB z b (λe=>nomatch e))];exact z
end
def Wu(i:Ž):Prop:=∀a b,Gd i Τ a b=operate [a,b] (Jl a b)
def MH{s:Í}{env:sG}{value b:Ž}{pos:kX}{Æ id:jC}
  (m:dR (.type Æ) "__getitem__"=pure (B<|.builtin id)) (n:Wu b)
  (h:ô (ă prog w) A (Ŧ value env) (λo j=>ô (ă prog w) A (Ŧ b env) (λi d=>d.TypeIs o Æ/\ô (ă prog w) A (Jl o i) Q E d) E j) E s):
  ô (ă prog w) A (Ŧ (.Subscript value b pos) env) Q E s:=by
 refine Vf<|Ż h (λo j p=>Ż p (λi d e=>?_) λ_ _ a=>a) λ_ _ a=>a;obtain⟨k,e⟩:=e;refine Λ ?_;rw[getitemInPython_of_ne k.not_modules];refine Λ<|wpAny_specialOf k m ?_;have jk:ô (ă prog w) A (Gd b Τ o i) (λf l=>ô (ă prog w) A (letTemporaryGo value o f>>=λ_=>pure f) Q E l) E d:=by rw[n o i];exact wpAny_operating<|Ż e (λf l q=>Λ<|wpAny_letTemporaryGo<|Ê q) λ_ _ a=>a
 first
  |exact Ê<|Λ jk
  |exact Λ<|Ê<|Λ jk
  |exact Λ jk
theorem HY{s:Í}{o:É V}(I:Inv X aC σ H s)(ς:jx H a y o):s.TypeIs (.ref a) "dict":=by
 rcases ς with⟨e,f,b,_,_⟩|⟨e,f,h,b,_,_,_⟩
 .obtain⟨_,_,i,_,d⟩:=B8 I.hok b;exact d.typeIs
 .obtain⟨_,_,j,_,d⟩:=yv I.hok b;exact d.typeIs
inductive Wv(Q:VK)(x:V)(y:V)(Θ:Hp):Prop
 |mk(a v:_)(_:x=.ref a)(_:jx Θ a y<|B v)(_:Q v Θ)
def Zc(ī ty:TE):TE:=λσ H Q=>ī σ H λx ο=>ty σ ο λy Θ=>Wv Q x y Θ
inductive ZR(Q:VK)(y:V)(x:V)(Θ:Hp):Prop
 |mk(a o:_)(_:x=.ref a)(_:jx Θ a y o)(_:Q (.bl o.isSome) Θ)
def Uc(ty ī:TE):TE:=λσ H Q=>ty σ H λy ο=>ī σ ο λx Θ=>ZR Q y x Θ
inductive P4(Q:VK)(y:V)(x:V)(Θ:Hp):Prop
 |mk(a o:_)(_:x=.ref a)(_:jx Θ a y o)(_:Q (.bl<|!o.isSome) Θ)
def zM(ty ī:TE):TE:=λσ H Q=>ty σ H λy ο=>ī σ ο λx Θ=>P4 Q y x Θ
inductive Xo(D:qO)(σ:St)(v:V)(x:V)(y:V)(d:Hp):Prop
 |mk(a b:_)(_:x=.ref a)(_:B_ d a y v b)(_:D.nx σ b)
def Hs(ī ty ň:TE):TS:=λa σ H=>ň σ H λv ο=>ī σ ο λx Θ=>ty σ Θ λy b=>Xo a σ v x y b
section
variable{o i value:Ž}{pos Ň jm:kX}{ī ty ň:TE}
def pY(f:X.A.units+1<d_)(h:PE X o ī)(Á:PE X i ty)(j:Wu i):PE X (.Subscript o i pos)<|Zc ī ty:=by intro a k b l F m n;refine MH Cd.lookup j<|cH (h a k b l _ m n) λp s1 ⟨G,q,r,s,t⟩=>cH (Á a s1 b q _ r t) λH s2 u=>?_;obtain⟨I,v,d,w,x,y,z,e,A⟩:=u;subst z;obtain rfl:p=æ x:=s;exact⟨HY d e,N1 f d e w λJ s3 C E=>⟨y,v,C,E,A⟩⟩
def Fw(d:X.A.units+1<d_)(Á:PE X i ty)(e:PE X o ī):PC X .In i o<|Uc ty ī:=by intro a f b h C j k;refine cH (Á a f b h _ j k) λE s1 ⟨F,l,m,n,p⟩=>cH (e a s1 b l _ m p) λq s2 r=>?_;obtain⟨G,s,t,u,v,w,x,y,z⟩:=r;subst x;obtain rfl:q=æ v:=u;exact aa9 d t y n λs3 A=>⟨.bl w.isSome,s,A,D,z⟩
def pF(d:X.A.units+1<d_)(Á:PE X i ty)(e:PE X o ī):PC X .NotIn i o<|zM ty ī:=by intro a f b h C j k;refine cH (Á a f b h _ j k) λE s1 ⟨F,l,m,n,p⟩=>cH (e a s1 b l _ m p) λq s2 r=>?_;obtain⟨G,s,t,u,v,w,x,y,z⟩:=r;subst x;obtain rfl:q=æ v:=u;exact T3 d t y n λs3 A=>⟨.bl<|!w.isSome,s,A,D,z⟩
def p5(d:X.A.units+1<d_)(e:PE X o ī)(Á:PE X i ty)(f:PE X value ň)(h:kL value (B<|.Subscript o i Ň) pos.line X.env=pure Τ):
  PS X (.Assign [.Subscript o i Ň] value pos) (Hs ī ty ň):=by
 intro b j a k I l m;refine wpAny_Assign_Subscript (cH (f b j a k _ l m) λJ s1 ⟨K,n,p,q,r⟩=>cH (e b s1 a n _ p r) λs s2 ⟨L,t,u,v,w⟩=>cH (Á b s2 a t _ u w) λM s3 x=>?_) h;obtain⟨N,O,y,z,A,C,E,F,G⟩:=x;subst E;obtain rfl:s=æ A:=v;exact NG d y F z q λs4 H=>⟨a,C,H,G⟩
end
def Qi(h:ό)(a:ϟ<h.objs.size):cL P w H (h.push {cls:=.type "dict",data:=.dict #[]}) h.objs.size<|.dK []:=
 ⟨Ò _,Ş.mpr<|Ϛ<|ė a,[],.nil,Jo h⟩
def QG(h:ό)(a:ϟ<h.objs.size):cL P w H (h.push {cls:=.type "dict",data:=.dict #[]}) h.objs.size<|.dT []:=
 ⟨Ò _,Ş.mpr<|Ϛ<|ė a,[],.nil,_,#[],0,Ą _ D,⟨D,D,D⟩,D,D,fU⟩
def WI:TE:=λ_ H Q=>∀p,H p=g->Q (.ref p) (T H p<|.dK [])
def Wd:TE:=λ_ H Q=>∀p,H p=g->Q (.ref p) (T H p<|.dT [])
section
variable{pos:kX}
def P_:PE X (.Dict [] [] pos) WI:=λh b i j k d e=>
 Yy ⟨.ref b.heap.objs.size,_,d.laid (a:=b.heap.objs.size) (o:=.dK []) (t':=b.toks) (λ_ _ f=>ß _ f) (Õ _)<|Qi b.heap d.big,D,e _<|d.hok.fresh<|Õ _⟩
def gY:PE X (.Dict [] [] pos) Wd:=λh b i j k d e=>
 Yy ⟨.ref b.heap.objs.size,_,d.laid (a:=b.heap.objs.size) (o:=.dT []) (t':=b.toks) (λ_ _ f=>ß _ f) (Õ _)<|QG b.heap d.big,D,e _<|d.hok.fresh<|Õ _⟩
end
noncomputable def oA (Β more:J<|bW×V):J<|bW×V:=more.foldl (λb a=>c7 b a.1 a.2) Β
def KV.merge:∀{more:J<|bW×V} {Υ:J<|bW×z} {Β:J<|bW×V} {vs:J<|bW×z},KV more Υ->KV Β vs->KV (oA Β more) (merged vs Υ):=by
 intro more Υ Β vs e
 induction e generalizing Β vs with
 |nil=>intro a;exact a
 | @cons b a j k d l f=>
  intro h;have i:KV (c7 Β b.1 b.2)<|stored vs a.1 a.2:=by have:=h.put b.1 d.2;rw[<-d.1];exact this
  exact f i
theorem ua:∀(more Β:J<|bW×V),(L<|oA Β more)<=L Β+L more
 |[],Β=>by show L Β<=L Β+0;simp
 |a::b,Β=>by have d:=ua b<|c7 Β a.1 a.2;have e:=jo Β a.1 a.2;show(L<|oA (c7 Β a.1 a.2) b)<=_;rw[Ñ];lia
structure M2(X:Cx K)(o:Ž)(m:S)(ĝ:kX)(e f:Ž)(Ď:kX):Prop where
 base:eo o m X.env (Ŧ o X.env)=Ŧ o X.env
 few:((ϴ Ď<|ë [e,f] X.env).all (λx=> !x.1)&&(jT Ď<|er [] X.env).all (λx=>x.1.isSome) &&ã ((L ([e,f]:J Ž))+(L ([]:J nq))+(if([]:J nq).isEmpty then 0 else 1)<30))=U
 line:(ĝ.endLine==Ď.line)=U
 trees:ϴ Ď (ë [e,f] X.env)=[(Τ,Ŧ e X.env),(Τ,Ŧ f X.env)]
def IsD(H:Hp)(a:O):Prop:=(∃Β,Rd H a<|.dK Β)\/∃Β,Rd H a<|.dT Β
def QM{s:Í}(I:Inv X aC σ H s)(d:IsD H a):
  s.TypeIs (.ref a) "dict"/\(∀b,æ a=.ref b->∃ob,s.heap.get? b=B ob/\ob.dict=g)/\(a==ϟ)=Τ:=by
 rcases d with⟨l,f⟩|⟨l,f⟩
 .obtain⟨_,h,m,_,e⟩:=B8 I.hok f;refine⟨e.typeIs,λb i=>?_,h⟩;cases i;obtain⟨ob,_,_,j,k,_⟩:=e;exact⟨ob,j,k.2.1⟩
 .obtain⟨_,h,n,_,e⟩:=yv I.hok f;refine⟨e.typeIs,λb i=>?_,h⟩;cases i;obtain⟨ob,_,_,j,k,_⟩:=e;exact⟨ob,j,k.2.1⟩
section
variable{s:Í}{d:V}{u r:z}{o:É V}
def VQ(t:A.units+1<d_)(I:Inv X aC σ H s)(ς:jx H a y o)(m:bE y u)(n:bE d r)(h:∀p s',Inv X aC σ H s'->bE (o.getD d) p->Q p s'):
  ô (ă X.prog X.w) A (jS (.builtin "dict.get") [.ref a,u,r]) Q E s:=by
 rcases ς with⟨v,e,f,i,j⟩|⟨v,e,q,f,i,w,j⟩
 .subst i;obtain⟨x,k,C,l,b⟩:=B8 I.hok f;refine Cu qK b.typeIs EM (Dq _ _ _) (meets_dict_get_default (aZ X.prog X.w) a (yE m) k r) ⟨_,b.mapOf,h _ _ (I.tok _) ?_⟩;rw[j];exact(l.val e).getD n
 .subst i;cases(show u=æ q from m);obtain⟨x,k,z,l,b⟩:=yv I.hok f;refine Cu qK b.typeIs EM (Dq _ _ _) (meetsH_dict_get_default (ϗ<|aZ X.prog X.w) a q k r) ⟨gM t,e,z,qj I.hok w,b,h _ _ (I.tok _) ?_⟩;rw[j];exact(l.val e).getD n
end
inductive Tt(ty:TE)(ϣ:TE)(σ:St)(Q:VK)(x:V)(ο:Hp):Prop
 |mk (a:_) (_:x=.ref a) (_:IsD ο a) (_:ty σ ο λy Θ=>ϣ σ Θ λz b=>∃o,jx b a y o/\Q (o.getD z) b)
def WU(ī ty ϣ:TE):TE:=λσ H Q=>ī σ H λx ο=>Tt ty ϣ σ Q x ο
section
variable{o f:Ž}{ĝ Ď:kX}{ī ty ϣ:TE}
def HE(h:X.A.units+1<d_)(i:PE X o ī)(j:PE X e ty)(k:PE X f ϣ)(m:M2 X o "get" ĝ e f Ď):PE X (.Call (.Attribute o "get" ĝ) [e,f] [] Ď)<|WU ī ty ϣ:=by
 intro a l b n O p q;refine XG m.base m.few m.line Dr qK PySem.F.type_dict_get<|cH (i a l b n _ p q) λr s1 s=>?_;obtain⟨P,t,d,u,v,w,x,y⟩:=s;subst w;obtain rfl:r=æ v:=u;obtain⟨z,A,_⟩:=QM d x;refine⟨z,A,?_⟩;rw[m.trees];refine jU D<|s8<|jr<|cH (j a s1 b t _ d y) λQ s2 ⟨R,C,E,F,G⟩=> jr<|cH (k a s2 b C _ E G) λS s3 ⟨T,H,I,J,V,K,L⟩=>wH ?_
 exact VQ h I K F J λW s4 M N=>⟨_,H,M,N,L⟩
end
def B9:dR (.type "list") "keys"=pure g:=am_miss_of_fast<|by first|decide+kernel|rfl
def v7:entryFor table "dict.update.loop"=B qU.«dict.update.loop»:=entryFor_of_tree<|by kernel_rfl
theorem iM:plainId "dict.update.loop"=U:=by decide+kernel
def Eu{s:Í}{N:ŕ z}{k:M}{Q:É z->Í->Prop}(Ο:s.heap.get? a=B o)(e:o.cls=.type "list")(f:o.data=.seq N k)(i:o.dict=g)(m:A.handled=g)
  (h:∀h' tk,(∀b ob,s.heap.get? b=B ob->h'.get? b=B ob)->Q g {s with heap:=h',toks:=tk}):ô (ă prog w) A (getAttr? (.ref a) "keys") Q E s:=by
 obtain⟨t,u,v,n⟩:=o;simp only at e f i;subst e f i;obtain⟨p,q,r,tk,os⟩:=s;have j:∀l,(⟨p,q,r,l,os⟩:Í).TypeIs (.ref a) "list":=λ_=>⟨_,Ο,D⟩;have f1:=sub_AttributeError;have f3:=kq.lookup;have f4:=kq.bind<|.ref a;have x:=am_list_getattr_none
 repeat(any_goals(first|assumption|exact j _|((with_reducible show ô _ _ (jS (u6 "list.__getattribute__") _ _) _ _ _);refine uq kq (j _) am_entry_list_getattribute (PySem.F.args_list_getattribute_2 _ _) (meets_getattribute_miss_list a N k n "keys" _ B9 (by decide+kernel)<|by first|size_fits|decide+kernel) ⟨Ο,m,λh' l y d=>?_⟩)|wp_step))
 obtain⟨C,F,G⟩:=d.there;show ô _ _ (getattributeRaised _ _ _ _ _ _ _) _ _ _
 repeat(any_goals(first|assumption|wp_step))
 all_goals first|exact h _ _ d.keeps|(dsimp only;repeat(any_goals(first|assumption|exact h _ _ d.keeps|wp_step)))
theorem IG{Χ:OX->Í->Prop}{χ I l:O}{items:ŕ z}{res:z}(E:A.handled=g)(F:l≠I)(e:χ≠I)(G:χ≠l):
  ∀(İ:J<|bW×z) (i:M) (acc:J<|bW×z) (f:Z) (t:Xy) (s:Í),items.size=i+L İ->L acc+L İ<=sizeLine->
   (∀(j:M) (q:bW×z),İ[j]?=B q->∃(b:O) (u:z),items[i+j]?=B (.ref b)/\b≠χ/\b≠I/\Ga s.heap b #[u,q.2]/\pB q.1 u=U)->
   s.heap.IsListIter I l i->s.heap.IsList l items->s.heap.DictOf (aZ prog w) χ acc->
   (∀h' tk,h'.DictOf (aZ prog w) χ (merged acc İ)->(∀b o,b≠χ->b≠I->s.heap.get? b=B o->h'.get? b=B o)->Χ (.ok<|.ret res) {s with heap:=h',toks:=tk})->
   j4 (ă prog w) A (.builtin "dict.update.loop" ⟨[.ref χ,.ref I,.int f t,res],[]⟩) Χ s
 |[],i,acc,f,t,s,h,H,n,p,k,r,v=>by refine g8 v7 ?_;rw[eZ iM _];show ô _ A.in1 (z5 (.ref I)>>=_) _ _ s;refine Λ (vd (A:=A.in1) E p k (by first|exact jW (iF h)|(simp at h;simp;lia)) λh' K=>?_);show ô _ A.in1 (Builtin.Dict.addKeywords χ []>>=_) _ _ _;refine Λ<|Ê<|Ê ?_;exact v h' s.toks (r.extBut K e) λb o _ x a=>K b o x a
 |q::İ,i,acc,f,t,s,h,H,n,p,k,r,v=>by
  obtain⟨b,u,x,al,T,V,W⟩:=n 0 q D;rw[Ñ]at h H;refine g8 v7 ?_;rw[eZ iM _];show ô _ A.in1 (z5 (.ref I)>>=_) _ _ s;refine Λ (uo (x:=.ref b) p k (by simpa using x) λam X d=>?_);obtain⟨o,N,Y,an,aa⟩:=id<|V.extBut d.extBut T;show ô _ A.in1 (ni [æ b] _>>=_) _ _ _;refine Λ<|Ũ ?_;refine Λ<|wpAny_tryCatch ?_;refine Λ<|oN (T:="tuple") ⟨o,N,Y⟩ ?_;rw[à<|by first|decide|rfl|simp];refine Λ<|lK N aa<|Ê ?_;show ô _ A.in1 (ni [u,q.2]<|dictSet χ u q.2) _ _ _;refine Ũ<|wpAny_dictSet_pairs (knd:=aZ prog w) (k:=q.1) W (r.extBut d.extBut e) (λao ab m=>?_) aL;refine Ê ⟨ie iM _,IG (items:=items) E F e G İ (i+1) (stored acc q.1 q.2) (f+1) 0 _ (show items.size=i+1+L İ by lia) ?_ (λj ad a=>?_) ?_ ?_ ab λh' tk ae af=>?_⟩
  .grind[stored_length_le]
  .obtain⟨ag,ah,ap,P,Q,ai,aj⟩:=n (j+1) ad (by simpa using a);refine⟨ag,ah,?_,P,Q,(ai.extBut d.extBut Q).extBut m.extBut P,aj⟩;lia
  .exact X.at λak a=>m.extBut I ak (Ϛ e) a
  .exact(k.extBut d.extBut F).extBut m.extBut<|Ϛ G
  .exact v h' tk ae λy C R S a=>af y C R S<|m.extBut y C R<|d.extBut y C S a
def zo{s:Í}{l:O}{d:gf}{items:ŕ z}{prs:J<|bW×z}(v:A.handled=g)(k:s.heap.get? l=B d)(r:d.cls=.type "list")(P:d.dict=g)
  (x:d.data=.seq items n) (R:items.size=L prs) (ad:L prs<=sizeLine)
  (S:∀(j:M) (q:bW×z),prs[j]?=B q->∃(b:O) (u:z),items[j]?=B (.ref b)/\Ga s.heap b #[u,q.2]/\pB q.1 u=U)
  (h:∀h' tk,h'.DictOf (aZ prog w) s.heap.objs.size (merged [] prs)->(∀b o,s.heap.get? b=B o->h'.get? b=B o)->Q (.ref s.heap.objs.size) {s with heap:=h',toks:=tk}):
  ô (ă prog w) A (jS (.type "dict") [.ref l]) Q E s:=by
 refine callType_codes (Q₁:=λy C=>y=.ref s.heap.objs.size/\C={s with heap:=s.heap.push {cls:=.type "dict",data:=.dict #[]}}) EN (z7 _) Ds (Yz _ ⟨D,D⟩) ?_;rintro y C ⟨rfl,rfl⟩;have t:(s.heap.push {cls:=.type "dict",data:=.dict #[]}).DictOf (aZ prog w) s.heap.objs.size []:=Jo s.heap;have f:∀b o,s.heap.get? b=B o->(s.heap.push {cls:=.type "dict",data:=.dict #[]}).get? b=B o:=λb o a=>ß _ a;refine⟨t.typeIs,Cv _ _,?_⟩;refine Λ ?_;refine Λ<|mq t.typeIs ?_;show ô _ _ (pure (s.heap.objs.size,[æ l])) _ _ _;refine Ê ?_;show ô _ _ (yL "dict.__init__" s.heap.objs.size (.ref l) [] .none) _ _ _;refine Λ<|oN (T:="list") ⟨d,f _ _ k,r⟩ ?_;rw[à<|by first|decide|rfl|simp];refine Λ<|Eu (f _ _ k) r x P v λe T i=>?_;rw[à<|show(g:É z).isNone=U from D];refine Λ<|z8 ?_;have F:e.IsList l items:=⟨d,i _ _<|f _ _ k,r,n,x⟩;have m:s.heap.objs.size<e.objs.size:=by exact û<|i _ _<|Ą _ D
 refine Λ<|lF F ?_;have p:∀b o,e.get? b=B o->(e.push {cls:=.type "list_iterator",data:=.fields #[.ref l,.int 0 0]}).get? b=B o:=λb o a=>ß _ a;have G:l<s.heap.objs.size:=û k;have H:=IG (prog:=prog) (w:=w) (A:=A.in1) (Χ:=wants (λV W=>V=.none/\Q (.ref s.heap.objs.size) W) E) (χ:=s.heap.objs.size) (I:=e.objs.size) (l:=l) (items:=items) (res:=ž) v
  (ė<|fE G m) (ė m) (ki G) prs 0 [] 0 0
  {s with heap:=e.push {cls:=.type "list_iterator",data:=.fields #[.ref l,.int 0 0]},toks:=T} (by rw[R,ύ]) (by simp_all[ŭ,ύ])
  (λj q a=>by obtain⟨b,u,X,K,Y⟩:=S j q a;have N:b<s.heap.objs.size:=K.lt;exact⟨b,u,by rw[ύ];exact X,ė N,ė<|fE N m,K.keeps λae o Z=>p _ _<|i _ _<|f _ _ Z,Y⟩)
  ⟨_,Ą _ D,D,D⟩ (F.at λo a=>p _ _ a) ((t.at λo a=>i _ _ a).at λo a=>p _ _ a)
  (λh' tk aa ab=>⟨D,h h' tk aa λb o a=>ab b o (ė<|û a) (ė<|fE (û a) m)<|p _ _<|i _ _<|f _ _ a⟩)
 first
  |exact Ê ⟨ie iM _,H⟩
  |exact Λ<|Ê<|Ê ⟨ie iM _,H⟩
theorem Hi{aC:J<|O×gf}{σ:St}{H:Hp}{s:Í}(I:Inv X aC σ H s):∀{θ:J O} {Β:J<|bW×V},ď (λp a=>gb K H p [kV a.1,a.2]) θ Β->
  ∃prs:J<|bW×z,KV Β prs/\L prs=L θ/\∀(j:M) (q:bW×z),prs[j]?=B q->∃(b:O) (u:z),θ[j]?=B b/\Ga s.heap b #[u,q.2]/\pB q.1 u=U
 |_,_,.nil=>⟨[],.nil,D,λj q d=>by simp at d⟩
 |_,_,.cons (a:=p) (b:=a) f h=>by
  refine bx λF i=>?_;obtain⟨prs,k,l,m⟩:=Hi I h;obtain⟨G,n,o,_⟩:=I.tuple f;obtain⟨u,e,r,t,v⟩:=L0 n;apply i;subst r;refine⟨(a.1,e)::prs,.cons ⟨D,v⟩ k,by rw[Ñ,Ñ,l],λj q d=>?_⟩;cases j with
  |zero=>
   have x:(a.1,e)=q:=ĥ d;subst x;exact⟨p,u,D,o,yE (P:=X.prog) (w:=X.w) t⟩
  |succ j=>
   obtain⟨b,y,A,C,E⟩:=m j q (by simpa using d);exact⟨b,y,by simpa using A,C,E⟩
theorem F2:∀{θ:J O} {Μ:J z},bz (θ.map V.ref) Μ->Μ=θ.map æ
 |[],Μ,a=>by rw[iA]at a;cases a;rfl
 |e::θ,Μ,a=>by
  rw[þ]at a;cases a with
  |cons b d=>
   cases b;rw[þ,<-F2 d]
def KZ(l:X.calm=U):ig X (.type "dict") (λN H Q=>∃(a:O) (θ:J O) (Β:J<|bW×V),N=[.ref a]/\aN K H a (θ.map V.ref)/\ď (λp h=>gb K H p [kV h.1,h.2]) θ Β/\ ∀p,H p=g->Q (.ref p) (T H p<|.dK<|oA [] Β)):=by
 intro Z i aa H N ab Q b m d;obtain⟨a,θ,Β,n,o,q,d⟩:=d;subst n;obtain⟨j,r,s⟩:=rO m;subst r;cases s;obtain⟨ad,t,u,e⟩:=b.list o;have v:=F2 t;subst v;rw[Ε]at e;obtain⟨prs,k,f,w⟩:=Hi b q;obtain⟨ae,af,x,y,z,A⟩:=u;refine zo (prs:=prs) (b.ok.hd l) x y z A (by simp[f]) (f▸e) (λC E F=>?_) λag G I M=>?_
 .obtain⟨P,j,R,S,W⟩:=w C E F;exact⟨P,j,by simp[R],S,W⟩
 .have Y:(L<|oA [] Β)<=sizeLine:=by refine Ć (ua Β []) ?_;rw[ŭ,ύ,k.length,f];exact e
  exact⟨.ref i.heap.objs.size,T H i.heap.objs.size<|.dK<|oA [] Β,b.laid (t':=G) M (Õ _)<|show cL X.prog X.w _ _ _ (.dK<|oA [] Β) from⟨Y,Ş.mpr<|ki b.big,merged [] prs,KV.merge k .nil,I⟩,D,d _<|b.hok.fresh<|Õ _⟩
section
variable{s:Í}
def Inv.NZ{Æ:O}{ob:HO}(I:Inv X aC σ H s)(k:∀b o,b∉ch->s.heap.get? b=B o->h'.get? b=B o)(f:∀b∈ch,BY X aC H b)(m:s.heap.objs.size<=Æ)
  (y:cL X.prog X.w (T H Æ ob) h' Æ ob):Inv X aC σ (T H Æ ob) {s with heap:=h',toks:=t'}:=by
 have j:H Æ=g:=I.hok.fresh m;have n:∀b h,H b=B h->b∉ch:=λb h a z=>by have d:=(f b z).1;lia
 refine I.step (g':=s.gens) (d':=s.drawn) (ch:=ch) (λb i=>⟨(f b i).2.2.2.1,(f b i).2.1,(f b i).2.2.2.2.1,(f b i).2.2.2.2.2⟩) (λb o _ _ e a _=>k b o e a) (λb o _ _ e a _=>⟨o.slots,k b o e a⟩)
  (λb o _ a p=>?_) (λb o e a=>⟨o,k b o e a⟩) (λb q a=>?_) (λb o h a=>?_) (λb A a=>⟨#[],?_⟩) (λC r=>?_) (λb h a=>?_) I.bare
 .rw[au<|ė<|ĭ (û a) m];exact p
 .rw[au<|ao a j];exact a
 .rw[au<|ao a j];exact a
 .rw[au<|ao a j,a];rfl
 .obtain⟨o,t,u,v,w⟩:=r;exact⟨o,t,u,k _ o (λz=>(f _ z).2.1 D) v,w⟩
 .by_cases i:b=Æ
  .grind[af]
  .rw[au i]at a;refine(I.hok b h a).stay (λl x e d=>k l x ?_ d) (λl d=>au (ao d j)▸d) λl q d=>au (ao d j)▸d;rcases e with z|z
   .rw[z];exact n b h a
   .exact n l _ z
def Inv.lock{u:HO}(I:Inv X aC σ H s)(h:H d=B u)(i:UP<|B u):∃b,Inv X aC σ (T H d<|.jZ b u) s:=by
 have x:=I.hok d u h;have l:∃b,s.heap.get? d=B b:=by
  cases u with
  |Y m=>obtain⟨_,_,_,_,e⟩:=x;exact⟨_,e⟩
  |dK n=>obtain⟨_,_,_,_,f,_,_,e,_⟩:=x;exact⟨f,e⟩
  |dT n=>obtain⟨_,_,_,_,f,_,_,e,_⟩:=x;exact⟨f,e⟩
  |set q r=>obtain⟨f,_,_,_,e,_⟩:=x;exact⟨f,e⟩
  |aE t v w=>obtain⟨_,_,_,e,_⟩:=x;exact⟨_,e⟩
  |ext y=>obtain⟨_,⟨_,e⟩,_⟩:=x;exact⟨_,e⟩
  |_=>exact ŏ i
 obtain⟨b,e⟩:=l;have o:cL X.prog X.w (T H d<|.jZ b u) s.heap d<|.jZ b u:=by
  refine⟨e,x.stay (λj p _ a=>a) (λj a=>?_) λj m a=>?_⟩
  .rw[au (λk=>by rw[k,h]at a;cases a;exact i)];exact a
  .rw[au (λk=>by rw[k,h]at a;cases a;exact i)];exact a
 exact⟨b,I.write (x:=d) (e:=d) (t':=s.toks) (h':=s.heap) (h▸i) (.inl D) (λj p _ a=>a) ⟨b,e⟩ o⟩
def Inv.MR{u:HO}(I:Inv X aC σ H s)(h:H d=B u)(e:UP<|B u):∀ĳ a,X.V7 d≠B (.jZ ĳ a):=λĳ a f=>by have b:=I.base.Dj d ĳ a f;rw[h]at b;cases b;exact e
def Inv.unlock{r:gf}{u:HO}(I:Inv X aC σ H s)(h:H d=B (.jZ r u))(t:∀ĳ n,X.V7 d≠B (.jZ ĳ n)):Inv X aC σ (T H d u) s:=by
 have k:∀a j,H a=B j->(∀ĳ n,j≠.jZ ĳ n)->a≠d:=λa j b C f=>by
  grind
 have neN:∀a,H a=g->a≠d:=λa b f=>aL;refine⟨I.ok,I.os,I.bare,⟨I.base.keep,I.base.slot,λa j b m q=>?_,I.base.there,λa o b=>?_,λa j l b=>?_,λa v b=>?_⟩,I.loc,I.cell,?_,λl i b=>?_,λw x=>?_,λa j b=>?_,I.len⟩
 .rw[au<|neN a<|I.base.free a j b m q];exact I.base.free a j b m q
 .have e:=I.base.tups a o b;rw[au (k a _ e (λ_ _ f=>nomatch f))];exact e
 .rw[au (λf=>by rw[f]at b;exact t _ _ b)];exact I.base.Dj a j l b
 .obtain⟨y,e⟩:=I.base.G1 a v b;exact⟨y,by rw[au (k a _ e (λ_ _ f=>nomatch f))];exact e⟩
 .rw[au<|neN _ I.free];exact I.free
 .rw[au<|neN i<|I.jL l i b];exact I.jL l i b
 .obtain⟨b,m,z⟩:=I.pin w x;exact⟨b,au (neN _ m)▸m,z⟩
 .by_cases p:a=d
  .rw[p,af]at b;cases b;rw[p];obtain⟨_,l⟩:=I.hok d _ h;exact l.stay (λi A _ e=>e) (λi e=>by rw[au (k i _ e (λ_ _ f=>nomatch f))];exact e) λi o e=>by rw[au (k i _ e (λ_ _ f=>nomatch f))];exact e
  .rw[au p]at b;exact(I.hok a j b).stay (λi A _ e=>e) (λi e=>by rw[au (k i _ e (λ_ _ f=>nomatch f))];exact e) λi o e=>by rw[au (k i _ e (λ_ _ f=>nomatch f))];exact e
end
def ZI(t:TS):TS:=λe σ H=>∃d u,H d=B u/\UP (B u)/\∀a,t ⟨λb R=>R d=B (.jZ a u)/\e.nx b (T R d u),λv R=>R d=B (.jZ a u)/\e.rt v (T R d u),λb R=>R d=B (.jZ a u)/\e.bk b (T R d u),λb R=>R d=B (.jZ a u)/\e.ct b (T R d u)⟩ σ<|T H d<|.jZ a u
def L3{st:dP}{t:TS}(h:PS X st t):PS X st<|ZI t:=by
 intro m n o v w f k;obtain⟨x,y,i,j,k⟩:=k;obtain⟨p,q⟩:=f.lock i j;refine cH (h m n o _ _ q<|k p) λr s1 a=>?_;cases r with
 |next=>obtain⟨b,l,d,e,a⟩:=a;exact⟨b,_,d.unlock e<|f.MR i j,a⟩
 |brk=>obtain⟨b,l,d,e,a⟩:=a;exact⟨b,_,d.unlock e<|f.MR i j,a⟩
 |cont=>obtain⟨b,l,d,e,a⟩:=a;exact⟨b,_,d.unlock e<|f.MR i j,a⟩
 |ret z=>obtain⟨s,b,l,d,u,e,a⟩:=a;exact⟨s,b,_,d.unlock e<|f.MR i j,u,a⟩
def E4{s:Í}{Χ:It->Hp->Prop}{a:It}{b:M->ό->Prop}{tk:M}(I:Inv X aC σ H s)(o:gf)
  (Æ:Fj X.prog X.w K ĉ a [s.heap.objs.size] s.heap.objs.size b) (st:b 0<|s.heap.push o) (q:Χ a H):PIE X aC σ ĉ Χ (.ref s.heap.objs.size) {s with heap:=s.heap.push o,toks:=tk}:=by
 refine⟨s.heap.objs.size,[s.heap.objs.size],b,a,H,D,I.kept λe h d=>ß _ d,Æ,st,λe f=>?_,q⟩;have d:e=s.heap.objs.size:=by simpa using f
 subst d;exact I.NQ (Õ _)<|I.hok.fresh<|Õ _
noncomputable def ZX (x:S):It:=⟨λi _=>i<x.cps.size,λi H v R=>R=H/\∃c,x.cps[i]?=B c/\v=.str ⟨#[c]⟩,λi _=>x.cps.size<=i⟩
def GY(a:O)(x:S)(t:Xy)(ty:jC)(l:ty="str_ascii_iterator"\/ty="str_iterator"):
  Fj P w K ĉ (ZX x) [a] a (λi h=>h.IsStrIter a ty x t i) where
 mem:=bh
 obj:=λi h st d f=>by
  have e:d=a:=by simpa using f
  subst e;obtain⟨b,e,r,I⟩:=st;exact⟨b,e,λJ C=>by rw[I]at C;cases C⟩
 keep:=λi h m st L=>let⟨b,M,N⟩:=st;⟨b,L a bh b M,N⟩
 item:=by
  intro n u v k i Q s R E F j o st y;subst u v;refine bx λT z=>?_;obtain⟨p,f1,f2,f3,f4,q⟩:=o a bh;apply z;have V:Walks n.prog n.w n.A a [a] [a] x.cps.size (SignAt x) λi h=>h.IsStrIter a ty x t i:=by
   rcases l with e|e
   .rw[e];exact Walks.strAscii (j.ok.hd k) a x t
   .rw[e];exact Walks.strWide (j.ok.hd k) a x t
  have W:["enumerate","zip","dict_itemiterator","dict_reverseitemiterator","odict_iterator","itertools.zip_longest","itertools.pairwise"].contains ty=Τ:=by
   rcases l with e|e
   .rw[e];decide
   .rw[e];decide
  refine V.item i s _ _ y st λJ m X Y G Z=>?_;refine bx λT z=>?_;obtain⟨r,aa,ab,rfl⟩:=Y;obtain⟨af,e,ad,ae⟩:=id G;apply z;exact⟨_,D,DH (s:={s with heap:=m,toks:=X}) e ad ae W ⟨.str ⟨#[r]⟩,E,j.turned (λd b f e=>Z d b (by simpa using f) e) p f1 f3 f4 q,⟨aa,D⟩,⟨D,r,ab,D⟩,G,λd f=>(o d f).1⟩⟩
 done:=by
  intro n u v k i Q s R E F j o st y;subst u v;obtain⟨p,f1,f2,f3,f4,q⟩:=o a bh;have H:x.cps[i]?=g:=jW y;rcases l with e|e
  .rw[e]at st;exact wpAny_pyNext_ascii_end (j.ok.hd k) st H λm A=>⟨D,j.turned (t':=s.toks) (λd b f e=>A d b f e) p f1 f3 f4 q⟩
  .rw[e]at st;exact wpAny_pyNext_wide_end (j.ok.hd k) st H λm A=>⟨D,j.turned (t':=s.toks) (λd b f e=>A d b f e) p f1 f3 f4 q⟩
 self:=λag i s ah F st h=>by
  rcases l with e|e
  .rw[e]at st;exact wpAny_pyIter_striter_ascii st h
  .rw[e]at st;exact wpAny_pyIter_striter_wide st h
inductive Z0(Χ:It->Hp->Prop)(v:V)(ο:Hp):Prop
 |mk(x:_)(_:v=.str x)(_:Χ (ZX x) ο)
def aaW(Â:TE):TI:=λσ H Χ=>Â σ H λv ο=>Z0 Χ v ο
def W5(i:PE X e Â):PI X ĉ e<|aaW Â:=by
 intro j k l m s n o;refine cH (i j k l m _ n o) λt s1 p=>?_;obtain⟨u,v,b,q,a,r,d⟩:=p;subst r;obtain⟨f,rfl⟩:=q;cases h:a.cps.all (·<128)
 .exact wpAny_pyIter_wide h<|E4 (tk:=s1.toks) b _ (GY _ a f "str_iterator"<|.inr D) ⟨_,Ą _ D,D,D⟩ d
 .exact wpAny_pyIter_ascii h<|E4 (tk:=s1.toks) b _ (GY _ a f "str_ascii_iterator"<|.inl D) ⟨_,Ą _ D,D,D⟩ d
section
variable{s:Í}
def EI{ï:M}(f:(d==ϟ)=Τ)(a:s.heap.get? d=B o)(h:o.ExactDict)(e:o.data=.dict Α ï)
  (i:Q (.ref s.heap.objs.size) {s with heap:=s.heap.push {cls:=.type "dict_keyiterator",data:=.fields #[.ref d,.int 0 0,.int Α.size 0,.int ï 0]}}):
  ô (ă prog w) A (OY<|.ref d) Q E s:=by
 have b:s.TypeIs (.ref d) "dict":=⟨o,a,h.1⟩;refine XH b Vg<|s_ Vg b F.entry_dict_iter ?_ (F.args_dict_iter_1 _);refine Λ ?_;unfold Builtin.Dict.dictSlotNone;refine Λ<|mq b ?_;show ô _ _ (pure<|æ d) _ _ s;refine Ê ?_;show ô _ _ (z9 d>>=_) _ _ s;unfold z9;rw[Ó<|f▸Ę];refine Λ<|Ê ?_;refine Λ<|lM a e ?_;refine Λ<|Gw a e ?_;refine Λ<|lJ<|Ê ⟨_,D,"dict_keyiterator",_,⟨_,Ą _ D,D⟩,Ϧ.lookup,?_⟩;simpa[mz] using i
def Dc{a:O}{ï:M}{h:gf}{j:ez}{Q:É z->Í->Prop}(b:s.heap.IsKeyIter a d i n ï)(k:s.heap.get? d=B h)(l:h.data=.dict Α ï)
  (o:Α.size=n) (Ο:Α[i]?=B j) (p:∀h',h'.IsKeyIter a d (i+1) n ï->ϡ a s.heap h'->Q (B j.key) {s with heap:=h'}):ô (ă prog w) A (z5<|.ref a) Q E s:=by
 obtain⟨u,f,q,e⟩:=id b;unfold z5;refine Λ<|MX<|tg (name:=yM "__next__") b.typeIs Ϧ<|s_ Ϧ b.typeIs Du ?_ (Cw _)
 refine Λ<|Ê ?_;refine Λ ?_;refine Λ ?_
 first|refine Λ (gE b.typeIs<|Ê ?_)|refine Λ<|jX b.typeIs<|Ê ?_
 refine Λ<|wpAny_fieldsOf f e ?_;simp only[bM,wu,lH];show ô _ _ (if(æ d==ž) then _ else _) _ _ s;rw[Ó<|show¬((æ d==ž)=U) from Ę];refine Λ<|Ê ?_;refine Λ<|lM k l ?_;rw[Ó (by rw[o];simp)];refine Λ<|Ê ?_;refine Λ<|Gw k l ?_;rw[Ó bh];refine Ê ?_;obtain⟨r,t⟩:=Ĵ.mp Ο;simp[show¬((i:Z)<0) from bh,lH,Ţ,ϕ r];refine Λ ?_
 first|refine Λ (gE b.typeIs<|Ê ?_)|refine Λ<|jX b.typeIs<|Ê ?_
 refine Λ<|RN b.typeIs ?_;show ô _ _ (setField (.ref a) 1 (mz<|(i:Z)+1)>>=_) _ _ s;refine Λ<|lN f e bh ?_;have m:(s.heap.update a (fK (·.setIfInBounds 1 (mz<|(i:Z)+1)))).IsKeyIter a d (i+1) n ï:=
  ⟨_,Ū _ f<|gO<|gr e _,(RO ..).trans q,by rw[gr e];simp[mz]⟩
 refine Λ<|Ũ ?_;refine Λ (RN (s:={s with heap:=s.heap.update a (fK (·.setIfInBounds 1 (mz<|(i:Z)+1)))}) m.typeIs ?_);show ô _ _ (pure Α[i].key) _ _ _;rw[t];exact Ê<|Ê ⟨_,D,Ê<|p _ m (eE ..)⟩
def vH{b:O}{ï:M}{e:gf}{Q:É z->Í->Prop}(m:A.handled=g)(a:s.heap.IsKeyIter b d i n ï)(f:s.heap.get? d=B e)(h:e.data=.dict Α ï)
  (j:Α.size=n) (o:n<=i) (p:∀h',Heap.ExtBut b s.heap h'->Q g {s with heap:=h'}):ô (ă prog w) A (z5<|.ref b) Q E s:=by
 obtain⟨q,k,r,l⟩:=id a;unfold z5;refine Λ<|MX<|tg (name:=yM "__next__") a.typeIs Ϧ<|s_ Ϧ a.typeIs Du ?_ (Cw _)
 refine Λ<|Ê ?_;refine Λ ?_;refine Λ ?_
 first|refine Λ (gE a.typeIs<|Ê ?_)|refine Λ<|jX a.typeIs<|Ê ?_
 refine Λ<|wpAny_fieldsOf k l ?_;simp only[bM,wu,lH];show ô _ _ (if(æ d==ž) then _ else _) _ _ s;rw[Ó<|show¬((æ d==ž)=U) from Ę];refine Λ<|Ê ?_;refine Λ<|lM f h ?_;rw[Ó (by rw[j];simp)];refine Λ<|Ê ?_;refine Λ<|Gw f h ?_;rw[Ó bh];refine Ê ?_;simp[show¬((i:Z)<0) from bh,lH,Ţ,jW<|j▸o];refine Λ ?_
 first|refine Λ (gE a.typeIs<|Ê ?_)|refine Λ<|jX a.typeIs<|Ê ?_
 show ô _ _ (setField (.ref b) 0 .none>>=_) _ _ s;refine Λ<|lN k l bh ?_;show ô _ _ (newExc (.type "StopIteration") []>>=_) _ _ _;refine Λ ?_;simp[newExc,newTuple];refine Λ (lJ ?_ (by size_fits));refine Λ (m:=firstArgMember _ _) (wpAny_of_eq (a:=ž) (by first|rfl|(simp only[firstArgMember];rfl)) ?_);refine lJ ?_ (by size_fits);refine Λ<|wpAny_handled ?_;rw[show A.in1.handled=g from m];refine Λ<|Ê<|wpAny_throw ?_;refine Λ<|wpAny_isInstance (T:="StopIteration") (b:=U) ⟨_,Ą _ D,D⟩ isSubtype_stop ?_;exact Ê<|p _<|((eE ..).extBut.push _).push _
end
def WD{ñ:Type}{Β:J<|ñ×V}{vs:J<|ñ×z}(h:KV Β vs):∀{i:M} {k:ñ} {v:V},Β[i]?=B (k,v)->∃u,vs[i]?=B (k,u)/\bE v u:=by
 induction h with
 |nil=>intro i k v a;simp at a
 | @cons f b j l d m e=>
  intro i k v a;cases i with
  |zero=>
   simp[qu,iZ]at a;subst a;refine⟨b.2,?_,d.2⟩;simp_all[qu,Ğ,LC]
  |succ n=>
   simp[fV]at a⊢;exact e a
def m5{Ν j:Type}{G:Ν->j->Prop}{e:J Ν}{f:J j}(h:ď G e f):∀{i:M} {a:Ν},e[i]?=B a->∃b,f[i]?=B b/\G a b:=by
 induction h with
 |nil=>intro i a d;simp at d
 | @cons a b e f k m l=>
  intro i n d;cases i with
  |zero=>
   simp[qu,iZ]at d;subst d;exact⟨b,D,k⟩
  |succ o=>
   simp[fV]at d⊢;exact l d
def Ru{k:bW}{u:z}(h:pB k u=U):bE (kV k) u:=by
 rcases cT h with⟨b,a,rfl,rfl⟩|⟨d,a,rfl,rfl⟩
 .exact⟨a,D⟩
 .exact⟨a,D⟩
section
variable{s:Í}
def Inv.WJ{Β:J<|bW×V}(I:Inv X aC σ H s)(h:H d=B (.jZ o<|.dK Β)):
  (d==ϟ)=Τ/\s.heap.get? d=B o/\o.ExactDict/\∃(Α:ŕ ez) (ï:M) (vs:J<|bW×z),o.data=.dict Α ï/\Α.size=L Β/\KV Β vs/\s.heap.DictAt (aZ X.prog X.w) d vs ï:=by
 refine bx λm k=>?_;obtain⟨a,n,l,vs,b,p,Α,ï,e,f,i,j⟩:=I.hok d _ h;apply k;rw[a]at e;cases e;refine⟨l,a,f,Α,ï,vs,i,?_,b,o,Α,a,f,i,j⟩;have q:=j.2.1.length;have r:L Β=L vs:=Paired.length b;simp_all
def Inv.Vt(I:Inv X aC σ H s)(h:H d=B (.jZ o<|.dT Β)):
  (d==ϟ)=Τ/\s.heap.get? d=B o/\o.ExactDict/\∃(Α:ŕ ez) (ï:M),o.data=.dict Α ï/\Α.size=L Β/\
   ∀(i:M) (k:J bW) (v:V),Β[i]?=B (k,v)->∃(a:ez) (q:O),Α[i]?=B a/\a.key=.ref q/\H q=B (.bO<|k.map kV):=by
 refine bx λy m=>?_;obtain⟨b,z,n,e,f,A,Α,ï,j,p,r,l,_⟩:=I.hok d _ h;apply m;rw[b]at j;cases j;refine⟨n,b,p,Α,ï,r,?_,λi k v t=>?_⟩
 .have C:Α.size=L e:=Gx l;have E:L Β=L e:=Paired.length f;simp_all
 .obtain⟨u,w,F,x,_⟩:=m5 f t;have q:=entry_at l i;rw[w]at q;exact⟨_,u.2.1,q,D,x⟩
end
noncomputable def Itk (d:O) (o:gf) (Β:J<|bW×V):It:=
 ⟨λi H=>H d=B (.jZ o<|.dK Β)/\i<L Β,λi H x R=>R=H/\∃k v,Β[i]?=B (k,v)/\x=kV k,λi H=>H d=B (.jZ o<|.dK Β)/\L Β<=i⟩
noncomputable def Rt (d:O) (o:gf) (Β:J<|J bW×V):It:=
 ⟨λi H=>H d=B (.jZ o<|.dT Β)/\i<L Β,λi H x R=>R=H/\∃(k:J bW) (v:V) (q:O),Β[i]?=B (k,v)/\x=.ref q/\H q=B (.bO<|k.map kV),λi H=>H d=B (.jZ o<|.dT Β)/\L Β<=i⟩
def zL{a:ŕ ez}{ï b:M}(h:o.data=.dict Α ï)(h':o.data=.dict a b):a=Α/\b=ï:=by lia
section
variable{ï:M}
def M9{Β:J<|bW×V}(b:O)(C:o.data=.dict Α ï):Fj P w K ĉ (Itk d o Β) [b] b (λi h=>h.IsKeyIter b d i (L Β) ï) where
 mem:=bh
 obj:=λi h st e f=>by
  have a:e=b:=by simpa using f
  subst a;obtain⟨l,a,E,q⟩:=st;exact⟨l,a,λF G=>by rw[q]at G;cases G⟩
 keep:=λi h m st k=>st.at λl a=>k b bh l a
 item:=by intro aa r t H i ab s ad I M j n st u;subst r t;refine bx λao ae=>?_;obtain⟨v,x⟩:=u;obtain⟨y,f1,f2,f3,f4,z⟩:=n b bh;obtain⟨af,N,ag,ah,ai,Q,p,R,A,S⟩:=j.WJ v;obtain⟨rfl,rfl⟩:=zL C p;obtain⟨⟨k,F⟩,T⟩:∃aj,Β[i]?=B aj:=⟨Β[i],ą x⟩;obtain⟨ap,ak,aq⟩:=WD A T;apply ae;have W:L Β=L Q:=Paired.length A;rw[W]at st;refine wpAny_pyNext_dict_item st S ak λX m al Y am=>?_;obtain⟨l,a,E,q⟩:=id Y;refine⟨X,D,DH (s:={s with heap:=m}) a E q bM ⟨kV k,I,j.turned (t':=s.toks) (λe Z f a=>(am.2 e f).trans a) y f1 f3 f4 z,Ru<|show pB k X=U from al,⟨D,k,F,T,D⟩,?_,λe f=>(n e f).1⟩⟩;show m.IsKeyIter b d (i+1) (L Β) _;rw[W];exact Y
 done:=by intro aa r t H i ab s ad I M j n st u;subst r t;obtain⟨v,x⟩:=u;obtain⟨y,f1,f2,f3,f4,z⟩:=n b bh;obtain⟨af,N,ag,ah,ai,Q,p,R,A,S⟩:=j.WJ v;obtain⟨rfl,rfl⟩:=zL C p;exact vH (j.ok.hd H) st N p R x λm an=>⟨D,j.turned (t':=s.toks) (λe Z f a=>an e Z f a) y f1 f3 f4 z⟩
 self:=λar i s au M st h=>wpAny_pyIter_keyiter st h
def JY(b:O)(G:o.data=.dict Α ï):Fj P w K ĉ (Rt d o Β) [b] b (λi h=>h.IsKeyIter b d i (L Β) ï) where
 mem:=bh
 obj:=λi h st e f=>by
  have a:e=b:=by simpa using f
  subst a;obtain⟨l,a,H,p⟩:=st;exact⟨l,a,λq I=>by rw[p]at I;cases I⟩
 keep:=λi h r st m=>st.at λl a=>m b bh l a
 item:=by intro W t u J i X s Y M N j n st v;subst t u;refine bx λam Z=>?_;obtain⟨x,y⟩:=v;obtain⟨z,f1,f2,f3,f4,A⟩:=n b bh;obtain⟨aa,C,ab,ad,ae,k,E,Q⟩:=j.Vt x;obtain⟨rfl,rfl⟩:=zL G k;obtain⟨⟨m,q⟩,R⟩:∃af,Β[i]?=B af:=⟨Β[i],ą y⟩;obtain⟨ag,S,ah,ai,aj⟩:=Q i m q R;apply Z;refine Dc st C k E ah λr T ak=>?_;obtain⟨l,a,H,p⟩:=id T;exact⟨ag.key,D,DH (s:={s with heap:=r}) a H p bM ⟨.ref S,M,j.turned (t':=s.toks) (λe V f a=>(ak.2 e f).trans a) z f1 f3 f4 A,ai,⟨D,m,q,S,R,D,aj⟩,T,λe f=>(n e f).1⟩⟩
 done:=by intro W t u J i X s Y M N j n st v;subst t u;obtain⟨x,y⟩:=v;obtain⟨z,f1,f2,f3,f4,A⟩:=n b bh;obtain⟨aa,C,ab,ad,ae,k,E,Q⟩:=j.Vt x;obtain⟨rfl,rfl⟩:=zL G k;exact vH (j.ok.hd J) st C k E y λr al=>⟨D,j.turned (t':=s.toks) (λe V f a=>al e V f a) z f1 f3 f4 A⟩
 self:=λan i s ao N st h=>by refine XH st.typeIs EO<|s_ EO st.typeIs F.entry_dict_keyiterator_iter ?_ (F.args_dict_keyiterator_iter_1 _);show ô _ _ (ret<|.ref b) _ _ s;exact Ê ⟨_,D,"dict_keyiterator",_,st.typeIs,Ϧ.lookup,h⟩
end
def ZG(ī:TE):TI:=λσ H Χ=>ī σ H λx ο=>∃d o,x=.ref d/\((∃Β,ο d=B (.jZ o<|.dK Β)/\Χ (Itk d o Β) ο)\/∃Β,ο d=B (.jZ o<|.dT Β)/\Χ (Rt d o Β) ο)
section
variable{ī:TE}{ĝ Ď:kX}
def LZ(l:PE X e ī):PI X ĉ e<|ZG ī:=by
 intro m n o p A q r;refine cH (l m n o p _ q r) λs s1 t=>?_;obtain⟨C,E,d,u,v,F,w,a⟩:=t;subst w;obtain rfl:s=æ v:=u;rcases a with⟨x,f,a⟩|⟨x,f,a⟩
 .obtain⟨h,i,j,y,z,G,b,k,H,I⟩:=d.WJ f;refine EI h i j b<|E4 (tk:=s1.toks) d _ (M9 _ b) ⟨_,Ą _ D,D,?_⟩ a;rw[k]<;>rfl
 .obtain⟨h,i,j,y,z,b,k,J⟩:=d.Vt f;refine EI h i j b<|E4 (tk:=s1.toks) d _ (JY _ b) ⟨_,Ą _ D,D,?_⟩ a;rw[k]<;>rfl
end
noncomputable def U1 (K:Ζ) (a:O):It:=
 ⟨λi H=>∃(N:J V) (x:V),aN K H a N/\N[i]?=B x,λi H v R=>∃Æ x,v=.ref Æ/\H Æ=g/\R=T H Æ (.bO [.int (i:M),x])/\∀N,aN K H a N->N[i]?=B x,λi H=>∃N:J V,aN K H a N/\L N<=i⟩
def N8{Y:J Ž}{aa:M}{jm:kX}(a e f:O):
  Fj P w K (.Tuple Y aa jm) (U1 K a) [e,f] e (λi h=>(∃n,IsEnum h e f ((i:M):Z) n)/\h.IsListIter f a i/\e≠f) where
 mem:=bh
 obj:=λi h st d j=>by
  obtain⟨⟨n,k⟩,⟨p,N,v,az⟩,_⟩:=st
  grind
 keep:=λi h x st Q=>let⟨⟨n,k⟩,ab,o⟩:=st;⟨⟨n,Q e bh _ k⟩,ab.at λp l=>Q f bh p l,o⟩
 item:=by
  intro q y A v i R b S C V m r st E;subst y A;refine bx λaA ad=>?_;obtain⟨⟨n,k⟩,s,o⟩:=st;obtain⟨ae,t,u,F⟩:=E;obtain⟨af,G,H,ag⟩:=m.list u;obtain⟨I,ah,ai⟩:=G.get F;apply ad;have W:e<b.heap.objs.size:=û k;refine wpAny_pyNext_enum_item k s H.isList (x:=I) (by simpa using ah) o λx N aj ak aB al=>?_;refine⟨_,D,wpAny_letOwnedTupleGo_enum (s:={b with heap:=x,toks:=b.toks+1}) N λX am L=>?_⟩;have an:cL q.prog q.w (T C b.heap.objs.size<|.bO [.int (i:M),t]) X b.heap.objs.size<|.bO [.int (i:M),t]:=
   ⟨by show 2<=sizeLine;decide,[.int i b.toks,I],.cons ⟨_,D⟩<|.cons ai .nil,⟨_,(L.2 _<|ki W).trans ak,D,_,D⟩⟩
  have ao:Inv q R S (T C b.heap.objs.size<|.bO [.int (i:M),t]) {b with heap:=X,toks:=b.toks+1}:=
   m.NZ (ch:=[e,f]) (λd ap j l=>(L.2 d λz=>j<|by simp[z]).trans<|al d ap (λz=>j<|by simp[z]) (λz=>j<|by simp[z]) l) r (Õ _) an
  refine⟨.ref b.heap.objs.size,_,ao,D,⟨_,t,D,m.hok.fresh<|Õ _,D,λaC aq=>m.Jb aq u▸F⟩,⟨⟨I,?_⟩,aj.at λp l=>(L.2 f<|Ϛ o).trans l,o⟩,λd j=>?_⟩
  .rw[(by rfl:((i+1:M):Z)=(i:Z)+1)];exact am
  .have ar:d<b.heap.objs.size:=by
    have av:d=e\/d=f:=by simpa using j
    rcases av with z|z
    .rw[z];exact W
    .rw[z];exact by obtain⟨_,l,_⟩:=s;exact û l
   rw[au<|ė ar];exact(r d j).1
 done:=by intro q y A v i R b S C V m r st E;subst y A;obtain⟨⟨n,k⟩,s,o⟩:=st;obtain⟨ae,u,F⟩:=E;obtain⟨af,G,H,ag⟩:=m.list u;obtain⟨aw,f1,f2,f3,f4,ax⟩:=r f bh;have aD:=G.length;exact wpAny_pyNext_enum_end (m.ok.hd v) k s H.isList (by simp;simp_all) λx ay=>⟨D,m.turned (t':=b.toks) (λd p j l=>ay d p j l) aw f1 f3 f4 ax⟩
 self:=λaE i b aF V st h=>let⟨⟨_,k⟩,_⟩:=st;XI k h
inductive Vy(K:Ζ)(Χ:It->Hp->Prop)(vs:J V)(ο:Hp):Prop
 |mk(a N:_)(_:vs=[.ref a])(_:aN K ο a N)(_:Χ (U1 K a) ο)
def Zm(K:Ζ)(È:TA):TI:=λσ H Χ=>È σ H λvs ο=>Vy K Χ vs ο
def sQ{K:Ζ}{X:Cx K}{e:Ž}{È:TA}{p pos jm:kX}{i:J Ž}{j:M}(k:Gl X "enumerate")(l:X.mg "enumerate"=g)(m:PA X [e] È)(n:ë [e] X.env=[(Τ,Ŧ e X.env)]:=by rfl):
  PI X (.Tuple i j jm) (.Call (.Name "enumerate" p) [e] [] pos) (Zm K È):=by
 intro o q r s P d t;refine Call_<|BP d k l boot_enumerate<|kM (cH (m pos o q r s _ d t) λQ s1 u=>?_) n D;obtain⟨R,v,a,w,x⟩:=u;obtain⟨y,S,A,C,E⟩:=x;subst A;cases w with
 |cons F G=>
  cases G;cases F;obtain⟨T,V,H,W⟩:=a.list C;refine call_enumerate_list H.isList λY f I Z L=>XI f ?_;refine⟨s1.heap.objs.size+1,[s1.heap.objs.size+1,s1.heap.objs.size],_,_,v,D,a.kept (t':=s1.toks) L,N8 y (s1.heap.objs.size+1) s1.heap.objs.size,⟨⟨.none,f⟩,I,Nat.succ_ne_self _⟩,λb N=>?_,E⟩;have O:b=s1.heap.objs.size+1\/b=s1.heap.objs.size:=by simpa using N
  have h:s1.heap.objs.size<=b:=by
   rcases O with z|z
   .simp_all[Nat.le_add_right]
   simp_all[Õ]
  exact a.NQ h<|a.hok.fresh h
namespace Bits
end Bits
section
namespace TL
open PySem.Builtin PySem.Builtin.Str PySem.StrLaws
end TL
end
namespace Att
section
open PySem.W PySem.Calls
end
end Att
noncomputable def fH (s:dP) (j:M):dP:=match s with
 | .ClassDef _ _ _ ť _ _ _ _ _ _ _=>ť.getD j<|.Pass ⟨0,0,0,0⟩
 |_=>.Pass ⟨0,0,0,0⟩
noncomputable def qb (s:dP):OF:=match s with
 | .FunctionDef _ a _ _ _ _ _ _ _ _=>a
 |_=>{posonlyargs:=[],args:=[],vararg:=g,kwonlyargs:=[],kw_defaults:=[],kwarg:=g,defaults:=[]}
noncomputable def eY (s:dP):J dP:=match s with
 | .FunctionDef _ _ b _ _ _ _ _ _ _=>b
 |_=>[]
noncomputable def ay (s:dP):kK:=match s with
 | .FunctionDef _ _ _ _ _ _ ü _ _ _=>ü
 |_=>{kind:=.function,names:=[],isGenerator:=Τ,isCoroutine:=Τ}
abbrev c9:E5:=λ_ _ _ _ _ _=>Ϡ
abbrev E0:XK:=λ_ _ _=>Ϡ
def aG:jb c9 X E0:=λ_ _ _ _ _ _ _ a=>a.elim
structure UO(K:Ζ)(x ì:S)(st:dP)(f:O)(Ä:jR):Prop where
 ex:∃(oc:z) (b:É O) (kV doc pm:z) (an:É O) (a ct:z) (d:ŕ<|É z),
  Ä=eB x ì (qb st) (eY st) (ay st) .none kV doc pm an a ct/\K.lookup f=B ⟨oc,b,.func Ä,d⟩/\mD K a ì=U
 kp:ũ K (.ref f)=U
section
variable{base:ό}
theorem UO.ok{x ì:S}{st:dP}{f:O}{Δ:J S}{k:M}{Ã:Sp}(b:UO K x ì st f Ä)(χ:aB Δ θ<|ay st)(len:∀vs H Q E,Ã vs H Q E->L vs=L θ)
  (d:∀(a:z) (A:ź) (outer:J sG) (s:Í) (H:Hp) (vs:J V) (Q:VK) (E:XK),c6 k (A.deeper<|gK ì (ay st) s.heap.objs.size f a)->Ã vs H Q E-> ∃t,zq (o8 c9 P w K η base Δ ì (ay st) f a A outer s H E).SI (eY st) t/\t {nx:=λ_ R=>Q .b_ R,rt:=Q} (start Δ vs) H):lZ P w K η base c9 (k+1) f Ä θ Ã:=by
 obtain⟨n,o,kV,p,q,r,a,u,v,rfl,e,h⟩:=b.ex;refine Pg e h χ len λA outer s H vs Q E i j=>?_;obtain⟨t,l,m⟩:=d a A outer s H vs Q E i j;exact⟨t,l.SI,m⟩
def UO.binds{x ì:S}{st:dP}{f:O}(i:UO K x ì st f Ä)
  (h:∀(kV a b:z) (d:É O) (e ct:z) (Μ:J z),L Μ=L θ->R8 (eB x ì (qb st) (eY st) (ay st) .none kV a b d e ct) ⟨Μ,[]⟩=pure (θ.zip Μ)):jl K Ä θ []:=by
 obtain⟨j,k,kV,a,b,d,e,ct,l,rfl,m,n⟩:=i.ex;exact .all<|h kV a b d e ct
def WV{x ì:S}{st:dP}{f:O}{oc:z}{h b:É O}{i:ŕ<|É z}{kV d e a ct:z}(l:K.lookup f=B ⟨oc,h,.func<|eB x ì (qb st) (eY st) (ay st) .none kV d e b a ct,i⟩)
 (c:mD K a ì=U) (k:ũ K (.ref f)=U):UO K x ì st f<|eB x ì (qb st) (eY st) (ay st) .none kV d e b a ct:=⟨⟨oc,h,kV,d,e,b,a,ct,i,D,l,c⟩,k⟩
end
def fP{k:M}(a:c6 k A):A.units+1<d_:=Nat.lt_of_le_of_lt (nt (by decide:1<=64) _) a.units
def pv(i:M){x:S}{pos:kX}(a:X.N[i]?=B x:=by rfl)(b:Vis X.env.scope x:=by first|exact nv rfl|exact RP (nv rfl)|exact RP<|RP rfl)(d:(x==("__debug__":S))=Τ:=by decide)
 (e:(x==("__classdict__":S))=Τ:=by decide):PE X (.Name x pos)<|aV i:=Wa a b d e
def av(H R:Hp):Prop:=∀b o,H b=B o->R b=B o
theorem av.refl(H:Hp):av H H:=λ_ _ a=>a
theorem av.trans{ο Θ:Hp}(a:av H ο)(b:av ο Θ):av H Θ:=λd e f=>b d e<|a d e f
theorem av.free{H R:Hp}(e:av H R){l:O}(h:R l=g):H l=g:=by
 cases a:H l with
 |none=>rfl
 |some b=>
  rw[e l b a]at h;cases h
theorem av.seq(e:av H R)(h:aN K H a N):aN K R a N:=by
 rcases h with(h|⟨b,h⟩)|h
 .exact .inl<|.inl<|e _ _ h
 .exact .inl<|.inr ⟨b,e _ _ h⟩
 .exact .inr h
section
variable{ñ:Type}[iW ñ]
theorem L8:∀{l:J ñ} {k:ñ},l.Nodup->¬k∈l->(l++[k]).Nodup
 |[],k,_,_=>bh
 |a::e,k,f,d=>by
  obtain⟨h,i⟩:=ϐ.mp f;show(a::(e++[k])).Nodup;refine ϐ.mpr ⟨λb=>?_,L8 i λb=>d<|ç.mpr<|RP b⟩;rcases î.mp b with q|q
  .exact h q
  .exact d<|ç.mpr<|nv (đ.mp q).symm
end
mutual
inductive Dw(K:Ζ)(H:Hp):V->i0->Prop
 |b_:Dw K H .b_ .none
 |bl(b:ě):Dw K H (.bl b)<|.bool b
 |int(i:Z):Dw K H (.int i)<|.int i
 |str(x:S):Dw K H (.str x)<|.str x
 |H7(b:ŕ ϔ):Dw K H (.H7 b)<|.bytes b.toList
 |Y{a:O}{N:J V}{Ù:J i0}:aN K H a N->o6 K H N Ù->Dw K H (.ref a) (.list Ù)
 |bO{a:O}{N:J V}{Ù:J i0}:gb K H a N->o6 K H N Ù->Dw K H (.ref a) (.tuple Ù)
inductive o6(K:Ζ)(H:Hp):J V->J i0->Prop
 |nil:o6 K H [] []
 |cons{v:V}{vs:J V}{d:i0}{Ù:J i0}:Dw K H v d->o6 K H vs Ù->o6 K H (v::vs) (d::Ù)
end
theorem Mu{K:Ζ}{H:Hp}:∀ns:J Z,o6 K H (ns.map V.int) (ns.map i0.int)
 |[]=>.nil
 |n::a=>.cons (.int n)<|Mu a
theorem MQ{K:Ζ}{H:Hp}:∀(ns:J Z) (N:J V),o6 K H N (ns.map i0.int)->N=ns.map V.int
 |[],N,a=>by cases a;rfl
 |n::b,N,a=>by
  cases a with
  |cons d e=>
   cases d;rw[MQ b _ e]<;>rfl
section
variable{Χ:MY}{cl:S->É O}
def We(e:qN P w H h)(f:K.In h)(q:aN K H a N):∃(Ï:J z) (o:gf) (n:M),bz N Ï/\h.get? a=B o/\o.cls=.type "list"/\o.data=.seq Ï.toArray n:=by
 rcases q with q|⟨o,Ï,n,b,i,_,j,_,d⟩
 .obtain⟨_,Ï,n,d,b⟩:=(q.ok e);exact⟨Ï,_,n,d,b,D,D⟩
 .exact⟨Ï.toList,o,n,d,f _ _ b,i,by simp[j]⟩
def Xe(i:qN P w H h)(j:K.In h)(q:gb K H a N):∃(Ï:J z) (o:gf) (n:M),bz N Ï/\h.get? a=B o/\o.cls=.type "tuple"/\o.data=.seq Ï.toArray n:=by
 rcases q with q|⟨o,Ï,n,b,d,e,_,f⟩
 .obtain⟨_,Ï,f,o,b,d,n,e⟩:=(q.ok i);exact⟨Ï,o,n,f,b,d,e⟩
 .exact⟨Ï.toList,o,n,f,j _ _ b,d,by simp[e]⟩
mutual
theorem Dw.reads(f:qN P w H h)(i:K.In h):∀(d:i0) (v:V) (u:z),Dw K H v d->bE v u->∃as,abj Χ cl h u d as
 |.none,_,_,a,b=>by cases a;cases b;exact⟨_,abj.none⟩
 |.bool s,_,_,a,b=>by cases a;cases b;exact⟨_,abj.bool s⟩
 |.int t,_,_,a,b=>by cases a;obtain⟨e,rfl⟩:=b;exact⟨_,abj.int t e⟩
 |.str x,_,_,a,b=>by cases a;obtain⟨e,rfl⟩:=b;exact⟨_,abj.str x e⟩
 |.bytes s,_,_,a,b=>by cases a;obtain⟨e,rfl⟩:=b;exact⟨_,abj.bytes _ e⟩
 |.list j,_,_,a,b=>by
  cases a with
  |Y k l=>
   cases b;obtain⟨m,y,A,n,o,p,q⟩:=We f i k;obtain⟨as,r⟩:=Dw.readsAll f i j _ m l n;exact⟨_,abj.list o p q r⟩
 |.tuple j,_,_,a,b=>by
  cases a with
  |bO k l=>
   cases b;obtain⟨m,y,A,n,o,p,q⟩:=Xe f i k;obtain⟨as,r⟩:=Dw.readsAll f i j _ m l n;exact⟨_,abj.tuple o p q r⟩
 |.float _,_,_,a,_=>by cases a
 |.dict _,_,_,a,_=>by cases a
 |.bytearray _,_,_,a,_=>by cases a
 |.set _,_,_,a,_=>by cases a
 |.frozenset _,_,_,a,_=>by cases a
 |.obj _ _,_,_,a,_=>by cases a
theorem Dw.readsAll(e:qN P w H h)(f:K.In h):∀(Ù:J i0) (vs:J V) (Μ:J z),o6 K H vs Ù->bz vs Μ->∃as,abk Χ cl h Μ Ù as
 |[],_,_,a,b=>by cases a;cases b;exact⟨_,abk.nil⟩
 |d::Ù,_,_,a,b=>by
  cases a with
  |cons i j=>
   cases b with
   |cons k l=>
    obtain⟨as,m⟩:=Dw.reads e f d _ _ i k;obtain⟨o,n⟩:=Dw.readsAll e f Ù _ _ j l;exact⟨_,abk.cons m n⟩
end
end
mutual
noncomputable def OW:i0->ě
 |.none=>U
 |.bool _=>U
 |.int _=>U
 |.str _=>U
 |.bytes _=>U
 |.list N=>C8 N
 |.tuple N=>C8 N
 |_=>Τ
noncomputable def C8:J i0->ě
 |[]=>U
 |x::r=>OW x&&C8 r
end
theorem G3{Ν:Type}{f:Ν->i0}(h:∀a,OW (f a)=U):∀l:J Ν,C8 (l.map f)=U
 |[]=>D
 |x::b=>by show(OW (f x)&&C8 (b.map f))=U;rw[h x,G3 h b]<;>rfl
theorem rP:∀(c:abh) (a:c.denote),OW (c.enc a)=U
 |.unit,_=>D
 |.bool,_=>D
 |.int _ _,_=>D
 |.nat _ _,_=>D
 |.u8,_=>D
 |.bytes _ _,_=>D
 |.text _ _ _ _,_=>D
 |.list _ _ c,a=>G3 (λd=>rP c d) a
 |.pair c b,a=>by show(OW (c.enc a.1)&&(OW (b.enc a.2)&&U))=U;rw[rP c a.1,rP b a.2]<;>rfl
 |.triple c b e,a=>by show(OW (c.enc a.1)&&(OW (b.enc a.2.1)&&(OW (e.enc a.2.2)&&U)))=U;rw[rP c a.1,rP b a.2.1,rP e a.2.2]<;>rfl
 |.option c,g=>D
 |.option c,B d=>rP c d
theorem xg:∀(b:J abh) (a:lY b),C8 (jY b a)=U
 |[],_=>D
 |c::b,a=>by show(OW (c.enc a.1)&&C8 (jY b a.2))=U;rw[rP c a.1,xg b a.2]<;>rfl
theorem uB:∀{N:J i0} {d:i0},d∈N->d.weight<=RQ N
 |[],d,a=>absurd a bh
 |x::b,d,a=>by
  show d.weight<=x.weight+1+RQ b;rcases ç.mp a with e|m
  .rw[e];omega
  .have f:=uB m;omega
noncomputable def G8:z->V
 |.none=>.b_
 |.bool b=>.bl b
 |.int i _=>.int i
 |.str x _=>.str x
 |.bytes b _=>.H7 b
 |.ref a=>.ref a
 |_=>.b_
def OA(A:J O):z->Prop
 |.none=>Cm
 |.bool _=>Cm
 |.int _ _=>Cm
 |.str _ _=>Cm
 |.bytes _ _=>Cm
 |.ref a=>a∈A
 |_=>Ϡ
def OA.mono{A Η:J O}(h:∀a∈A,a∈Η):∀{u:z},OA A u->OA Η u:=λ{u} b=>by
 cases u with
 |ref a=>exact h a b
 |none=>trivial
 |bool e=>trivial
 |int f d=>trivial
 |str i d=>trivial
 |bytes e d=>trivial
 |_=>exact ŏ b
def Rc{A:J O}{u:z}(x:OA A u):bE (G8 u) u:=by
 cases u with
 |ref d=>rfl
 |none=>rfl
 |bool b=>rfl
 |int e a=>exact⟨a,D⟩
 |str f a=>exact⟨a,D⟩
 |bytes b a=>exact⟨a,D⟩
 |_=>exact ŏ x
theorem pI{A:J O}:∀{vs:J z},(∀u∈vs,OA A u)->bz (vs.map G8) vs
 |[],_=>.nil
 |u::e,a=>.cons (Rc<|a u (Ö ..))<|pI λb d=>a b<|Ç _ d
def qG(h:ό)(A:J O)(a:O):Prop:=∃vs:J z,L vs<=sizeLine/\(∀u∈vs,OA A u)/\
 (h.get? a=B {cls:=.type "list",data:=.seq vs.toArray}\/h.get? a=B {cls:=.type "tuple",data:=.seq vs.toArray})
theorem qG.mono{A Η:J O}(k:∀a∈A,a∈Η)(x:qG h A a):qG h Η a:=by obtain⟨b,d,e,f⟩:=x;exact⟨b,d,λi j=>(e i j).mono k,f⟩
theorem n8{P:z_}{h:ό}:∀{vs:J z} {Ù:J i0},xP P h vs Ù->L vs=L Ù
 |_,_,.nil=>D
 |_,_,.cons _ a=>by show _+1=_+1;rw[n8 a]
def Ec{P:z_}{h:ό}{v:z}{Ù:J i0}(x:abg P h v<|.list Ù):∃(a:O) (vs:J z),v=.ref a/\h.get? a=B {cls:=.type "list",data:=.seq vs.toArray}/\xP P h vs Ù:=by
 cases x with
 |list b d=>exact⟨_,_,D,b,d⟩
def BN{P:z_}{h:ό}{v:z}{Ù:J i0}(x:abg P h v<|.tuple Ù):∃(a:O) (vs:J z),v=.ref a/\h.get? a=B {cls:=.type "tuple",data:=.seq vs.toArray}/\xP P h vs Ù:=by
 cases x with
 |tuple b d=>exact⟨_,_,D,b,d⟩
def DA{P:z_}{h:ό}{Μ:J z}{d:i0}{Ù:J i0}(x:xP P h Μ<|d::Ù):∃(v:z) (vs:J z),Μ=v::vs/\abg P h v d/\xP P h vs Ù:=by
 cases x with
 |cons a b=>exact⟨_,_,D,a,b⟩
def Mz(h:n<=1048576):n<=sizeLine:=Ć h bM
section
variable{P:z_}
mutual
theorem QX:∀(d:i0) (v:z),abg P h v d->OW d=U->d.weight<=1048576->∃A:J O,OA A v/\∀a∈A,qG h A a
 |.none,_,e,_,_=>by cases e;exact⟨[],trivial,λa m=>absurd m bh⟩
 |.bool f,_,e,_,_=>by cases e;exact⟨[],trivial,λa m=>absurd m bh⟩
 |.int y,_,e,_,_=>by cases e;exact⟨[],trivial,λa m=>absurd m bh⟩
 |.str C,_,e,_,_=>by cases e;exact⟨[],trivial,λa m=>absurd m bh⟩
 |.bytes f,_,e,_,_=>by cases e;exact⟨[],trivial,λa m=>absurd m bh⟩
 |.list j,_,e,b,o=>by
  obtain⟨a,p,rfl,q,k⟩:=Ec e;have l:=o;obtain⟨A,r,s⟩:=vS j _ k b λd t=>Ć (uB t) l;have n:∀f∈A,f∈a::A:=λf i=>Ç _ i;refine⟨a::A,Ö ..,λf i=>?_⟩;rcases ç.mp i with u|m
  .rw[u];exact⟨p,Mz<|n8 k▸Ć (yN j) l,λw x=>(r w x).mono n,.inl q⟩
  .exact(s f m).mono n
 |.tuple j,_,e,b,o=>by
  obtain⟨a,p,rfl,q,k⟩:=BN e;have l:=o;obtain⟨A,r,s⟩:=vS j _ k b λd t=>Ć (uB t) l;have n:∀f∈A,f∈a::A:=λf i=>Ç _ i;refine⟨a::A,Ö ..,λf i=>?_⟩;rcases ç.mp i with u|m
  .rw[u];exact⟨p,Mz<|n8 k▸Ć (yN j) l,λw x=>(r w x).mono n,.inr q⟩
  .exact(s f m).mono n
 |.float _,_,_,b,_=>Ř<|b
 |.dict _,_,_,b,_=>Ř<|b
 |.bytearray _,_,_,b,_=>Ř<|b
 |.set _,_,_,b,_=>Ř<|b
 |.frozenset _,_,_,b,_=>Ř<|b
 |.obj _ _,_,_,b,_=>Ř<|b
theorem vS:∀(Ù:J i0) (vs:J z),xP P h vs Ù->C8 Ù=U->(∀d∈Ù,d.weight<=1048576)->∃A:J O,(∀u∈vs,OA A u)/\∀a∈A,qG h A a
 |[],_,i,_,_=>by cases i;exact⟨[],λu m=>absurd m bh,λa m=>absurd m bh⟩
 |d::Ù,_,i,p,k=>by
  obtain⟨q,vs,rfl,r,s⟩:=DA i;have l:=Ő.mp p;obtain⟨A,t,v⟩:=QX d q r l.1<|k d (Ö ..);obtain⟨f,b1,b2⟩:=vS Ù vs s l.2 λj w=>k j<|Ç _ w;have n:∀b∈A,b∈A++f:=λb e=>î.mpr<|.inl e;have o:∀b∈f,b∈A++f:=λb e=>î.mpr<|.inr e;refine⟨A++f,λu x=>?_,λb e=>?_⟩
  .rcases ç.mp x with j|m
   .rw[j];exact t.mono n
   .exact(b1 u m).mono o
  .rcases î.mp e with m|m
   .exact(v b m).mono n
   .exact(b2 b m).mono o
end
end
noncomputable def S3 (o:gf):É HO:=match o.data with
 |.seq vs _=>if(o.cls==d8 "list") then B (.jZ o<|.Y<|vs.toList.map G8) else B (.jZ o<|.bO<|vs.toList.map G8)
 |_=>g
noncomputable def qn (K:Ζ) (h:ό) (A:J O):Hp:=λb=>if b∈A then(if(K.lookup b).isNone then(h.get? b).bind S3 else g) else g
def Ej(H:Hp):Prop:=∀b,H b=g\/∃o u,H b=B (.jZ o u)
theorem GV(vs:J z):S3 {cls:=.type "list",data:=.seq vs.toArray}=B (.jZ {cls:=.type "list",data:=.seq vs.toArray} (.Y<|vs.map G8)):=by show(if(d8 "list"==d8 "list") then B (HO.jZ {cls:=.type "list",data:=.seq vs.toArray} (.Y<|vs.toArray.toList.map G8)) else B (HO.jZ {cls:=.type "list",data:=.seq vs.toArray} (.bO<|vs.toArray.toList.map G8)))=_;rw[à<|YA _]
theorem HA(vs:J z):S3 {cls:=.type "tuple",data:=.seq vs.toArray}=B (.jZ {cls:=.type "tuple",data:=.seq vs.toArray} (.bO<|vs.map G8)):=by show(if(d8 "tuple"==d8 "list") then B (HO.jZ {cls:=.type "tuple",data:=.seq vs.toArray} (.Y<|vs.toArray.toList.map G8)) else B (HO.jZ {cls:=.type "tuple",data:=.seq vs.toArray} (.bO<|vs.toArray.toList.map G8)))=_;rw[Ó bM]
section
variable{A:J O}
theorem zG(a:b∈A)(hk:K.lookup b=g)(e:h.get? b=B o):qn K h A b=S3 o:=by unfold qn;rw[à a,hk,à<|show(g:É gf).isNone=U from D,e]<;>rfl
def Tr{u:HO}(q:qn K h A b=B u):b∈A/\K.lookup b=g:=by
 unfold qn at q;by_cases a:b∈A
 .rw[à a]at q;cases d:K.lookup b with
  |none=>exact⟨a,D⟩
  |some e=>
   simp_all[Ó]
 simp_all[Ó]
theorem zO(i:∀a∈A,qG h A a){u:HO}(q:qn K h A b=B u):K.lookup b=g/\∃vs:J z,L vs<=sizeLine/\(∀u∈vs,OA A u)/\
  ((h.get? b=B {cls:=.type "list",data:=.seq vs.toArray}/\u=.jZ {cls:=.type "list",data:=.seq vs.toArray} (.Y<|vs.map G8))\/ (h.get? b=B {cls:=.type "tuple",data:=.seq vs.toArray}/\u=.jZ {cls:=.type "tuple",data:=.seq vs.toArray} (.bO<|vs.map G8))):=by
 obtain⟨d,f⟩:=Tr q;obtain⟨vs,j,k,l⟩:=i b d;exists f,vs,j,k;rcases l with e|e
 .rw[zG d f e,GV]at q;exact .inl ⟨e,(ĥ q).symm⟩
 .rw[zG d f e,HA]at q;exact .inr ⟨e,(ĥ q).symm⟩
def Nx(d:∀a∈A,qG h A a):Ej<|qn K h A:=λe=>by
 cases f:qn K h A e with
 |none=>exact .inl D
 |some i=>
  obtain⟨_,j,_,_,⟨_,b⟩|⟨_,b⟩⟩:=zO d f
  .exact .inr ⟨_,_,by rw[b]⟩
  .exact .inr ⟨_,_,by rw[b]⟩
def Tg(f:∀a∈A,qG h A a):qN P w (qn K h A) h:=λj k i=>by
 obtain⟨_,d,l,e,⟨b,rfl⟩|⟨b,rfl⟩⟩:=zO f i
 .exact⟨b,by rwa [Ε],d,_,pI e,b⟩
 .exact⟨b,by rwa [Ε],d,pI e,_,b,D,_,D⟩
def zT{c a:z}{vs:J z}(e:(B {cls:=c,data:=.seq vs.toArray}:É gf)=B {cls:=a,data:=.seq Μ.toArray}):c=a/\vs=Μ:=by simp_all[ĥ,Ğ,Obj.cls,Obj.data,Gs]
def aa8(k:K.In h)(l:∀a∈A,qG h A a){a:O}{vs:J z}(d:a∈A)(e:h.get? a=B {cls:=.type "list",data:=.seq vs.toArray}):(∀u∈vs,OA A u)/\aN K (qn K h A) a (vs.map G8):=by
 obtain⟨f,p,i,m⟩:=l a d;have n:f=vs:=by
  rcases m with q|q
  .rw[e]at q;exact(zT q).2.symm
  .rw[e]at q;exact absurd (LD (zT q).1) bM
 subst n;exists i;cases b:K.lookup a with
 |none=>exact .inl<|.inr ⟨_,by rw[zG d b e,GV]⟩
 |some o=>
  have j:=k a o b;rw[e]at j;obtain rfl:=ĥ j;exact .inr ⟨_,f.toArray,_,b,D,D,D,by rwa [ġ],by simpa using pI i⟩
def aaH(k:K.In h)(l:∀a∈A,qG h A a){a:O}{vs:J z}(d:a∈A)(e:h.get? a=B {cls:=.type "tuple",data:=.seq vs.toArray}):(∀u∈vs,OA A u)/\gb K (qn K h A) a (vs.map G8):=by
 obtain⟨f,p,i,m⟩:=l a d;have n:f=vs:=by
  rcases m with q|q
  .rw[e]at q;exact absurd (LD (zT q).1) bM
  .rw[e]at q;exact(zT q).2.symm
 subst n;exists i;cases b:K.lookup a with
 |none=>exact .inl<|.inr ⟨_,by rw[zG d b e,HA]⟩
 |some o=>
  have j:=k a o b;rw[e]at j;obtain rfl:=ĥ j;exact .inr ⟨_,f.toArray,_,b,D,D,by rwa [ġ],by simpa using pI i⟩
mutual
theorem Wx{q:z_}(f:K.In h)(i:∀a∈A,qG h A a):∀(d:i0) (v:z),abg q h v d->OW d=U->OA A v->Dw K (qn K h A) (G8 v) d
 |.none,_,e,_,_=>by cases e;exact .b_
 |.bool j,_,e,_,_=>by cases e;exact .bl j
 |.int r,_,e,_,_=>by cases e;exact .int r
 |.str s,_,e,_,_=>by cases e;exact .str s
 |.bytes j,_,e,_,_=>by cases e;exact Dw.H7 (K:=K) (H:=qn K h A) j.toArray
 |.list k,_,e,b,l=>by obtain⟨a,t,rfl,m,n⟩:=Ec e;obtain⟨o,p⟩:=aa8 f i l m;exact .Y p<|F7 f i k _ n b o
 |.tuple k,_,e,b,l=>by obtain⟨a,t,rfl,m,n⟩:=BN e;obtain⟨o,p⟩:=aaH f i l m;exact .bO p<|F7 f i k _ n b o
 |.float _,_,_,b,_=>Ř<|b
 |.dict _,_,_,b,_=>Ř<|b
 |.bytearray _,_,_,b,_=>Ř<|b
 |.set _,_,_,b,_=>Ř<|b
 |.frozenset _,_,_,b,_=>Ř<|b
 |.obj _ _,_,_,b,_=>Ř<|b
theorem F7{k:z_}(e:K.In h)(f:∀a∈A,qG h A a):∀(Ù:J i0) (vs:J z),xP k h vs Ù->C8 Ù=U->(∀u∈vs,OA A u)->o6 K (qn K h A) (vs.map G8) Ù
 |[],_,b,_,_=>by cases b;exact .nil
 |d::Ù,_,b,l,i=>by obtain⟨m,vs,rfl,n,o⟩:=DA b;have j:=Ő.mp l;exact .cons (Wx e f d m n j.1<|i _ (Ö ..))<|F7 e f Ù vs o j.2 λu p=>i u<|Ç _ p
end
end
def DZ{P:Ŝ}{w:ś}{K:Ζ}{η q:S->É z}{CX:E5}{k:M}{G:O}{Ä:jR}{θ:J S}{Ã:Sp}{b:Í}{h:J z}{Ù:J i0}{Χ:MY}{cl:S->É O}{d0:i0}
  (t:K.In b.heap) (I:b.heap.Ns ĺ η) (y:b.heap.Ns Jz q) (ah:∀x:S,x≠"__name__"->q x=uh x) (ai:b.heap.NoLimit) (aj:b.gens= #[])
  (A:xP w.params b.heap h Ù) (Q:C8 Ù=U) (ak:∀d∈Ù,d.weight<=1048576) (al:c6 k Cy)
  (am:∀base:ό,K.In base->base.Ns ĺ η->lZ P w K η base CX k G Ä θ Ã) (an:∀(s:Í) (Μ:J z),L Μ=L θ->Cp s Ä ⟨Μ,[]⟩ (θ.zip Μ)) (aE:L Ù=L θ)
  (ao:∀(H:Hp) (N:J V),Ej H->o6 K H N Ù->Ã N H (λv R=>Dw K R v d0) λ_ _ _=>Ϡ)
  (ap:∀H e s',CX [] H b (λ_ _ _=>Ϡ) e s'->Ϡ):
  j4 (ă P w) Cy (.call (.ref G) ⟨h,[]⟩) (λr s'=>∃u as,r=.ok (.ret u)/\abj Χ cl s'.heap u d0 as/\OldK b.heap s'.heap/\s'.os=b.os/\xM s'.gens) b:=by
 obtain⟨j,T,m⟩:=vS Ù h A Q ak;have C:Ej<|qn K b.heap j:=Nx m;have E:qN P w (qn K b.heap j) b.heap:=Tg m;have W:=F7 t m Ù h A Q T;have X:∀a u,qn K b.heap j a=B u->K.lookup a=g:=λa u l=>(zO m l).1;have Y:∀{a:O} {f:gf} {n:ŕ ez} {o:M},b.heap.get? a=B f->f.data=.dict n o->qn K b.heap j a=g:=λ{a f n o} e d=>by
  cases l:qn K b.heap j a with
  |none=>rfl
  |some u=>
   grind[zO]
 generalize qn K b.heap j=H at C E W X Y;have Z:∀{a:O} {f:gf},b.heap.get? a=B f->H a=g->(H8 b.heap H).get? a=B f:=λe aq=>Qw e aq;have p:∀{a:O} {F:S->É z},b.heap.Ns a F->(H8 b.heap H).Ns a F:=λ{a F} ⟨f,n,o,e,d,r⟩=>⟨f,n,o,Z e<|Y e d,d,r⟩;have ar:∀a f,K.lookup a=B f->H a=g:=λa f e=>by
  cases l:H a with
  |none=>rfl
  |some u=>
   rw[X a u l]at e;cases e
 have aa:K.In<|H8 b.heap H:=λa f e=>Z (t a f e)<|ar a f e;refine gJ ((am _ aa<|p I).run Cy [] b H ⟨h,[]⟩ h (h.map G8) _ _ al (⟨D,⟨aa,p I,⟨q,p y,ah⟩,let⟨au,av,aw⟩:=ai;⟨au,p av,aw⟩⟩,λa f e=>Uv e,iF<|M7 _ _,trivial,λa y=>absurd (show a∈([]:J O) from y) bh,E,.of_eq aj⟩:HK P w K η (H8 b.heap H) Cy [] b H) (an b h<|by rwa [n8 A]) (pI T)<|ao H _ C W) λr s' x=>?_;cases r with
 |error e=>exact(ap H e s' x).elim
 |ok ax=>
  cases ax with
  |next=>exact ŏ x
  |brk=>exact ŏ x
  |cont=>exact ŏ x
  |ret u=>
   refine bx λaF ay=>?_;obtain⟨v,R,os,az,ab,ad,aA,l⟩:=x;have ae:∀a f,b.heap.get? a=B f->s'.heap.get? a=B f:=λa f e=>by
    cases af:H a with
    |none=>exact ab.keep a f e af (by intro i;exact absurd (show a∈([]:J O) from i) bh) bh
    |some aG=>
     rcases C a with i|⟨aB,aH,i⟩
     .rw[af]at i;cases i
     .obtain⟨ag,_⟩:=E a _ i;obtain⟨aC,_⟩:=ad a _<|ab.Dj a aB _ i;rw[e]at ag;cases ag;exact aC
   obtain⟨as,aD⟩:=Dw.reads ad (λa f e=>ae a f<|t a f e) d0 v u l aA;apply ay;exact⟨u,as,D,aD,OldK.of_keep ae,os,az⟩
def rN{Ù:J i0}(h:O5 Ù=U):∀d∈Ù,d.weight<=1048576:=λd a=>
 (PySem.W.layableW_iff.mp<|Ě.mp h d a).2.2
theorem uH:∀(b:J abh) (a:lY b),(L<|jY b a)=L b
 |[],_=>D
 |c::b,a=>by show(L<|jY b a.2)+1=L b+1;rw[uH b a.2]
def NV{r:aab}{k:M}{q:Ŝ}{n:J S}{XP:(S->É z)->ό->Prop}{d:DefRec}{K:z_->Ζ}{CX:ś->E5}{Ã:ś->Sp}
  (o:r.wellSaid=U) (al:d.params.defaults=[]) (p:L r.args=L θ) (t:c6 k Cy)
  (u:∀(w:ś) (h:ό),eO w h->(K w.params).In h)
  (x:∀(w:ś) (η:S->É z) (i:O) (h:ό),eO w h->(K w.params).In h->h.Ns ĺ η->η d.name=B (.ref i)-> ∃Ä:jR,(∀(s:Í) (Μ:J z),L Μ=L θ->Cp s Ä ⟨Μ,[]⟩ (θ.zip Μ))/\ ∀base:ό,(K w.params).In base->base.Ns ĺ η->lZ r.prog w (K w.params) η base (CX w) k i Ä θ (Ã w))
  (y:∀(w:ś) (H:Hp) (N:J V) (a:lY r.args),Ej H->Aa r.args a=U->ny r.args r.asked a=U->o6 (K w.params) H N (jY r.args a)-> Ã w N H (λv R=>Dw (K w.params) R v<|r.ret.enc<|ny r.args r.f a) λ_ _ _=>Ϡ)
  (A:∀(w:ś) (H:Hp) (s:Í) (e:z) (s':Í),CX w [] H s (λ_ _ _=>Ϡ) e s'->Ϡ):
  ER q n XP eO r d [] (λf vs=>jS f vs):=by
 intro w C E η am b j i an ao ap aq ar kV au av aw ax F G args ay az I P aA Q aB;obtain⟨a,T,W⟩:=Jp I;obtain⟨X,l⟩:=Gy r.args args a T;subst X;have m:=u w _ j;obtain⟨Ä,Y,Z⟩:=x w η i _ j m b.T.g F;refine JH<|gJ (DZ (Χ:=[]) (cl:=classAt C.heap) (d0:=r.ret.enc<|ny r.args r.f a) m b.T.g b.T.b b.T.builtins b.T.nolimit G Q (xg _ _) (rN P) t Z Y (by rw[uH];exact p) (λH N aa ab=>y w H N a aa l W ab) λH e s'=>A w H E e s') λaC s' ad=>?_
 obtain⟨ae,af,rfl,ag,ah,ai,aj⟩:=ad;exact⟨.inl ⟨ae,_,af,D,λ_=>D,ag,(JI o l _ _).mpr D,λak=>Ř<|ak⟩,ah,ai,aj⟩
def V3{r:aab}{k:M}{q:Ŝ}{i:J S}{XP:(S->É z)->ό->Prop}{d:DefRec}{K:z_->Ζ}{CX:E5}{Ã:Ζ->Sp}
  (j:r.wellSaid=U) (l:d.params.defaults=[]) (m:L r.args=L θ) (n:c6 k Cy)
  (o:∀(w:ś) (h:ό),eO w h->(K w.params).In h)
  (p:∀(w:ś) (η:S->É z) (b:O) (h:ό),eO w h->(K w.params).In h->h.Ns ĺ η->η d.name=B (.ref b)-> ∃Ä:jR,(∀(s:Í) (Μ:J z),L Μ=L θ->Cp s Ä ⟨Μ,[]⟩ (θ.zip Μ))/\ ∀base:ό,(K w.params).In base->base.Ns ĺ η->lZ r.prog w (K w.params) η base CX k b Ä θ (Ã<|K w.params))
  (t:∀(K:Ζ) (H:Hp) (N:J V) (a:lY r.args),Ej H->Aa r.args a=U->ny r.args r.asked a=U->o6 K H N (jY r.args a)-> Ã K N H (λv R=>Dw K R v<|r.ret.enc<|ny r.args r.f a) λ_ _ _=>Ϡ)
  (u:∀(H:Hp) (s:Í) (e:z) (s':Í),CX [] H s (λ_ _ _=>Ϡ) e s'->Ϡ):
  ER q i XP eO r d [] (λf vs=>jS f vs):=
 NV j l m n o p (λw H N a x y A C=>t (K w.params) H N a x y A C) λ_ H s e s'=>u H s e s'
end L2
open L2
namespace Tf
variable{X:Cx K}{Â:TE}{Ã:Sp}{G Κ Ē H R Ι ο:Hp}{N:J V}{σ:L2.St}{ς:J V->É (J<|S×V)}{ϖ Β ĵ ģ Ĥ ä:J<|J bW×V}
noncomputable def bU (i:M):dP:=PySem.Challenge.pw_tangledfiles_s01_answers.main.body.getD i<|.Pass ⟨0,0,0,0⟩
structure Kn(P:Ŝ)(w:ś)(K:Ζ)(η:S->É z)(Ξ:ό)(CX:E5)(k:M)(x:S)(θ:J S)(Ã:Sp):Prop where
 ex:∃f Ä,lZ P w K η Ξ CX k f Ä θ Ã/\η x=B (.ref f)/\ũ K (.ref f)=U/\jl K Ä θ []
structure Df(K:Ζ)(mg:S->É z)(x:S)(st:dP)(θ:J S)(f:O)(Ä:jR):Prop where
 fn:UO K x x st f Ä
 mg:mg x=B (.ref f)
 bd:jl K Ä θ []
def Gv(η:S->É z)(x:S)(v:V):Prop:=∃u,η x=B u/\bE v u
section
variable{x:S}{pos Ň:kX}{yj:J S}{ü:kK}
def aH(i:M)(χ:aB X.N yj ü)(a:PE X e Â)(Á:X.N[i]?=B x:=by rfl)(Ο:VX X.env.scope x:=by first|exact .inl rfl|exact .inr rfl)(b:kL e (B<|.Name x Ň) pos.line X.env=pure Τ:=by rfl)(d:X.fn x=U\/X.env.scope.names.lookup x=B .local:=by first|exact .inl rfl|exact .inr rfl|assumption):PS X (.Assign [.Name x Ň] e pos)<|Hj Â<|c8 i:=Xf χ.nd Á Ο a b d
def bC(i:M)(χ:aB X.N yj ü)(Á:X.N[i]?=B x:=by rfl)(Ο:VX X.env.scope x:=by first|exact .inl rfl|exact .inr rfl)(a:X.fn x=U\/X.env.scope.names.lookup x=B .local:=by first|exact .inl rfl|exact .inr rfl|assumption):PG X (.Name x pos)<|c8 i:=Uu χ.nd Á Ο a
end
section
variable{CX:E5}{k:M}{x:S}{E:XK}{p pos:kX}{Α:J Ž}{t:TA}
def aR(a:Kn X.prog X.w K X.mg X.base CX k x θ Ã)(b:c6 j X.A)(d:Gl X x)(Ο:jb CX X E)
  (f:PA X (e::Α) t) (hk:k<=j:=by decide) (h:(x==("__debug__":S))=Τ:=by decide) (i:ë (e::Α) X.env=(Τ,Ŧ e X.env)::ë Α X.env:=by rfl) (l:(ϴ pos<|ë Α X.env).any (·.1)=Τ:=by rfl):
  PE X (.Call (.Name x p) (e::Α) [] pos) (xZ Ã [] E t):=by
 obtain⟨q,r,a,m,n,o⟩:=a.ex;exact SX a (b.mono hk) d m n o .nil Ο f h i l
def aW{v:V}(ς:Gv X.mg x v)(a:Gl X x:=by rfl)(b:(x==("__debug__":S))=Τ:=by decide):PE X (.Name x pos)<|tC v:=by obtain⟨f,d,e⟩:=ς;exact Mt a d e b
end
def Df.kn{x:S}{k:M}(a:Df K η x st θ f Ä)(χ:aB Δ θ<|ay st)(d:∀vs H Q E,Ã vs H Q E->L vs=L θ)
  (e:∀(b:z) (A:ź) (outer:J sG) (s:Í) (H:Hp) (vs:J V) (Q:VK) (E:XK),c6 k (A.deeper<|gK x (ay st) s.heap.objs.size f b)->Ã vs H Q E-> ∃t,zq (o8 c9 P w K η Ξ Δ x (ay st) f b A outer s H E).SI (eY st) t/\t {nx:=λ_ R=>Q .b_ R,rt:=Q} (start Δ vs) H):Kn P w K η Ξ c9 (k+1) x θ Ã:=
 ⟨f,Ä,a.fn.ok χ d e,a.mg,a.fn.kp,a.bd⟩
def aq{o:HO}(h:H p=g):av H<|T H p o:=λb d a=>by
 rwa [au<|ao a h]
def Q2{o:HO}(h:G p=g)(s:av G H):av G<|T H p o:=λb d a=>by rw[au<|ao a h];exact s b d a
def av.rd(e:av H R){u:HO}(h:Rd H a u):Rd R a u:=by
 rcases h with h|⟨b,h⟩
 .exact .inl<|e _ _ h
 .exact .inr ⟨b,e _ _ h⟩
def av.x_(e:av H R)(h:gb K H a N):gb K R a N:=by
 rcases h with h|h
 .exact .inl<|av.rd e h
 .exact .inr h
structure Ex(G H Κ R:Hp):Prop where
 same:av H R
 le:av G Κ
 sub:av Κ R
 new:∀b o,Κ b=B o->G b=B o\/H b=g
theorem Ex.refl(h:av G H):Ex G H G H:=⟨av.refl _,av.refl _,h,λ_ _ a=>.inl a⟩
theorem Ex.trans{d Θ:Hp}(a:Ex G H Ē ο)(b:Ex Ē ο d Θ):Ex G H d Θ:=
 ⟨a.same.trans b.same,a.le.trans b.le,b.sub,λe f i=>by
  rcases b.new e f i with h|h
  .exact a.new e f h
  .exact .inr<|a.same.free h⟩
theorem Ex.heap(h:av G H)(s:av H R):Ex G H G R:=⟨s,av.refl _,h.trans s,λ_ _ a=>.inl a⟩
def Ex.more{Θ:Hp}(a:Ex G H Ē ο)(s:av ο Θ):Ex G H Ē Θ:=a.trans<|Ex.heap a.sub s
def Ex.made(a:Ex G H Ē ο){o:HO}(h:ο p=g):Ex G H (T Ē p o)<|T ο p o:=by
 refine a.trans ⟨aq h,aq<|a.sub.free h,λe f b=>?_,λe f b=>?_⟩
 .by_cases d:e=p
  .subst d;rw[af]at b;rw[af];exact b
  .rw[au d]at b;rw[au d];exact a.sub e f b
 .by_cases d:e=p
  .subst d;exact .inr h
  .rw[au d]at b;exact .inl b
structure Lo(G H:Hp)(x:O)(o:HO):Prop where
 out:G x=g
 at_:H x=B o
theorem Lo.ex{G H Κ R:Hp}{x:O}{o:HO}(l:Lo G H x o)(e:Ex G H Κ R):Lo Κ R x o:=by
 refine⟨?_,e.same _ _ l.at_⟩;cases a:Κ x with
 |none=>rfl
 |some b=>
  rcases e.new x b a with h|h
  .rw[l.out]at h;cases h
  .rw[l.at_]at h;cases h
theorem Lo.same{x:O}{o:HO}(l:Lo G H x o)(e:av H R):Lo G R x o:=⟨l.out,e _ _ l.at_⟩
theorem Lo.put{x:O}{o u:HO}(l:Lo G H x o):Lo G (T H x u) x u:=⟨l.out,af⟩
def Lo.other{x y:O}{o u:HO}(l:Lo G H x o)(h:x≠y):Lo G (T H y u) x o:=⟨l.out,au h▸l.at_⟩
def Lo.new{x:O}{o:HO}(h:av G H)(Ο:H x=g):Lo G (T H x o) x o:=⟨av.free h Ο,af⟩
def Ex.write(a:Ex G H Ē ο){x:O}{o u:HO}(l:Lo Ē ο x o)(Ο:H x=g):Ex G H Ē<|T ο x u:=
 ⟨λd e b=>au (ao b Ο)▸a.same d e b,a.le,Q2 l.out a.sub,a.new⟩
def Ex.stay(a:Ex G H Ē ο){x:O}{o:HO}(l:Lo Ē ο x o)(Ο:H x=g):Ex G H (T Ē x o) ο:=
 ⟨a.same,a.le.trans<|aq l.out,λd f b=>by
  by_cases e:d=x
  .subst e;rw[af]at b;cases b;exact l.at_
  .rw[au e]at b;exact a.sub d f b,λd f b=>by
  by_cases e:d=x
  .subst e;exact .inr Ο
  .rw[au e]at b;exact a.new d f b⟩
def Lo.apart{x y:O}{o u:HO}(l:Lo G H x o)(h:x≠y):Lo (T G y u) H x o:=⟨au h▸l.out,l.at_⟩
def bS{A:Prop}(h:A):A:=h
def dJ{A:Prop}(h:A):A:=h
def gC{c:ě}{A Η:Prop}(á:c=U->A)(í:c=Τ->Η):if c then A else Η:=by simp_all
def nU{p:Prop}[Yc p]{A Η:Prop}(á:p->A)(í:¬p->Η):if ã p then A else Η:=
 gC (λa=>á<|iy a) λa=>í<|Vh a
noncomputable def bV (b:ϔ):V:=.int (b.toNat:Z)
noncomputable def tV (t:ê):J V:=t.map bV
noncomputable def bK (b:ϔ):bW:=.inl (b.toNat:Z)
noncomputable def kT (t:ê):J bW:=t.map bK
theorem SY(t:ê):(kT t).map kV=tV t:=by unfold kT tV;rw[Ħ];rfl
def Tx(K:Ζ)(H:Hp)(a:O)(t:ê):Prop:=aN K H a<|tV t
def Nm(H:Hp)(a:O)(t:ê):Prop:=H a=B (.bO<|(kT t).map kV)
theorem Tx.same{t:ê}(h:Tx K H a t)(e:av H R):Tx K R a t:=av.seq e h
theorem Nm.same{t:ê}(h:Nm H a t)(e:av H R):Nm R a t:=e _ _ h
theorem bP(t:ê):(L<|tV t)=L t:=Ε _
def PY{t:ê}{x:V}(h:(tV t)[i]?=B x):∃b,t[i]?=B b/\x=bV b:=by unfold tV at h;rw[Ë]at h;obtain⟨b,a,d⟩:=Ü.mp h;exact⟨b,a,d.symm⟩
def HN{t:ê}{b:ϔ}(h:t[i]?=B b):(tV t)[i]?=B (bV b):=by unfold tV;rw[Ë,h];rfl
theorem JV{a b:ϔ}(h:bV a=bV b):a=b:=by injection h with h;exact Ab.mp aL
theorem KC:∀{s t:ê},tV s=tV t->s=t
 |[],[],_=>D
 |[],_::_,b=>by cases b
 |_::_,[],b=>by cases b
 |a::s,f::t,b=>by
  have b:=b;injection b with d e
  rw[JV d,KC e]
theorem u0{s t:ê}(h:kT s=kT t):s=t:=KC<|by rw[<-SY,<-SY,h]
section
variable{Q:VK}
def HU(σ:L2.St)(i:M)(x:V):cE ((cE σ [i]).set i<|B x) [i]=cE σ [i]:=by show((σ.set i g).set i<|B x).set i g=σ.set i g;simp
end
noncomputable def tI (t:ê):J Z:=t.map λb=>(b.toNat:Z)
theorem HD(t:ê):(tI t).map V.int=tV t:=by unfold tI tV;rw[Ħ];rfl
theorem WZ{s t:ê}(h:tI s=tI t):s=t:=KC<|by rw[<-HD,<-HD,h]
theorem nX{K:Ζ}{H:Hp}:∀ns:J Z,yi K H (ns.map V.int) (ns.map Ŭ)
 |[]=>.nil
 |n::a=>.cons (.int n)<|nX a
theorem wg:∀ns:J Z,e7 (ns.map Ŭ)=U
 |[]=>D
 |n::a=>by show(Ce (.int n)&&e7 (a.map Ŭ))=U;rw[wg a];rfl
theorem vQ:∀ns:J Z,eG (ns.map Ŭ)=0
 |[]=>D
 |n::a=>by show max (UC<|.int n) (eG<|a.map Ŭ)=0;rw[vQ a];rfl
theorem sA:∀ns a:J Z,fz (ns.map Ŭ) (a.map Ŭ)=ã (ns=a)
 |[],[]=>D
 |[],_::_=>D
 |_::_,[]=>D
 |n::ns,b::a=>by show(jf (.int n) (.int b)&&fz (ns.map Ŭ) (a.map Ŭ))=_;rw[sA ns a];show((n==b)&&_)=_;lia
def nP(ns:J Z):jV (.list<|ns.map Ŭ)=U:=by show(e7 (ns.map Ŭ)&&ã (eG (ns.map Ŭ)+1<=64))=U;rw[wg,vQ];rfl
def Bs(ns:J Z):jV (.tuple<|ns.map Ŭ)=U:=by show(e7 (ns.map Ŭ)&&ã (eG (ns.map Ŭ)+1<=64))=U;rw[wg,vQ];rfl
inductive aaz(K:Ζ)(x:V)(y:V)(H:Hp)(Q:VK):Prop
 |mk(a b:_)(ns d:J Z)(_:x=.ref a)(_:y=.ref b)(_:aN K H a<|ns.map V.int)(_:aN K H b<|d.map V.int)(_:Q (.bl<|ã<|ns=d) H)
inductive abe(K:Ζ)(x:V)(y:V)(H:Hp)(Q:VK):Prop
 |mk(a b:_)(ns d:J Z)(_:x=.ref a)(_:y=.ref b)(_:aN K H a<|ns.map V.int)(_:aN K H b<|d.map V.int)(_:Q (.bl<|!ã (ns=d)) H)
inductive aaD(K:Ζ)(x:V)(y:V)(H:Hp)(Q:VK):Prop
 |mk(a b:_)(ns d:J Z)(_:x=.ref a)(_:y=.ref b)(_:gb K H a<|ns.map V.int)(_:gb K H b<|d.map V.int)(_:Q (.bl<|ã<|ns=d) H)
def pq.imp{f:z->z->Yd z}{r a:R2}(h:pq X f r)(Á:∀x y H Q,a x y H Q->r x y H Q):pq X f a:=λb d e H x y i j Q k l m n=>h b d e H x y i j Q k l m<|Á _ _ _ _ n
def Xh(d:X.A.units+64<d_):pq X (Ų .Eq)<|aaz K:=pq.imp (Q6 d) λm n e f ⟨o,p,a,b,h,i,j,k,l⟩=>by subst h i;refine⟨.list<|a.map Ŭ,.list<|b.map Ŭ,.Y j<|nX a,.Y k<|nX b,nP _,nP _,?_⟩;show f (.bl<|fz _ _) e;rw[sA];exact l
def W9(d:X.A.units+64<d_):pq X (Ų .NotEq)<|abe K:=pq.imp (RC d) λm n e f ⟨o,p,a,b,h,i,j,k,l⟩=>by subst h i;refine⟨.list<|a.map Ŭ,.list<|b.map Ŭ,.Y j<|nX a,.Y k<|nX b,nP _,nP _,?_⟩;show f (.bl<|!fz _ _) e;rw[sA];exact l
def V4(d:X.A.units+64<d_):pq X (Ų .Eq)<|aaD K:=pq.imp (Q6 d) λm n e f ⟨o,p,a,b,h,i,j,k,l⟩=>by subst h i;refine⟨.tuple<|a.map Ŭ,.tuple<|b.map Ŭ,.bO j<|nX a,.bO k<|nX b,Bs _,Bs _,?_⟩;show f (.bl<|fz _ _) e;rw[sA];exact l
inductive aad(K:Ζ)(x:V)(y:V)(H:Hp)(Q:VK):Prop
 |mk(a b s t:_)(_:x=.ref a)(_:y=.ref b)(_:Tx K H a s)(_:Tx K H b t)(_:Q (.bl<|ã<|s=t) H)
inductive aaR(K:Ζ)(x:V)(y:V)(H:Hp)(Q:VK):Prop
 |mk(a b s t:_)(_:x=.ref a)(_:y=.ref b)(_:Tx K H a s)(_:Tx K H b t)(_:Q (.bl<|!ã (s=t)) H)
theorem Ld(s t:ê):ã (tI s=tI t)=ã (s=t):=by
 by_cases a:s=t
 .subst a;simp
 .rw[Ņ a,Ņ λb=>a<|WZ b]
def ow(a:X.A.units+64<d_):pq X (Ų .Eq)<|aad K:=pq.imp (Xh a) λj k l m ⟨b,d,e,f,h,i,n,o,p⟩=>
 ⟨b,d,tI e,tI f,h,i,by rwa [HD],by rwa [HD],by rwa [Ld]⟩
def VE(a:X.A.units+64<d_):pq X (Ų .NotEq)<|aaR K:=pq.imp (W9 a) λj k l m ⟨b,d,e,f,h,i,n,o,p⟩=>
 ⟨b,d,tI e,tI f,h,i,by rwa [HD],by rwa [HD],by rwa [Ld]⟩
theorem uK(N:J V)(n:M):br N g (B (n:Z))=N.take n:=by simp[br,HT.AU,HT.vN,Dv,YB]
theorem o9(N:J V)(n:M):br N (B (n:Z)) g=N.drop n:=by unfold br;simp[HT.AU,HT.vN,sH,gm,qL,Ϭ,Õ]
theorem vE(N:J V)(a b:M):br N (B (a:Z)) (B (b:Z))=(N.drop a).take (b -a):=by
 unfold br;rw[HT.vN,HT.vN];by_cases d:a<=L N
 .rw[sH d];by_cases e:b<=L N
  .rw[sH e]
  .rw[qL aL,gm bh,gm xV]
 .rw[qL<|show L N<=a by lia,Ϭ<|Õ _,Ϭ<|by lia];simp
def D6(N:J V)(a:M):br N (B (a:Z)) (B<|-1)=(N.drop a).dropLast:=by
 unfold br;have b:HT.CF (L N) (L N) (B<|-1)=L N -1:=by unfold HT.CF;lia
 rw[HT.vN,b,List.dropLast_eq_take,Ϸ];by_cases d:a<=L N
 .lia
 .rw[qL aL,Ϭ<|Õ _,Ϭ aL];simp
def QH(N:J V):br N (B<|-1) g=N.drop (L N -1):=by
 unfold br;have a:HT.CF (L N) 0 (B<|-1)=L N -1:=by unfold HT.CF;lia
 rw[HT.AU,a,gm bh]
theorem n7(t:ê)(n:M):(tV t).take n=tV (t.take n):=(Vi ..).symm
theorem kW(t:ê)(n:M):(tV t).drop n=tV (t.drop n):=(Ge ..).symm
theorem yw(t:ê):(tV t).dropLast=tV t.dropLast:=by unfold tV;simp
inductive Y9(K:Ζ)(N:J V)(H:Hp)(Q:VK):Prop
 |mk(p Å:_)(_:N=[.ref p])(_:(aN K H p Å\/gb K H p Å))(_:Q (.int<|L Å) H)
def SH(K:Ζ)(Â:TE):TE:=Ek (Y9 K)<|bg Â cB
def aay(K:Ζ)(Â:TE):TE:=Ek (T4 K)<|bg Â cB
def aaf(K:Ζ)(Â:TE):TE:=Ek (WR K)<|bg Â cB
section
variable{p pos:kX}
def ig.imp{f:z}{r a:J V->Hp->VK->Prop}(h:ig X f r)(Á:∀N H Q,a N H Q->r N H Q):ig X f a:=λb d e H N i Q j k l=>h b d e H N i Q j k<|Á _ _ _ l
def aQ(b:X.mg "len"=g)(d:PE X e Â)(f:Gl X "len":=by rfl)(a:ë [e] X.env=(Τ,Ŧ e X.env)::ë [] X.env:=by rfl):PE X (.Call (.Name "len" p) [e] [] pos)<|SH K Â:=
 jN (ig.imp Fi λ_ _ _ h=>let⟨p,i,j,k,l⟩:=h;⟨p,i,j,k,l⟩) f b tn (aa d aj a) bM bM a
def lQ(b:X.calm=U)(d:X.mg "all"=g)(f:PE X e Â)(h:Gl X "all":=by rfl)(a:ë [e] X.env=(Τ,Ŧ e X.env)::ë [] X.env:=by rfl):PE X (.Call (.Name "all" p) [e] [] pos)<|aay K Â:=
 jN (VB b) h d (by decide+kernel) (aa f aj a) bM bM a
def Rx(b:X.calm=U)(d:X.mg "sum"=g)(f:PE X e Â)(h:Gl X "sum":=by rfl)(a:ë [e] X.env=(Τ,Ŧ e X.env)::ë [] X.env:=by rfl):PE X (.Call (.Name "sum" p) [e] [] pos)<|aaf K Â:=
 jN (Ww b) h d (by decide+kernel) (aa f aj a) bM bM a
end
def Gt(K:Ζ)(η:S->É z)(x:S)(ns:J Z):Prop:=∃a,Gv η x (.ref a)/\∀H,gb K H a<|ns.map V.int
structure Md(K:Ζ)(η:S->É z):Prop where
 a_:η "len"=g
 qF:η "all"=g
 YV:η "ord"=g
 MM:η "range"=g
 bH:η "isinstance"=g
 jn:η "enumerate"=g
 iV:η "tuple"=g
 xw:η "list"=g
 J_:η "dict"=g
 UL:η "set"=g
 U7:η "sum"=g
 ZA:η "min"=g
 yk:η "Exception"=g
 uM:Gv η "LINE_END"<|.int<|10
 sN:Gv η "BLANK"<|.int<|32
 Ey:Gv η "OPENING"<|.int<|40
 Oz:Gv η "CLOSING"<|.int<|41
 SK:Gv η "COMMA"<|.int<|44
 Q5:Gv η "HYPHEN"<|.int<|45
 VZ:Gv η "AT"<|.int<|64
 Ai:Gv η "MOST_OF_NAME"<|.int<|30
 BG:Gv η "MOST_OF_PATH"<|.int<|40
 rL:Gv η "MOST_OF_SHORT_NAME"<|.int<|12
 uF:Gv η "MOST_OF_ARGUMENT"<|.int<|40
 E7:Gt K η "PATH_MARKS" [46,95,47,45]
 tK:Gt K η "NO_ARGUMENT_SIGNS" [44,40,41,123,125,64]
 QV:Gv η "IF"<|.int<|1
 F5:Gv η "ELSE"<|.int<|2
 GL:Gv η "END_OF_IF"<|.int<|3
 yc:Gv η "USE_BEGIN"<|.int<|123
 Ny:Gv η "USE_END"<|.int<|125
 vO:Gv η "PARAMETER_BEGIN"<|.int<|60
 zu:Gv η "PARAMETER_END"<|.int<|62
 y_:Gv η "MOST_FOLLOWED"<|.int<|800
 CS:Gv η "MOST_WITHIN"<|.int<|20
 IU:Gv η "MOST_ROWS"<|.int<|400
 EY:Gv η "MOST_BYTES"<|.int<|20000
 Lb:Gt K η "NO_PLACE" [0,0,0]
 l6:Gv η "OF_LITERAL"<|.int<|0
 oB:Gv η "OF_ARGUMENT"<|.int<|1
 NT:Gv η "OF_RULE"<|.int<|2
 Bo:Gv η "MOST_OF_LINE"<|.int<|200
 tY:Gv η "MOST_BLOCKS"<|.int<|200
 Fp:Gv η "MOST_PARTS"<|.int<|60
 FZ:Gv η "MOST_LINES"<|.int<|400
 vo:Gv η "MOST_CONDITIONS"<|.int<|6
 v5:Gv η "MOST_PARAMETERS"<|.int<|4
 Ao:Gv η "MOST_OF_TEXT"<|.int<|20000
 zk:Gv η "MOST_SETTINGS"<|.int<|10
 Bt:Gv η "BAD_SETTINGS"<|.int<|-1
 gh:Gv η "NOTHING_THERE"<|.int<|-2
 wY:Gv η "NO_FILE"<|.int<|-3
 Ln:Gv η "NOT_MADE"<|.int<|-4
 KO:Gv η "TOO_LONG"<|.int<|-6
section
open Builtin Builtin.ObjectAttr
structure Cl(K:Ζ)(mg:S->É z)(x:S)(C:O)(fs:J S):Prop where
 cl:OT K C
 mg:mg x=B (.ref C)
 na:∀f∈fs,xG K C f
 ha:Ń K (.ref C) "__class__"=B (B<|.builtin "object.__class__")
 hn:vf K (.builtin "object.__class__") "__get__"=B (B<|.builtin "getset_descriptor.__get__")
 htk:yK K (.builtin "object.__class__")=B U
 hm:tN K C (.type "object")=B U
def Cl.fo{x f:S}{fs:J S}(c:Cl K η x C fs)(h:fs.contains f=U:=by rfl):L4 K C f:=⟨c.cl,c.na f<|ē.mp h⟩
structure Dm(K:Ζ)(x ì:S)(st:dP)(θ:J S)(f:O)(Ä:jR):Prop where
 fn:UO K x ì st f Ä
 bd:jl K Ä θ []
structure Ad where
 lit:O
 use:O
 par:O
 code:O
 cond:O
 part:O
 doc:O
 run:O
 live:O
 frame:O
 made:O
 bw:O
 aS:O
 bG:O
 tf:O
 mf:O
 np:O
structure Kl(K:Ζ)(η:S->É z)(A:Ad):Prop where
 lit:Cl K η "Literal" A.lit ["signs"]
 use:Cl K η "Use" A.use ["name","arguments"]
 par:Cl K η "Parameter" A.par ["name"]
 code:Cl K η "CodeLine" A.code ["pieces"]
 cond:Cl K η "ConditionLine" A.cond ["kind","setting"]
 part:Cl K η "Part" A.part ["of_file","name","parameters","lines"]
 doc:Cl K η "Document" A.doc ["blocks","files","chunks","names","settings"]
 run:Cl K η "Run" A.run ["kind","signs","place","way","argument","parameter"]
 live:Cl K η "LiveLine" A.live ["block","number","pieces"]
 frame:Cl K η "Frame" A.frame ["parameters","arguments","place","way"]
 made:Cl K η "Made" A.made ["rows","reason","place"]
 bw:Cl K η "Maker" A.bw ["document","variant","followed","chunk_lines"]
 aS:Cl K η "Reader" A.aS ["blocks","part","elses","part_count","line_count","parameters"]
 bG:Cl K η "Held" A.bG ["document","variant","made"]
 ll:Ģ K (.ref A.lit) (.ref A.lit)=B U
 lu:Ģ K (.ref A.lit) (.ref A.use)=B Τ
 lp:Ģ K (.ref A.lit) (.ref A.par)=B Τ
 ul:Ģ K (.ref A.use) (.ref A.lit)=B Τ
 uu:Ģ K (.ref A.use) (.ref A.use)=B U
 up:Ģ K (.ref A.use) (.ref A.par)=B Τ
 pl:Ģ K (.ref A.par) (.ref A.lit)=B Τ
 pu:Ģ K (.ref A.par) (.ref A.use)=B Τ
 pp:Ģ K (.ref A.par) (.ref A.par)=B U
 nl:Ģ K (.type "NoneType") (.ref A.lit)=B Τ
 nu:Ģ K (.type "NoneType") (.ref A.use)=B Τ
 cc:Ģ K (.ref A.code) (.ref A.code)=B U
 cd:Ģ K (.ref A.code) (.ref A.cond)=B Τ
 dc:Ģ K (.ref A.cond) (.ref A.code)=B Τ
 dd:Ģ K (.ref A.cond) (.ref A.cond)=B U
noncomputable abbrev U8:J z:=[.type "Exception",.type "BaseException",.type "object"]
noncomputable def RD (fs:J S):J S:=("__setattr__":S)::("__getattribute__":S)::("__getattr__":S)::fs
structure Xc(K:Ζ)(mg:S->É z)(x:S)(C Δ Ķ:O)(fs:J S):Prop where
 ob:∃nm q å a sub b d dd e h i j k,K.lookup C=B (excClassObj nm q C Δ å U8 U a sub b d dd e h i j k "Exception.__new__")
 ns:Ac K Δ=U
 init:϶ K Δ "__init__"=B (B<|.ref Ķ)
 no:∀f∈RD fs,϶ K Δ f=B g
 bl:∀f∈fs,dR (.type "Exception") f=pure g
 fn:∃o,K.lookup Ķ=B o/\o.cls=.type "function"
 mg:mg x=B (.ref C)
 kp:ũ K (.ref C)=U
noncomputable abbrev Y3:dP:=fH (bU 39) 0
noncomputable abbrev Zr:dP:=fH (bU 40) 0
noncomputable abbrev ZU:dP:=fH (bU 41) 0
noncomputable abbrev Zx:dP:=fH (bU 42) 0
noncomputable abbrev Zb:dP:=fH (bU 43) 0
noncomputable abbrev US:dP:=fH (bU 52) 0
noncomputable abbrev Gr (i:M):dP:=fH (bU 97) i
noncomputable abbrev Ik (i:M):dP:=fH (bU 53) i
noncomputable abbrev YN:dP:=fH (bU 65) 0
noncomputable abbrev MB (i:M):dP:=fH (bU 66) i
noncomputable abbrev Qu:dP:=fH (bU 67) 0
noncomputable abbrev FW (i:M):dP:=fH (bU 69) i
noncomputable abbrev OU (i:M):dP:=fH (bU 109) i
noncomputable abbrev UQ:dP:=fH (bU 68) 0
noncomputable abbrev sTf:dP:=fH (bU 96) 0
noncomputable abbrev sMf:dP:=fH (bU 64) 0
theorem j3{l:J Ν}(h:L l=0):l=[]:=Gz.mp h
def qQ{Ν:Type}{l:J Ν}{n:M}(h:L l=n+1):∃a r,l=a::r/\L r=n:=by
 cases l with
 |nil=>cases h
 |cons a r=>exact⟨a,r,D,RS h⟩
def p_{l:J Ν}(h:L l=1):∃a,l=[a]:=let⟨a,d,b,h⟩:=qQ h;⟨a,by rw[b,j3 h]⟩
def IA{l:J Ν}(h:L l=2):∃a b,l=[a,b]:=let⟨a,f,d,h⟩:=qQ h;let⟨b,e⟩:=p_ h;⟨a,b,by rw[d,e]⟩
def Z4{l:J Ν}(h:L l=3):∃a b c,l=[a,b,c]:=let⟨a,f,d,h⟩:=qQ h;let⟨b,c,e⟩:=IA h;⟨a,b,c,by rw[d,e]⟩
def TX{l:J Ν}(h:L l=4):∃a b c d,l=[a,b,c,d]:=let⟨a,i,e,h⟩:=qQ h;let⟨b,c,d,f⟩:=Z4 h;⟨a,b,c,d,by rw[e,f]⟩
def WG{l:J Ν}(h:L l=5):∃a b c d f,l=[a,b,c,d,f]:=let⟨a,j,e,h⟩:=qQ h;let⟨b,c,d,f,i⟩:=TX h;⟨a,b,c,d,f,by rw[e,i]⟩
noncomputable abbrev eF (x:S) (s:dP):S×dP:=(x,s)
noncomputable abbrev eM (c m q:S) (s:dP):S×S×S×dP:=(c,m,q,s)
noncomputable def Ak:J<|S×dP:=[eF "codes"<|bU 14,eF "begins"<|bU 15,eF "is_sign"<|bU 16,eF "is_small_letter"<|bU 17,eF "is_capital"<|bU 18,eF "is_digit"<|bU 19,eF "is_word_byte"<|bU 20,eF "is_path_byte"<|bU 21,eF "is_word"<|bU 22,eF "is_name"<|bU 23,eF "is_path"<|bU 24,eF "is_short_name"<|bU 25,eF "is_argument_sign"<|bU 26,eF "is_argument"<|bU 27,eF "split_at"<|bU 28,eF "split_name_and_list"<|bU 29,eF "split_settings"<|bU 30,eF "parse_line"<|bU 44,eF "parse_pieces"<|bU 45,eF "marked_size"<|bU 46,eF "parse_marked"<|bU 47,eF "parse_use"<|bU 48,eF "names_used"<|bU 49,eF "is_alone_with_use"<|bU 50,eF "live_numbers"<|bU 54,eF "indented"<|bU 70,eF "argument_runs"<|bU 71,eF "row_size"<|bU 72,eF "byte_count"<|bU 73,eF "text_of"<|bU 74,eF "make_file"<|bU 75,eF "home_at"<|bU 77,eF "home_numbers"<|bU 78,eF "way_numbers"<|bU 79,eF "pairs_of"<|bU 80,eF "pairs_of_literal"<|bU 81,eF "pairs_of_argument"<|bU 82,eF "names_used_live"<|bU 84,eF "add_new"<|bU 85,eF "names_reached"<|bU 86,eF "idle_lines"<|bU 87,eF "code_numbers"<|bU 88,eF "parse_header"<|bU 98,eF "parse_chunk_header"<|bU 99,eF "read_blocks"<|bU 100,eF "answer_read"<|bU 110,eF "answer_variant"<|bU 111,eF "answer_file"<|bU 112,eF "answer_count"<|bU 113,eF "answer_home"<|bU 114,eF "answer_where"<|bU 115,eF "answer_argument"<|bU 116,eF "answer_live"<|bU 117,eF "answer_reached"<|bU 118,eF "answer_idle"<|bU 119,eF "answer_check"<|bU 120,eF "answer_files"<|bU 121,eF "answer_size"<|bU 122,eF "with_length"<|bU 123,eF "common_size"<|bU 124,eF "answers"<|bU 126]
noncomputable def wU:J<|S×S×S×dP:=[eM "CodeLine" "__init__" "CodeLine.__init__"<|Zx,eM "ConditionLine" "__init__" "ConditionLine.__init__"<|Zb,eM "Document" "__init__" "Document.__init__"<|Ik 0,eM "Document" "code_line_at" "Document.code_line_at"<|Ik 2,eM "Document" "note_part" "Document.note_part"<|Ik 1,eM "Document" "piece_at" "Document.piece_at"<|Ik 3,eM "Frame" "__init__" "Frame.__init__"<|Qu,eM "Held" "__init__" "Held.__init__"<|OU 0,eM "Held" "has_file" "Held.has_file"<|OU 3,eM "Held" "hold_document" "Held.hold_document"<|OU 1,eM "Held" "hold_variant" "Held.hold_variant"<|OU 2,eM "Held" "make" "Held.make"<|OU 4,eM "Held" "refusal_of" "Held.refusal_of"<|OU 5,eM "Literal" "__init__" "Literal.__init__"<|Y3,eM "LiveLine" "__init__" "LiveLine.__init__"<|MB 0,eM "LiveLine" "place_of" "LiveLine.place_of"<|MB 1,eM "Made" "__init__" "Made.__init__"<|UQ,eM "Maker" "__init__" "Maker.__init__"<|FW 0,eM "Maker" "code_of_chunk" "Maker.code_of_chunk"<|FW 2,eM "Maker" "follow" "Maker.follow"<|FW 4,eM "Maker" "follow_alone" "Maker.follow_alone"<|FW 5,eM "Maker" "follow_file" "Maker.follow_file"<|FW 3,eM "Maker" "follow_joined" "Maker.follow_joined"<|FW 6,eM "Maker" "follow_use" "Maker.follow_use"<|FW 8,eM "Maker" "follow_use_in_row" "Maker.follow_use_in_row"<|FW 7,eM "Maker" "live_lines" "Maker.live_lines"<|FW 1,eM "Parameter" "__init__" "Parameter.__init__"<|ZU,eM "Part" "__init__" "Part.__init__"<|US,eM "Reader" "__init__" "Reader.__init__"<|Gr 0,eM "Reader" "is_paired" "Reader.is_paired"<|Gr 7,eM "Reader" "knows_parameters" "Reader.knows_parameters"<|Gr 6,eM "Reader" "pair" "Reader.pair"<|Gr 8,eM "Reader" "take" "Reader.take"<|Gr 1,eM "Reader" "take_end" "Reader.take_end"<|Gr 5,eM "Reader" "take_header" "Reader.take_header"<|Gr 3,eM "Reader" "take_prose" "Reader.take_prose"<|Gr 2,eM "Reader" "take_within" "Reader.take_within"<|Gr 4,eM "Run" "__init__" "Run.__init__"<|YN,eM "Use" "__init__" "Use.__init__"<|Zr]
abbrev eV(x q:S)(st:dP)(θ:J S):Prop:=∀(kV a b:z) (d:É O) (e ct:z) (Μ:J z),L Μ=L θ->R8 (eB x q (qb st) (eY st) (ay st) .none kV a b d e ct) ⟨Μ,[]⟩=pure (θ.zip Μ)
section
variable{x:S}{dH Ŕ ji nW x6:S}
noncomputable abbrev bA (x q:S) (st:dP) (kV a b:z) (d:É O) (e ct:z) (Μ:J z):=R8 (eB x q (qb st) (eY st) (ay st) .none kV a b d e ct) ⟨Μ,[]⟩
theorem b1(h:∀kV b d e f ct a,bA x q st kV b d e f ct [a]=pure [(dH,a)]):eV x q st [dH]:=λ_ _ _ _ _ _ j i=>by obtain⟨a,rfl⟩:=p_ i;exact h _ _ _ _ _ _ _
theorem b2(h:∀kV d e f i ct a b,bA x q st kV d e f i ct [a,b]=pure [(dH,a),(Ŕ,b)]):eV x q st [dH,Ŕ]:=λ_ _ _ _ _ _ k j=>by obtain⟨a,b,rfl⟩:=IA j;exact h _ _ _ _ _ _ _ _
theorem b3(h:∀kV d e f i ct a b c,bA x q st kV d e f i ct [a,b,c]=pure [(dH,a),(Ŕ,b),(ji,c)]):eV x q st [dH,Ŕ,ji]:=λ_ _ _ _ _ _ k j=>by obtain⟨a,b,c,rfl⟩:=Z4 j;exact h _ _ _ _ _ _ _ _ _
theorem b4(h:∀kV e f i j ct a b c d,bA x q st kV e f i j ct [a,b,c,d]=pure [(dH,a),(Ŕ,b),(ji,c),(nW,d)]):eV x q st [dH,Ŕ,ji,nW]:=λ_ _ _ _ _ _ l k=>by obtain⟨a,b,c,d,rfl⟩:=TX k;exact h _ _ _ _ _ _ _ _ _ _
def b5(h:∀kV f i j k ct a b c d e,bA x q st kV f i j k ct [a,b,c,d,e]=pure [(dH,a),(Ŕ,b),(ji,c),(nW,d),(x6,e)]):eV x q st [dH,Ŕ,ji,nW,x6]:=λ_ _ _ _ _ _ m l=>by obtain⟨a,b,c,d,e,rfl⟩:=WG l;exact h _ _ _ _ _ _ _ _ _ _ _
end
noncomputable def Oc (A:Ad):J<|S×O:=[("Literal",A.lit),("Use",A.use),("Parameter",A.par),("CodeLine",A.code),("ConditionLine",A.cond),("Part",A.part),("Document",A.doc),("Run",A.run),("LiveLine",A.live),("Frame",A.frame),("Made",A.made),("Maker",A.bw),("Reader",A.aS),("Held",A.bG)]
structure Wk(K:Ζ)(η:S->É z)(A:Ad):Prop where
 df:∀x st θ,(x,st)∈Ak->eV x x st θ->∃f Ä,Df K η x st θ f Ä
 dm:∀c C m q st θ,(c,C)∈Oc A->(c,m,q,st)∈wU->eV m q st θ->∃f Ä,Dm K m q st θ f Ä/\GR K C m f
 ini:∀c C q st θ,(c,C)∈Oc A->(c,("__init__":S),q,st)∈wU->eV "__init__" q st θ->∃f Ä,Dm K "__init__" q st θ f Ä/\Mk K C f/\η c=B (.ref C)
 md:Md K η
 kl:Kl K η A
 np:Gv η "NO_PLACE" (.ref A.np)/\∀H,gb K H A.np [.int 0,.int 0,.int 0]
 tf:∃Δ f Ä,Dm K "__init__" "TextFault.__init__" sTf ["self","line","reason"] f Ä/\Xc K η "TextFault" A.tf Δ f ["line","reason"]
 mf:∃Δ f Ä,Dm K "__init__" "MakingFault.__init__" sMf ["self","reason","place"] f Ä/\Xc K η "MakingFault" A.mf Δ f ["reason","place"]
section
variable{A:Ad}{x c m:S}{k:M}
theorem Wk.kn(d:Wk K η A)(i:M)(χ:aB Δ θ<|ay st)(j:∀{f:O} {a:z} {A:ź} {outer:J sG} {s:Í} (H:Hp) (vs:J V) (Q:VK) (E:XK),c6 k (A.deeper<|gK x (ay st) s.heap.objs.size f a)->Ã vs H Q E-> ∃t,zq (o8 c9 P w K η Ξ Δ x (ay st) f a A outer s H E).SI (eY st) t/\t {nx:=λ_ R=>Q .b_ R,rt:=Q} (start Δ vs) H)
  (e:Ak[i]?=B (x,st):=by rfl) (b:eV x x st θ:=by first|exact b1 λ_ _ _ _ _ _ _=>rfl|exact b2 λ_ _ _ _ _ _ _ _=>rfl|exact b3 λ_ _ _ _ _ _ _ _ _=>rfl|exact b4 λ_ _ _ _ _ _ _ _ _ _=>rfl|exact b5 λ_ _ _ _ _ _ _ _ _ _ _=>rfl) (len:∀vs H Q E,Ã vs H Q E->L vs=L θ:=by intro _ _ _ _ h;first|(cases h;subst_vars;rfl)|((repeat(rcases h with⟨_,h⟩));subst_vars;rfl)):Kn P w K η Ξ c9 (k+1) x θ Ã:=by
 obtain⟨f,m,l⟩:=d.df _ _ _ (υ e) b;exact l.kn χ len λ_ _ _ _=>j
end
end
noncomputable def yF:J Z->J ê->É ş
 |[],[p]=>B<|.reached p
 |_,_=>g
variable{A:Ad}
noncomputable def DB:J Z->J ê->É ş
 |[],[p,t]=>B<|.check p t
 |_,_=>g
noncomputable def El:J Z->J ê->É ş
 |[],[]=>B .files
 |_,_=>g
noncomputable def x9:J Z->J ê->É ş
 |[],[t]=>B<|.variant t
 |_,_=>g
noncomputable def Hw:J Z->J ê->É ş
 |[],[t]=>B<|.read t
 |_,_=>g
noncomputable def IK:J Z->J ê->É ş
 |[],[]=>B .size
 |_,_=>g
noncomputable def GH:J Z->J ê->É ş
 |[],[]=>B .idle
 |_,_=>g
noncomputable def DX:J Z->J ê->É ş
 |[],[p]=>B<|.count p
 |_,_=>g
noncomputable def IW:J Z->J ê->É ş
 |[],[p]=>B<|.file p
 |_,_=>g
noncomputable def G_:J Z->J ê->É ş
 |[b,l],[]=>B<|.live b l
 |_,_=>g
noncomputable def Jf:J Z->J ê->É ş
 |[i,j],[p]=>B<|.home i j p
 |_,_=>g
noncomputable def D5:J Z->J ê->É ş
 |[b,l,q,o],[p]=>B<|.whereIs b l q o p
 |_,_=>g
noncomputable def v8:J Z->J ê->É ş
 |[b,l,q,i,o],[p]=>B<|.argument b l q i o p
 |_,_=>g
structure Vo where
 n:M
 k:M
 x:S
 cl:J Z->J ê->É ş
def cR:J Vo:=[⟨0,1,"answer_read",Hw⟩,⟨0,1,"answer_variant",x9⟩,⟨0,1,"answer_file",IW⟩,⟨0,1,"answer_count",DX⟩,⟨2,1,"answer_home",Jf⟩,⟨4,1,"answer_where",D5⟩,⟨5,1,"answer_argument",v8⟩,⟨2,0,"answer_live",G_⟩,⟨0,1,"answer_reached",yF⟩,⟨0,0,"answer_idle",GH⟩,⟨0,2,"answer_check",DB⟩,⟨0,0,"answer_files",El⟩,⟨0,0,"answer_size",IK⟩]
section
variable(K:Ζ)
noncomputable def gv (x:S):É z:=match ϶ K ĺ x with
 |some (B v)=>B v
 |_=>g
noncomputable def vz:z->O
 |.ref a=>a
 |_=>0
noncomputable def ir:z->ě
 |.ref _=>U
 |_=>Τ
noncomputable def FA:z->É Z
 |.int i _=>B i
 |_=>g
noncomputable def ga (x:S):O:=((gv K x).map vz).getD 0
noncomputable def mf (C:O) (m:S):O:=match Ń K (.ref C) m with
 |some (B v)=>vz v
 |_=>0
noncomputable def mOk (C:O) (m:S):ě:=match Ń K (.ref C) m with
 |some (B v)=>ir v
 |_=>Τ
abbrev FV:=S×S×OF×FuncBody×kK×O×J (S×O)×z×O
noncomputable def U3 (f:O):É FV:=match K.lookup f with
 |some ⟨_,_,.func d,_⟩=>B (d.name,d.qualname,d.params,d.body,d.scope,d.globals,d.closure,d.defaults,d.builtins)
 |_=>g
noncomputable def fw (x q:S) (st:dP):FV:=(x,q,qb st,.stmts<|eY st,ay st,ĺ,[],.none,Jz)
noncomputable def C3 (f:O) (q:S):ě:=match K.lookup f with
 |some ⟨_,_,.func d,_⟩=>mD K d.code q&&ũ K (.ref f)&&pU K (.ref f)
 |_=>Τ
noncomputable def TR (C:O):ě:=kj K C Str.empty&&nG K C&&ve K C&&qs K C&&ũ K (.ref C)
noncomputable def Te (a:O):É<|z×J (É Z):=match K.lookup a with
 |some ⟨c,_,.seq Ï _,_⟩=>B (c,Ï.toList.map FA)
 |_=>g
noncomputable def Km (a:O):É<|z×É Z×É Z×O:=match K.lookup a with
 |some ⟨c,_,.seq Ï _,_⟩=>(match Ï.toList with
  |[x,y,.ref b]=>B (c,FA x,FA y,b)
  |_=>g)
 |_=>g
noncomputable def WL (a:O):É<|z×É O×ŕ (É z)×J (É Z×Z×ě):=match K.lookup a with
 |some ⟨c,d,.dict Α _,Ė⟩=>B (c,d,Ė,Α.toList.map λe=>(FA e.key,e.hash,ir e.val))
 |_=>g
noncomputable def V_ (a:O):J ez:=match K.lookup a with
 |some ⟨_,_,.dict Α _,_⟩=>Α.toList
 |_=>[]
noncomputable def CI (C:O):O:=match K.lookup C with
 |some ⟨_,_,.cls d,_⟩=>d.ns
 |_=>0
noncomputable def TM (C:O):É<|z×J z×ě×ě×É z:=match K.lookup C with
 |some ⟨c,_,.cls d,Ė⟩=>(match d.mro,Ė.toList with
  |.ref m::r,[_,_,_,_,a,_]=>if YC m C then B (c,r,d.hasDict,d.hasDel,a) else g
  |_,_=>g)
 |_=>g
noncomputable def P5 (a:O):É z:=match K.lookup a with
 |some ⟨c,_,_,_⟩=>B c
 |_=>g
noncomputable abbrev eI (x:S) (n:Z):S×Z:=(x,n)
noncomputable abbrev eC (x:S) (n:J S):S×J S:=(x,n)
noncomputable abbrev eK (x y:S) (b:ě):S×S×ě:=(x,y,b)
noncomputable def Bp:J<|S×S×dP×J S:=[("TextFault","TextFault.__init__",sTf,["line","reason"]),("MakingFault","MakingFault.__init__",sMf,["reason","place"])]
noncomputable def w4:J<|S×J S:=[eC "Literal" ["signs"],eC "Use" ["name","arguments"],eC "Parameter" ["name"],eC "CodeLine" ["pieces"],eC "ConditionLine" ["kind","setting"],eC "Part" ["of_file","name","parameters","lines"],eC "Document" ["blocks","files","chunks","names","settings"],eC "Run" ["kind","signs","place","way","argument","parameter"],eC "LiveLine" ["block","number","pieces"],eC "Frame" ["parameters","arguments","place","way"],eC "Made" ["rows","reason","place"],eC "Maker" ["document","variant","followed","chunk_lines"],eC "Reader" ["blocks","part","elses","part_count","line_count","parameters"],eC "Held" ["document","variant","made"]]
noncomputable def Ra:J S:=["len","all","ord","range","isinstance","enumerate","tuple","list","dict","set","sum","min","Exception"]
noncomputable def QK:J<|S×Z:=[eI "LINE_END"<|10,eI "BLANK"<|32,eI "OPENING"<|40,eI "CLOSING"<|41,eI "COMMA"<|44,eI "HYPHEN"<|45,eI "AT"<|64,eI "MOST_OF_NAME"<|30,eI "MOST_OF_PATH"<|40,eI "MOST_OF_SHORT_NAME"<|12,eI "MOST_OF_ARGUMENT"<|40,eI "IF"<|1,eI "ELSE"<|2,eI "END_OF_IF"<|3,eI "USE_BEGIN"<|123,eI "USE_END"<|125,eI "PARAMETER_BEGIN"<|60,eI "PARAMETER_END"<|62,eI "MOST_FOLLOWED"<|800,eI "MOST_WITHIN"<|20,eI "MOST_ROWS"<|400,eI "MOST_BYTES"<|20000,eI "OF_LITERAL"<|0,eI "OF_ARGUMENT"<|1,eI "OF_RULE"<|2,eI "MOST_OF_LINE"<|200,eI "MOST_BLOCKS"<|200,eI "MOST_PARTS"<|60,eI "MOST_LINES"<|400,eI "MOST_CONDITIONS"<|6,eI "MOST_PARAMETERS"<|4,eI "MOST_OF_TEXT"<|20000,eI "MOST_SETTINGS"<|10,eI "BAD_SETTINGS"<|-1,eI "NOTHING_THERE"<|-2,eI "NO_FILE"<|-3,eI "NOT_MADE"<|-4,eI "TOO_LONG"<|-6]
noncomputable def Jc:J<|S×J Z:=[("PATH_MARKS",[46,95,47,45]),("NO_ARGUMENT_SIGNS",[44,40,41,123,125,64]),("NO_PLACE",[0,0,0])]
noncomputable def VU:J<|S×S×ě:=[eK "Literal" "Literal" U,eK "Literal" "Use" Τ,eK "Literal" "Parameter" Τ,eK "Use" "Literal" Τ,eK "Use" "Use" U,eK "Use" "Parameter" Τ,eK "Parameter" "Literal" Τ,eK "Parameter" "Use" Τ,eK "Parameter" "Parameter" U,eK "CodeLine" "CodeLine" U,eK "CodeLine" "ConditionLine" Τ,eK "ConditionLine" "CodeLine" Τ,eK "ConditionLine" "ConditionLine" U]
noncomputable def xI (x:S):O:=match ϶ K (CI K<|ga K x) "__init__" with
 |some (B v)=>vz v
 |_=>0
noncomputable def xOk (x:S):ě:=match ϶ K (CI K<|ga K x) "__init__" with
 |some (B v)=>ir v
 |_=>Τ
noncomputable def rS (i:M):O:=vz (((V_ K<|ga K "CALLS").map (·.val)).getD i .none)
noncomputable def HJ (i:M):O:=((Km K<|rS K i).map λa=>a.2.2.2).getD 0
def L_:ě:=Ak.all λa=>((gv K a.1).any ir)&&C3 K (ga K a.1) a.1
noncomputable def I4:ě:=(wU.all λa=>mOk K (ga K a.1) a.2.1&&C3 K (mf K (ga K a.1) a.2.1) a.2.2.1)
 &&(w4.all λa=>((gv K a.1).any ir)&&TR K (ga K a.1))&&(Jc.all λa=>(gv K a.1).any ir)
 &&(Bp.all λa=>((gv K a.1).any ir)&&Ac K (CI K<|ga K a.1)&&ũ K (.ref<|ga K a.1)&&xOk K a.1&&C3 K (xI K a.1) a.2.1)
 &&((gv K "CALLS").any ir)&&(cR.zipIdx.all λa=>YC (HJ K a.2)<|ga K a.1.x)
abbrev DQ:=J (É FV)×J (É FV)×J (É FV)
abbrev nT:=J (J<|É<|É z)×(É (É z)×É ě)×J (É ě)×J (É ě)×J (É<|É z)×J (É Z)×J (É<|z×J (É Z))
 ×J (É (z×J z×ě×ě×É z)×J (É<|É z)×É z)×É (z×É O×ŕ (É z)×J (É Z×Z×ě))×J (É<|z×É Z×É Z)
noncomputable def L5:DQ:=
 (Ak.map λa=>U3 K<|ga K a.1,wU.map λa=>U3 K<|mf K (ga K a.1) a.2.1,Bp.map λa=>U3 K<|xI K a.1)
noncomputable def L7:nT:=
 (w4.map λa=>Ń K (.ref<|ga K a.1) "__setattr__"::Ń K (.ref<|ga K a.1) "__class__"::a.2.map λf=>Ń K (.ref<|ga K a.1) f,(vf K (.builtin "object.__class__") "__get__",yK K<|.builtin "object.__class__"),w4.map λa=>tN K (ga K a.1)<|.type "object",(VU.map λa=>Ģ K (.ref<|ga K a.1)<|.ref<|ga K a.2.1)++[Ģ K (.type "NoneType")<|.ref<|ga K "Literal",Ģ K (.type "NoneType")<|.ref<|ga K "Use"],Ra.map λx=>϶ K ĺ x,QK.map λa=>(gv K a.1).bind FA,Jc.map λa=>Te K<|ga K a.1,Bp.map λa=>(TM K<|ga K a.1,(RD a.2.2.2).map λf=>϶ K (CI K<|ga K a.1) f,P5 K<|xI K a.1),WL K<|ga K "CALLS",(ſ 13).map λi=>(Km K<|rS K i).map λa=>(a.1,a.2.1,a.2.2.1))
end
def JT:DQ:=
 (Ak.map λa=>B<|fw a.1 a.1 a.2,wU.map λa=>B<|fw a.2.1 a.2.2.1 a.2.2.2,Bp.map λa=>B<|fw "__init__" a.2.1 a.2.2.1)
def Lv:nT:=
 (w4.map λa=>B (B<|.builtin "object.__setattr__")::B (B<|.builtin "object.__class__")::a.2.map λ_=>B g,(B<|B<|.builtin "getset_descriptor.__get__",B U),w4.map λ_=>B U,(VU.map λa=>B a.2.2)++[B Τ,B Τ],Ra.map λ_=>B g,QK.map λa=>B a.2,Jc.map λa=>B (.type "tuple",a.2.map B),Bp.map λa=>(B (.type "type",U8,U,Τ,B<|.builtin "Exception.__new__"),(RD a.2.2.2).map λ_=>B g,B<|.type "function"),B (.type "dict",g,#[],(ſ 13).map λi=>(B ((i:M):Z),((i:M):Z),U)),cR.map λr=>B (.type "tuple",B ((r.n:M):Z),B ((r.k:M):Z)))
noncomputable def Oq:J gf->M->Ζ
 |[],_=>[]
 |o::r,i=>match tP o with
  |some o=>(i,o)::Oq r (i+1)
  |none=>Oq r<|i+1
def fragOf(h:ό):Ζ:=Oq h.objs.toList 0
theorem MN:∀(l:J gf) (i a:M) (o:gf),(Oq l i).lookup a=B o->i<=a/\∃x,l[a -i]?=B x/\tP x=B o
 |[],i,a,o,b=>nomatch b
 |x::e,i,a,o,b=>by
  have f:(Oq e<|i+1).lookup a=B o->i<=a/\∃d,(x::e)[a -i]?=B d/\tP d=B o:=λb=>by
   obtain⟨m,d,n,j⟩:=MN e (i+1) a o b;refine⟨aL,d,?_,j⟩
   rwa [show a -i=(a -(i+1))+1 by lia,fV]
  unfold Oq at b;cases h:tP x with
  |none=>rw[h]at b;exact f b
  |some d=>
   rw[h]at b;rw[RM]at b;by_cases k:a=i
   .simp_all[Õ,yO]
   .rw[show(a==i)=Τ from Ş.mpr k]at b;exact f b
theorem N6(h:ό):(fragOf h).In h:=λi j b=>by obtain⟨_,d,a,e⟩:=MN _ _ _ _ b;rw[YB,Ϙ]at a;unfold Heap.get?;rw[a];obtain⟨k,l,f,m⟩:=d;cases f<;>cases e<;>rfl
section
set_option maxRecDepth 1000000
open PySem.W
noncomputable abbrev pT:Ŝ:=PySem.Challenge.pw_tangledfiles_s01_answers
noncomputable def ofL:J gf->M->BT->BT
 |[],_,t=>t
 |o::r,i,t=>ofL r (i+1)<|t.ins i o
noncomputable def sT (w:ś) (os:j6):SharedT:=⟨ofL (eH w.params).objs.toList 0 .nil,11,(eH w.params).life,#[],uv,xQ,os⟩
theorem VM(w:ś)(os:j6):(sT w os).abs=⟨eH w.params,#[],uv,xQ,os⟩:=by kernel_rfl
theorem Ax{tb:jC->É qU}{p:Ŝ}{w:ś}{d:M}{e:É z}:∀{n:M} {s s':Í} {t:Thread} {f:Flow} {c:Code} {q:kX},segRun tb p w d e 0 n s t=B (f,s',c,q)->topRun tb p w d e n s t=B s'
 |0,s,s',t,f,c,q,a=>nomatch a
 |n+1,s,s',t,f,c,q,a=>by
  have b:through t=(endAt 0 t).isSome:=by
   obtain⟨k,code,pos,stack⟩:=t;cases stack with
   |cons o r=>rfl
   |nil=>cases k<;>first|rfl|(rename_i l;cases l<;>rfl)
  unfold segRun at a;unfold topRun;cases h:endAt 0 t with
  |some u=>
   rw[h]at a b;rw[b];cases a;rfl
  |none=>
   rw[h]at a b;rw[b];cases i:stepOk d e t with
   |false=>rw[i]at a;cases a
   |true=>
    rw[i]at a;cases j:step (denote tb) p w s t with
    |halt v m=>rw[j]at a;cases a
    |go m x=>rw[j]at a;exact Ax a
noncomputable def X3 (w:ś) (s:Í):ě:=staticsOk (j7 pT.main.body) (eH w.params) s.heap&&namesBound pT s.heap&&gensDone s&&laidKept (eH w.params) s.heap
theorem TH{q:Ŝ}{a:J S}{b:Í->ě}{d:Í->Ν}{e:ś->Ν}{Δ è:M}{f:ě}
  (i:∀w:ś,(fencedOpening dO pT w Δ).map (λs=>(s.heap,s.gens,s.drawn,s.toks))=B (eH w.params,#[],uv,xQ))
  (j:∀w:ś,((eH w.params).isNs ĺ&&(#[]:ŕ sY).size==0,(eH w.params).objs.size,(eH w.params).nsMap ĺ "__annotations__")=(U,11,B<|.ref 6)) (F:Nat.ble è Δ=U)
  (run:∀(w:ś) (os:j6),(nA dO pT w 11 (B<|.ref 6) 0 è (sT w os)<|nB pT).map (λr=>(X3 w r.2.1.abs,JJ q a (j7 pT.main.body) b f r.2.1.abs,d r.2.1.abs))=B (U,JK q a,e w)):LeftO pT q a b d e Δ f:=λw=>by
 obtain⟨⟨k,l,m,n,os⟩,o,p⟩:=Ü.mp<|i w;obtain⟨rfl,rfl,rfl,rfl⟩:k=eH w.params/\l= #[]/\m=uv/\n=xQ:=by simpa using p
 obtain⟨t,u,v⟩:_/\_/\_:=by simpa only[gn] using j w
 obtain⟨⟨G,s2,H,I⟩,x,y⟩:=Ü.mp<|run w os;obtain⟨z,A,C⟩:_/\_/\_:=by simpa only[gn] using y
 have h:=Ax<|segRun_of x;rw[VM]at h;have r:=topRun_mono (Δ -è) _ _ _ _ h;rw[show è+(Δ -è)=Δ by simp_all]at r;have E:topFrom dO pT w Δ ⟨eH w.params,#[],uv,xQ,os⟩=B s2.abs:=by unfold topFrom;dsimp only;rw[t,u,v,r];show(match X3 w s2.abs with|true=>_|false=>_)=_;rw[z]
 unfold openEnds;rw[o];show(topFrom dO pT w Δ _).map _=_;rw[E];exact Ğ B<|LC A C
noncomputable def qT:Ŝ:=view pT [126]
noncomputable def oq:J S:=pT.main.scope.names.dropLast.map (·.1)
theorem Zs(w:ś):(fencedOpening dO pT w 20000).map (λs=>(s.heap,s.gens,s.drawn,s.toks))=B (eH w.params,#[],uv,xQ):=boot_open (by kernel_rfl) bM (λs=>by kernel_rfl) w
theorem Zh(w:ś):((eH w.params).isNs ĺ&&(#[]:ŕ sY).size==0,(eH w.params).objs.size,(eH w.params).nsMap ĺ "__annotations__")=(U,11,B<|.ref 6):=by kernel_rfl
end
section
open PySem.W
abbrev w0(w:ś)(b:ě):ś:=w.withFollow "special-get-raises" b
theorem rA0(w:ś)(os:j6):(nA dO pT (w0 w false) 11 (some<|.ref 6) 0 7100 (sT (w0 w false) os)<|nB pT).map (λr=>(X3 (w0 w false) r.2.1.abs,JJ qT oq (j7 pT.main.body) (XJ []) true r.2.1.abs))=some (true,JK qT oq):=by
 rw[ľ,Ŀ,qV]
 kernel_rfl
theorem rB0(w:ś)(os:j6):(nA dO pT (w0 w false) 11 (some<|.ref 6) 0 7100 (sT (w0 w false) os)<|nB pT).map (λr=>(L_<|fragOf r.2.1.abs.heap,L7<|fragOf r.2.1.abs.heap))=some (true,Lv):=by
 rw[ľ,Ŀ]
 kernel_rfl
theorem rC0(w:ś)(os:j6):(nA dO pT (w0 w false) 11 (some<|.ref 6) 0 7100 (sT (w0 w false) os)<|nB pT).map (λr=>I4<|fragOf r.2.1.abs.heap)=some true:=by
 rw[ľ,Ŀ]
 kernel_rfl
theorem rD0(w:ś)(os:j6):(nA dO pT (w0 w false) 11 (some<|.ref 6) 0 7100 (sT (w0 w false) os)<|nB pT).map (λr=>L5<|fragOf r.2.1.abs.heap)=some JT:=by
 rw[ľ,Ŀ]
 kernel_rfl
theorem rA1(w:ś)(os:j6):(nA dO pT (w0 w true) 11 (some<|.ref 6) 0 7100 (sT (w0 w true) os)<|nB pT).map (λr=>(X3 (w0 w true) r.2.1.abs,JJ qT oq (j7 pT.main.body) (XJ []) true r.2.1.abs))=some (true,JK qT oq):=by
 rw[ľ,Ŀ,qV]
 kernel_rfl
theorem rB1(w:ś)(os:j6):(nA dO pT (w0 w true) 11 (some<|.ref 6) 0 7100 (sT (w0 w true) os)<|nB pT).map (λr=>(L_<|fragOf r.2.1.abs.heap,L7<|fragOf r.2.1.abs.heap))=some (true,Lv):=by
 rw[ľ,Ŀ]
 kernel_rfl
theorem rC1(w:ś)(os:j6):(nA dO pT (w0 w true) 11 (some<|.ref 6) 0 7100 (sT (w0 w true) os)<|nB pT).map (λr=>I4<|fragOf r.2.1.abs.heap)=some true:=by
 rw[ľ,Ŀ]
 kernel_rfl
theorem rD1(w:ś)(os:j6):(nA dO pT (w0 w true) 11 (some<|.ref 6) 0 7100 (sT (w0 w true) os)<|nB pT).map (λr=>L5<|fragOf r.2.1.abs.heap)=some JT:=by
 rw[ľ,Ŀ]
 kernel_rfl
theorem pG{Ν d e:Type}{o:É Ν}{f:Ν->d}{ς:Ν->e}{a:d}{b:e}(á:o.map f=some a)(í:o.map ς=some b):o.map (λr=>(f r,ς r))=some (a,b):=by
 cases o with
 |none=>cases á
 |some h=>cases á;cases í;rfl
def YfT(s:Í):(ě×nT)×ě×DQ:=((L_<|fragOf s.heap,L7<|fragOf s.heap),I4<|fragOf s.heap,L5<|fragOf s.heap)
theorem aa1(w:ś)(os:j6):(nA dO pT w 11 (some<|.ref 6) 0 7100 (sT w os)<|nB pT).map (λr=>((X3 w r.2.1.abs,JJ qT oq (j7 pT.main.body) (XJ []) true r.2.1.abs),YfT r.2.1.abs))=some ((true,JK qT oq),(true,Lv),true,JT):=
 byRow2 "special-get-raises" (P:=λw=>(nA dO pT w 11 (some<|.ref 6) 0 7100 (sT w os)<|nB pT).map (λr=>((X3 w r.2.1.abs,JJ qT oq (j7 pT.main.body) (XJ []) true r.2.1.abs),YfT r.2.1.abs))=some ((true,JK qT oq),(true,Lv),true,JT))
  (λw=>pG (rA0 w os)<|pG (rB0 w os)<|pG (rC0 w os)<|rD0 w os) (λw=>pG (rA1 w os)<|pG (rB1 w os)<|pG (rC1 w os)<|rD1 w os) w
theorem Zl:LeftO pT qT oq (XJ []) YfT (λ_=>((true,Lv),true,JT)) 20000:=
 TH Zs Zh (è:=7100) (by decide) λb os=>by
  have a:=aa1 b os;revert a;cases nA dO pT b 11 (some<|.ref 6) 0 7100 (sT b os) (nB pT) with
  |none=>intro a;cases a
  |some i=>intro a;injection a with a;injection a with d e;injection d with f h;exact Ğ some<|LC f<|LC h e
set_option maxRecDepth 100000
end
section
open PySem.W
theorem U':PySem.Challenge.rw_tangledfiles_s01_answers.wellSaid=true:=by decide+kernel
theorem Wl:(chainsOk qT&&opensWell pT)=true:=by decide+kernel
theorem aaN:∃args,PySem.Challenge.rw_tangledfiles_s01_answers.pre args=true/\O5 args=true:=⟨[.list [.int 9]],by decide+kernel,by decide+kernel⟩
theorem YK:PySem.Challenge.rw_tangledfiles_s01_answers.prog.bare:=⟨rfl,rfl,rfl,rfl,rfl,by decide+kernel⟩
theorem shT:∀as,PySem.Challenge.rw_tangledfiles_s01_answers.pre as=true->WShape.hasAll [] as (PySem.Challenge.rw_tangledfiles_s01_answers.args.map Codec.shape)=true:=os_shapes
end
section
open PySem.SetTable
noncomputable def PL (m:M) (p:XM):XM:=
 if p.more>0 then{p with j:=p.j+1,more:=p.more -1} else
 {p with j:=(Vj m p.i p.perturb).1,more:=jE m (Vj m p.i p.perturb).1 -(Vj m p.i p.perturb).1,i:=(Vj m p.i p.perturb).1,perturb:=(Vj m p.i p.perturb).2}
theorem uC(t:fR)(p:XM):t.advance p=PL t.mask p:=rfl
noncomputable def N9 (m i q:M):XM:={j:=i,more:=jE m i -i,i:=i,perturb:=q,dummy:=g}
noncomputable def pk (m:M) (h:Z):M->XM
 |0=>N9 m (O6 h%(m+1))<|O6 h
 |k+1=>PL m<|pk m h k
noncomputable def j0 (m:M) (h:Z):M->M×M
 |0=>(O6 h%(m+1),O6 h)
 |r+1=>Vj m (j0 m h r).1 (j0 m h r).2
def EC(m i:M):jE m i -i<=9:=by unfold jE;split<;>simp
theorem Ll{m:M}{h:Z}{k i q:M}(e:pk m h k=N9 m i q):∀c,c<=jE m i -i->pk m h (k+c)={j:=i+c,more:=jE m i -i -c,i:=i,perturb:=q,dummy:=g}
 |0,_=>e
 |c+1,a=>by show PL m (pk m h<|k+c)=_;rw[Ll e c aL];unfold PL;rw[à<|show jE m i -i -c>0 by lia];congr 1
def Mf{h:Z}{k q:M}(e:pk m h k=N9 m i q):pk m h (k+(jE m i -i)+1)=N9 m (Vj m i q).1 (Vj m i q).2:=by show PL m (pk m h<|k+(jE m i -i))=_;rw[Ll e _<|Õ _];unfold PL;rw[Ó<|show¬(jE m i -i -(jE m i -i)>0) by simp];rfl
theorem Qs(m:M)(h:Z):∀r,∃k,k<=10*r/\pk m h k=N9 m (j0 m h r).1 (j0 m h r).2
 |0=>⟨0,Õ _,D⟩
 |r+1=>by obtain⟨k,b,a⟩:=Qs m h r;refine⟨_,?_,Mf a⟩;have:=EC m (j0 m h r).1;lia
theorem UR(m:M)(h:Z):∀r,(j0 m h r).2=O6 h/32^r
 |0=>by simp[j0]
 |r+1=>by show(j0 m h r).2/32=_;rw[UR m h r,Nat.div_div_eq_div_mul,Nat.pow_succ]
def Um(h:Z):O6 h<2^64:=by unfold O6;lia
def Xb(m:M)(h:Z)(r:M)(a:13<=r):(j0 m h r).2=0:=by rw[UR,Nat.div_eq_of_lt];refine ĭ (Um h)<|Ć (by decide:2^64<=32^13)<|Nat.pow_le_pow_right bM a
noncomputable def W6 (m:M) (i:M):M->M
 |0=>i
 |r+1=>(W6 m i r*5+1)%(m+1)
theorem E3(m:M)(h:Z):∀r,(j0 m h<|12+r).1=W6 m (j0 m h 12).1 r
 |0=>D
 |r+1=>by have a:(j0 m h<|12+r).2/32=0:=Xb m h (12+r+1) bh;show((j0 m h<|12+r).1*5+1+(j0 m h<|12+r).2/32)%(m+1)=_;rw[a,iH,E3 m h r];rfl
theorem Fe(m:M)(h:Z):∀r,(j0 m h r).1<=m
 |0=>yP<|O7 _<|cU _
 |r+1=>yP<|O7 _<|cU _
def Zj(m:M)(h:Z):∀k,(pk m h k).j<=m:=by
 have b:∀k,(pk m h k).j+(pk m h k).more<=m:=by
  intro k
  induction k with
  |zero=>
   have a:=Fe m h 0;show(j0 m h 0).1+(jE m (j0 m h 0).1 -(j0 m h 0).1)<=m;unfold jE;split<;>simp_all
  |succ k d=>
   show(PL m<|pk m h k).j+(PL m<|pk m h k).more<=m;unfold PL;split
   .lia
   .have a:(Vj m (pk m h k).i (pk m h k).perturb).1<=m:=yP<|O7 _<|cU _;unfold jE;split<;>simp_all
 grind
def aaL:∀i,i<=7->∀j,j<=7->∃r,r<=7/\W6 7 i r=j:=by
 have:∀i:Fin 8,∀j:Fin 8,∃r:Fin 8,W6 7 i.1 r.1=j.1:=by decide+kernel
 intro i b j d;obtain⟨r,a⟩:=this ⟨i,aL⟩ ⟨j,aL⟩;exact⟨r.1,aL,a⟩
def YU:∀i,i<=31->∀j,j<=31->∃r,r<=31/\W6 31 i r=j:=by
 have:∀i:Fin 32,∀j:Fin 32,∃r:Fin 32,W6 31 i.1 r.1=j.1:=by decide+kernel
 intro i b j d;obtain⟨r,a⟩:=this ⟨i,aL⟩ ⟨j,aL⟩;exact⟨r.1,aL,a⟩
def Xu(m:M):Prop:=m=7\/m=31
def Mw(a:Xu m):∀i,i<=m->∀j,j<=m->∃r,r<=m/\W6 m i r=j:=by
 rcases a with rfl|rfl
 .exact aaL
 .exact YU
def Z1(b:Xu m)(h:Z)(j:M)(d:j<=m):∃k,k+20<10*oF m/\(pk m h k).j=j:=by
 obtain⟨a,i,e⟩:=Mw b _ (Fe m h 12) j d;obtain⟨k,l,f⟩:=Qs m h<|12+a;refine⟨k,?_,?_⟩
 .unfold oF;lia
 .rw[f];show(j0 m h<|12+a).1=j;rw[E3,e]
end
section
open PySem.SetTable
def UY(N:ŕ M):Prop:=∀a b u v:M,a<b->N[a]?=B u->N[b]?=B v->u<v
structure Bel(N:ŕ M)(j r:M):Prop where
 le:r<=N.size
 lo:∀a v:M,a<r->N[a]?=B v->v<j
 hi:∀a v:M,r<=a->N[a]?=B v->j<=v
theorem B6{N:ŕ M}(f:UY N)(j:M):∀d lo Á:M,Á<=lo+d->lo<=Á->Á<=N.size->(∀a v:M,a<lo->N[a]?=B v->v<j)->(∀a v:M,Á<=a->N[a]?=B v->j<=v)->Bel N j (Cz N j d lo Á)
 |0,lo,Á,q,r,l,h,i=>⟨by unfold Cz;lia,λa v b=>h a v (by unfold Cz at b;exact b),λa v b=>i a v (by unfold Cz at b;lia)⟩
 |d+1,lo,Á,q,r,l,h,i=>by
  unfold Cz;by_cases o:lo<Á
  .rw[à o];obtain⟨v,m⟩:∃v,N[(lo+Á)/2]?=B v:=⟨_,ϕ aL⟩;dsimp only;rw[(fX:N.getD ((lo+Á)/2) j=v)];by_cases k:v<j
   .rw[à k];refine B6 f j d _ _ aL aL l (λa n b e=>?_) i;by_cases p:a=(lo+Á)/2
    .rw[p,m]at e;cases e;exact k
    .exact fE (f a _ n v aL e m) k
   .rw[Ó k];refine B6 f j d _ _ aL aL aL h λa n b e=>?_;by_cases p:a=(lo+Á)/2
    .simp_all
    .have:=f _ a v n aL m e;lia
  .rw[Ó o];have:lo=Á:=aL;subst this;exact⟨l,h,i⟩
def qe{N:ŕ M}(b:UY N)(j:M):Bel N j<|zy N j:=
 B6 b j N.size 0 N.size bh (Ò _) (Õ _) (λd e a=>absurd a<|ϳ _) λd e a f=>absurd (Ĵ.mp f).1 fX
theorem BX{N:ŕ M}(a:UY N)(e:N[i]?=B j):zy N j=i:=by
 obtain⟨h,d,f⟩:=qe a j;rcases pO (zy N j) i with q|q|q
 .have b:=ϕ<|fE q (Ĵ.mp e).1;have k:=f _ _ (Õ _) b;have l:=a _ _ _ _ q b e;lia
 .exact q
 .have:=d i j q e;simp_all
section
variable{t:fR}
def NL(b:t.dummies= #[])(a:UY t.place)(e:t.place[i]?=B j):t.slot j=.live i:=by unfold O8;dsimp only;rw[BX a e,e];simp
def Ox(a:t.dummies= #[])(e:∀i:M,t.place[i]?≠B j):t.slot j=.empty:=by unfold O8;rw[Ó (by rw[gI];exact e _),a];rfl
end
theorem BB(N:ŕ Ν)(p:M)(x:Ν)(a:p<=N.size):(Ļ N p x).toList=N.toList.take p++x::N.toList.drop p:=by simp[SetTable.toList_insertAt]
theorem kR(N:ŕ Ν)(p:M)(x:Ν)(b:p<=N.size)(a:M):(Ļ N p x)[a]?=if a<p then N[a]? else if a=p then B x else N[a -1]?:=by
 rw[<-Ϙ,BB N p x b]
 grind
theorem vF(N:ŕ Ν)(p:M)(x:Ν)(a:p<=N.size):(Ļ N p x).size=N.size+1:=by
 grind[iE,BB,Ω,ŀ,Ñ,Ϸ]
def S_{N:ŕ M}(f:UY N)(p:∀i:M,N[i]?≠B j):UY<|Ļ N (zy N j) j:=by
 obtain⟨q,r,s⟩:=qe f j;intro d l h e t b a;rw[kR _ _ _ q]at b a;generalize zy N j=k at*;by_cases m:d<k
 .rw[à m]at b;by_cases b1:l<k
  .rw[à b1]at a;exact f d l h e t b a
  .rw[Ó b1]at a;by_cases b2:l=k
   .rw[à b2]at a;cases a;exact r d h m b
   .rw[Ó b2]at a;exact f d _ h e aL b a
 .rw[Ó m]at b;rw[Ó aL]at a;rw[Ó aL]at a;by_cases n:d=k
  .rw[à n]at b;cases b;exact(λd e u o=>O9 (s d e u o) λv=>p d<|by rw[o,v]) _ e aL a
  .rw[Ó n]at b;exact f _ _ h e aL b a
def N3{N:ŕ M}(f:UY N)(k:N.size<=m):∃j:M,j<=m/\∀i:M,N[i]?≠B j:=by
 have l:∀a,a<=N.size->(∃j:M,j<=m/\∀i:M,N[i]?≠B j)\/∀i:M,i<a->N[i]?=B i:=by
  intro a
  induction a with
  |zero=>intro _;exact .inr λi h=>absurd h<|ϳ _
  |succ a n=>
   intro p;rcases n aL with h|h
   .exact .inl h
   .obtain⟨d,e⟩:∃d,N[a]?=B d:=⟨_,ϕ<|by assumption⟩;by_cases q:d=a
    .grind
    .have r:a<d:=by
      by_cases z:a=0
      .lia
      .have:=f (a -1) a (a -1) d aL (h (a -1) aL) e;lia
     refine .inl ⟨a,aL,λi b=>?_⟩;rcases pO i a with z|z|z
     .rw[h i z]at b;cases b;lia
     .rw[z,e]at b;cases b;lia
     .have:=f a i d a z e b;lia
 rcases l N.size (Õ _) with h|h
 .exact h
 .refine⟨N.size,k,λi b=>?_⟩;have o:=(Ĵ.mp b).1;rw[h i o]at b;cases b;simp_all
end
section
open PySem.SetTable
def Li(t:fR)(j:M):Prop:=∃i:M,t.place[i]?=B j
structure BH(t:fR)(Α:ŕ<|Z×z):Prop where
 W8:t.dummies= #[]
 OV:t.place.size=Α.size
 Wm:UY t.place
 fil:Α.size<=t.mask
 Yb:Xu t.mask
 Vz:∀(i:M) e,Α[i]?=B e->∃k,k<10*oF t.mask/\t.place[i]?=B (pk t.mask e.1 k).j/\∀a,a<k->Li t (pk t.mask e.1 a).j
def Vb{p:M->Prop}:∀n,p n->∃k,k<=n/\p k/\∀a,a<k->¬p a:=by
 intro n
 induction n using UD with
 |_ n f=>
  intro h;by_cases e:∃k,k<n/\p k
  .obtain⟨k,b,d⟩:=e;obtain⟨i,m,j,l⟩:=f k b d;exact⟨i,aL,j,l⟩
  .exact⟨n,Õ _,h,λa b d=>e ⟨a,b,d⟩⟩
section
variable{t:fR}
theorem BH.free(Þ:BH t Α)(h:Z):∃k,k<10*oF t.mask/\¬Li t (pk t.mask h k).j/\∀a,a<k->Li t (pk t.mask h a).j:=by obtain⟨j,b,d⟩:=N3 Þ.Wm<|Þ.OV▸Þ.fil;obtain⟨k,q,e⟩:=Z1 Þ.Yb h j b;obtain⟨f,r,i,l⟩:=Vb (p:=λk=>¬Li t (pk t.mask h k).j) k (by rw[e];rintro⟨m,n⟩;exact d m n);exact⟨f,aL,i,λa o=>Jq.mp<|l a o⟩
theorem BH.Mg(Þ:BH t Α)(e:t.place[i]?=B j):t.slot j=.live i:=NL Þ.W8 Þ.Wm e
theorem BH.YR(Þ:BH t Α)(e:¬Li t j):t.slot j=.empty:=Ox Þ.W8 λa b=>e ⟨a,b⟩
theorem BH.at(Þ:BH t Α)(e:t.place[i]?=B j):∃x,Α[i]?=B x:=by have:=(Ĵ.mp e).1;exact⟨Α[i]'(by rwa [<-Þ.OV]),ϕ _⟩
theorem A3(m:M)(h:Z):∀k,(pk m h k).dummy=g
 |0=>D
 |k+1=>by
  show(PL m<|pk m h k).dummy=g;unfold PL;split
  .exact A3 m h k
  .exact A3 m h k
theorem Ie(Þ:BH t Α){hashAt:M->Z}{h:Z}:∀n k a,n<a->(∀c,c<n->∃i:M,t.place[i]?=B (pk t.mask h<|k+c).j/\hashAt i≠h)->¬Li t (pk t.mask h<|k+n).j->
  wJ t hashAt h a (pk t.mask h k)=B (.empty (pk t.mask h<|k+n).j g)
 |0,k,a+1,_,_,b=>by rw[iH]at b⊢;unfold wJ;rw[Þ.YR b,A3];rfl
 |n+1,k,a+1,j,e,b=>by
  unfold wJ;obtain⟨i,d,f⟩:=e 0<|cU _;rw[iH]at d;rw[Þ.Mg d];dsimp only;rw[Ó (by rw[gI];exact f),uC];have:=Ie Þ (hashAt:=hashAt) (h:=h) n (k+1) a fX (λc l=>xV) aL
  rwa [show k+(n+1)=k+1+n by lia]
theorem Mp(Þ:BH t Α){hashAt:M->Z}{h:Z}{i:M}:∀n k a,n<a->(∀c,c<n->∃i:M,t.place[i]?=B (pk t.mask h<|k+c).j/\hashAt i≠h)->t.place[i]?=B (pk t.mask h<|k+n).j->hashAt i=h->
  wJ t hashAt h a (pk t.mask h k)=B (.candidate (pk t.mask h<|k+n).j i<|pk t.mask h<|k+n+1)
 |0,k,a+1,_,_,b,d=>by rw[iH]at b⊢;unfold wJ;rw[Þ.Mg b];dsimp only;rw[à (by rw[gI];exact d),uC];rfl
 |n+1,k,a+1,l,f,b,d=>by
  unfold wJ;obtain⟨m,e,j⟩:=f 0<|cU _;rw[iH]at e;rw[Þ.Mg e];dsimp only;rw[Ó (by rw[gI];exact j),uC];have:=Mp Þ n (k+1) a fX (λc o=>xV) aL d
  rwa [show k+(n+1)=k+1+n by lia]
theorem BH.probe(Þ:BH t Α){hashAt:M->Z}{h:Z}{K k:M}(y:K<10*oF t.mask)(z:¬Li t (pk t.mask h K).j)(o:∀a,a<K->Li t (pk t.mask h a).j)(hk:k<=K):
  (t.probe hashAt h (pk t.mask h k)=B (.empty (pk t.mask h K).j g)/\∀a,k<=a->a<K->∀i:M,t.place[i]?=B (pk t.mask h a).j->hashAt i≠h)\/
  ∃a i,k<=a/\a<K/\t.place[i]?=B (pk t.mask h a).j/\hashAt i=h/\t.probe hashAt h (pk t.mask h k)=B (.candidate (pk t.mask h a).j i<|pk t.mask h<|a+1)/\
   ∀d,k<=d->d<a->∀i:M,t.place[i]?=B (pk t.mask h d).j->hashAt i≠h:=by
 unfold SetTable.probe;by_cases m:∃e,e<K -k/\∃i:M,t.place[i]?=B (pk t.mask h<|k+e).j/\hashAt i=h
 .obtain⟨u,A,v⟩:=m;obtain⟨e,C,⟨i,q,r⟩,s⟩:=Vb (p:=λe=>∃i:M,t.place[i]?=B (pk t.mask h<|k+e).j/\hashAt i=h) u v;refine .inr ⟨k+e,i,bh,aL,q,r,Mp Þ e k _ aL (λl n=>?_) q r,λd w x f b j=>?_⟩
  .obtain⟨f,b⟩:=o (k+l) aL;exact⟨f,b,λj=>s l n ⟨f,b,j⟩⟩
  .refine s (d -k) aL ⟨f,?_,j⟩;rw[show k+(d -k)=d by simp_all];exact b
 .refine .inl ⟨?_,λa w x i b j=>m ⟨a -k,by lia,i,by rw[show k+(a -k)=a by simp_all];exact b,j⟩⟩;have:=Ie Þ (hashAt:=hashAt) (h:=h) (K -k) k (10*oF t.mask) aL (λl n=>?_) fX
  .simp_all
  .obtain⟨f,b⟩:=o (k+l) aL;exact⟨f,b,λj=>m ⟨l,n,f,b,j⟩⟩
theorem BH.put(Þ:BH t Α){h:Z}{x:z}{K:M}(s:K<10*oF t.mask)(u:¬Li t (pk t.mask h K).j)(v:∀d,d<K->Li t (pk t.mask h d).j)(w:Α.size+1<=t.mask)(ù:ě):
  BH {(t.put (pk t.mask h K).j).1 with plain:=ù} (Ļ Α (t.put (pk t.mask h K).j).2 (h,x)):=by
 have i:=qe Þ.Wm (pk t.mask h K).j;have m:zy t.place (pk t.mask h K).j<=Α.size:=Þ.OV▸i.le;have n:∀j,Li t j->Li {(t.put (pk t.mask h K).j).1 with plain:=ù} j:=λj ⟨a,e⟩=>by
  by_cases l:a<zy t.place (pk t.mask h K).j
  .exact⟨a,by show(Ļ t.place _ _)[a]?=_;rw[kR _ _ _ i.le,à l];exact e⟩
  .exact⟨a+1,by show(Ļ t.place _ _)[a+1]?=_;rw[kR _ _ _ i.le,Ó aL,Ó aL];exact e⟩
 refine⟨?_,?_,S_ Þ.Wm λa y=>u ⟨a,y⟩,?_,Þ.Yb,λa e b=>?_⟩
 .show(if has t.dummies _ then _ else t.dummies)= #[];rw[Þ.W8];rfl
 .show(Ļ t.place _ _).size=(Ļ Α (zy t.place (pk t.mask h K).j) _).size;rw[vF _ _ _ i.le,vF _ _ _ m,Þ.OV]
 .show(Ļ Α (zy t.place (pk t.mask h K).j) _).size<=t.mask;rw[vF _ _ _ m];exact w
 .have b:(Ļ Α (zy t.place (pk t.mask h K).j) (h,x))[a]?=B e:=b;rw[kR _ _ _ m]at b;show∃f,f<10*oF t.mask/\(Ļ t.place _ _)[a]?=B (pk t.mask e.1 f).j/\_;rw[kR _ _ _ i.le];by_cases l:a<zy t.place (pk t.mask h K).j
  .rw[à l]at b⊢;obtain⟨f,o,p,q⟩:=Þ.Vz a e b;exact⟨f,o,p,λd k=>n _<|q d k⟩
  .rw[Ó l]at b⊢;by_cases r:a=zy t.place (pk t.mask h K).j
   .rw[à r]at b⊢;cases b;exact⟨K,s,D,λd k=>n _<|v d k⟩
   .rw[Ó r]at b⊢;obtain⟨f,o,p,q⟩:=Þ.Vz _ e b;exact⟨f,o,p,λd k=>n _<|q d k⟩
def BH.met(Þ:BH t Α){h:Z}{K:M}{x:z}(a:¬Li t (pk t.mask h K).j)(e:Α[i]?=B (h,x)):∃k,k<K/\t.place[i]?=B (pk t.mask h k).j:=by
 obtain⟨k,f,b,d⟩:=Þ.Vz i _ e;refine⟨k,?_,b⟩;rcases pO k K with q|q|q
 .exact q
 .exact absurd ⟨i,by rwa [<-q]⟩ a
 .exact absurd (d K q) a
def Ob(f a:M)(led:ě):BH (OH f a led) #[]:=
 ⟨D,D,λe h i j _ b=>(by simp[OH]),Ò _,.inl D,λk b d=>(by simp at d)⟩
theorem BH.fits(Þ:BH t Α):t.fits Α.size=U:=by unfold SetTable.fits tu;rw[Þ.OV,Þ.W8];simpa using Þ.fil
end
end
section
open PySem.SetTable
def R4(é:ŕ<|É M)(j:M):Prop:=∃k,é[j]?=B (B k)
theorem qm(a:j<é.size):(é.getD j<|B 0).isNone=U↔¬R4 é j:=by
 rw[gF,ϕ a,Option.getD_some];constructor
 .rintro b ⟨d,e⟩;simp_all
 .intro b;cases e:é[j] with
  |none=>rfl
  |some d=>exact absurd ⟨d,by rw[ϕ a,e]⟩ b
theorem EH{m:M}{é:ŕ<|É M}(t:é.size=m+1)(h:Z):∀e r b,pk m h b=N9 m (j0 m h r).1 (j0 m h r).2->(∀a,a<b->R4 é (pk m h a).j)->(∃d,d<e/\¬R4 é (j0 m h<|r+d).1)->b<=10*r->r+e<=oF m->
  ∃l,l<10*oF m/\tw m é e (j0 m h r).1 (j0 m h r).2=B (pk m h l).j/\¬R4 é (pk m h l).j/\∀a,a<l->R4 é (pk m h a).j
 |0,r,b,_,_,⟨d,o,_⟩,_,_=>absurd o<|ϳ _
 |e+1,r,b,p,q,⟨d,o,u⟩,A,C=>by
  have E:=Fe m h r;have F:=EC m (j0 m h r).1;have G:(j0 m h r).1<=jE m (j0 m h r).1/\jE m (j0 m h r).1<=m:=by unfold jE;lia
  have run:=Ll p;unfold tw;cases f:(ſ<|jE m (j0 m h r).1+1 -(j0 m h r).1).find? λv=>(é.getD ((j0 m h r).1+v)<|B 0).isNone with
  |some n=>
   rw[List.find?_range_eq_some]at f;obtain⟨w,x,y⟩:=f;rw[Uy]at x;have s:(pk m h<|b+n).j=(j0 m h r).1+n:=by rw[run n<|by lia]
   refine⟨b+n,by lia,by rw[s],s▸(qm<|by lia).mp w,λa z=>?_⟩;by_cases i:a<b
   .exact q a i
   .have k:=run (a -b) (by lia);rw[show b+(a -b)=a by simp_all]at k;rw[k];have:=y (a -b) (by lia)
    grind[qm,j0]
  |none=>
   rw[List.find?_range_eq_none]at f;dsimp only;have H:d≠0:=by intro i;subst i;have:=f 0 (by lia);rw[(qm (j:=(j0 m h r).1+0)<|by lia).mpr u]at this;cases this
   refine EH t h e (r+1) _ (Mf p) (λa z=>?_) ⟨d -1,by lia,by grind⟩ (by lia) (by lia);by_cases i:a<b
   .exact q a i
   .have k:=run (a -b) (by lia);rw[show b+(a -b)=a by simp_all]at k;rw[k];have:=f (a -b) (by lia)
    grind[qm,j0]
structure X0(m:M)(d:J Z)(é:ŕ<|É M)(n:M):Prop where
 OV:é.size=m+1
 Vz:∀j k:M,é[j]?=B (B k)->k<n/\∃h,d[k]?=B h/\∃a,a<10*oF m/\(pk m h a).j=j/\∀b,b<a->R4 é (pk m h b).j
 all:∀k,k<n->∃j:M,é[j]?=B (B k)
 cnt:(ſ<|m+1).countP (λj=>(é.getD j g).isSome)=n
theorem AK{p q:M->ě}{j:M}(e:q j=U/\p j=Τ)(h:∀i,i≠j->q i=p i):∀n,j<n->(ſ n).countP q=(ſ n).countP p+1
 |0,b=>absurd b<|ϳ _
 |n+1,b=>by
  rw[Cf,jz,jz,gG,gG];by_cases d:n=j
  .subst d;have same:∀a,a<=n->(ſ a).countP q=(ſ a).countP p:=by
    intro a k
    induction a with
    |zero=>rfl
    |succ a f=>rw[Cf,jz,jz,f aL,gG,gG,h a aL]
   simp_all[Õ]
  .rw[AK e h n aL,h n d];lia
def PN(u:Xu m){k:J Z}{n:M}{h:Z}(f:X0 m k é n)(O:n<=m)(e:k[n]?=B h):
  ∃j,tw m é (oF m) (O6 h%(m+1)) (O6 h)=B j/\X0 m k (é.setIfInBounds j<|B n) (n+1):=by
 have v:=f.OV;have w:∃j,j<=m/\¬R4 é j:=by
  apply gZ;intro x;have y:∀d,d<=m+1->(ſ d).countP (λj=>(é.getD j g).isSome)=d:=by
   intro d z
   induction d with
   |zero=>rfl
   |succ d A=>
    rw[Cf,jz,A aL,gG];obtain⟨P,b⟩:R4 é d:=Jq.mp λb=>x ⟨d,fX,b⟩;simp_all
  have:=y (m+1)<|Õ _;rw[f.cnt]at this;lia
 obtain⟨C,E,Q⟩:=w;obtain⟨F,R,S⟩:=Mw u _ (Fe m h 12) C E;obtain⟨l,G,H,o,I⟩:=EH v h (oF m) 0 0 D (λi b=>absurd b<|ϳ _) ⟨12+F,by unfold oF;lia,by simp_all[ύ,E3]⟩ (Ò _) bh;exists _,H;have T:=Zj m h l;generalize K:(pk m h l).j=j at*;have get:∀a:M,(é.setIfInBounds j<|B n)[a]?=if a=j then B (B n) else é[a]?:=λa=>by
  grind
 have t:∀a,R4 é a->R4 (é.setIfInBounds j<|B n) a:=λa ⟨d,b⟩=>⟨d,by rwa [get,Ó λq=>o (by rw[<-q];exact⟨d,b⟩)]⟩;refine⟨fX,λa d b=>?_,λd z=>?_,?_⟩
 .rw[get]at b;by_cases q:a=j
  .rw[à q]at b;cases b;exact⟨d9 _,h,e,l,G,by rw[K,q],λi r=>t _<|I i r⟩
  .rw[Ó q]at b;obtain⟨b1,L,b2,N,b3,b4,b5⟩:=f.Vz a d b;exact⟨ko b1,L,b2,N,b3,b4,λi r=>t _<|b5 i r⟩
 .by_cases q:d=n
  .exact⟨j,by rw[get,à D,q]⟩
  .obtain⟨a,b⟩:=f.all d aL;exact⟨a,by rwa [get,Ó λq=>o (by rw[<-q];exact⟨d,b⟩)]⟩
 .have V:∀a:M,((é.setIfInBounds j<|B n).getD a g).isSome=if a=j then U else(é.getD a g).isSome:=λa=>by rw[gF,get,gF];split<;>rfl
  have:=AK (p:=λa=>(é.getD a g).isSome) (q:=λa=>((é.setIfInBounds j<|B n).getD a g).isSome) (j:=j) ⟨by simp_all[à],?_⟩ (λa W=>by simp_all[Ó]) (m+1) aL
  .rw[this,f.cnt]
  .show(é.getD j g).isSome=Τ;cases b:é.getD j g with
   |none=>rfl
   |some d=>
    rw[gF]at b;exfalso;cases s:é[j]? with
    |none=>rw[s]at b;cases b
    |some X=>rw[s]at b;exact o ⟨d,s▸Ğ B b⟩
end
section
open PySem.SetTable
def Ni(m:M)(e:J Z):X0 m e (Ae (m+1) g) 0:=by
 have get:∀d:M,∀b,(Ae (m+1) (g:É M))[d]?≠B (B b):=λd b a=>by
  rw[Array.getElem?_replicate]at a;split at a
  .cases a
  .cases a
 exists bh,λd b a=>absurd a<|get d b,λb a=>absurd a<|ϳ _;simp_all
noncomputable abbrev SE (m:M):É (ŕ (É M)×M)->Z->É (ŕ (É M)×M):=λb h=>do
 let(a,k) <-b
 let j <-tw m a (oF m) (O6 h%(m+1)) (O6 h)
 pure (a.setIfInBounds j<|B k,k+1)
theorem GP{m:M}(i:Xu m){b:J Z}(j:L b<=m):∀(l a:J Z) (é:ŕ<|É M),b=a++l->X0 m b é (L a)->∃e,l.foldl (SE m) (B (é,L a))=B (e,L b)/\X0 m b e (L b)
 |[],a,é,d,f=>by rw[ö]at d;subst d;exact⟨é,D,f⟩
 |h::l,a,é,d,f=>by
  have o:L a<L b:=fX;obtain⟨k,p,n⟩:=PN i f aL (fX:b[L a]?=B h);obtain⟨e,q,r⟩:=GP i j l (a++[h]) (é.setIfInBounds k<|B<|L a) (by rw[d];simp)<|Ω▸n
  grind
def I0(b:Xu m)(a:ŕ Z)(d:a.size<=m):∃é,layClean m a=B é/\X0 m a.toList é a.size:=by
 obtain⟨é,e,f⟩:=GP b (by rwa [iE]) a.toList [] (Ae (m+1) g) D<|Ni m _;refine⟨é,?_,by assumption⟩;unfold layClean
 grind
noncomputable def kB (m:M) (é:ŕ<|É M):J<|M×M:=(ſ<|m+1).filterMap λj=>(é.getD j g).map (j,·)
def WX(b:é.size=m+1){k:M}:(j,k)∈kB m é↔é[j]?=B (B k):=by
 unfold kB;rw[jy];constructor
 .rintro⟨d,e,a⟩;obtain⟨f,h,i⟩:=Ü.mp a;simp_all
 .intro a;have l:=(Ĵ.mp a).1;simp_all
theorem VT(m:M)(é:ŕ<|É M):(L<|kB m é)=(ſ<|m+1).countP (λj=>(é.getD j g).isSome):=by simp[kB,List.length_filterMap_eq_countP]
def Vv(m:M)(é:ŕ<|É M):(kB m é).Pairwise λa b=>a.1<b.1:=by refine YD _ ?_ List.pairwise_lt_range;simp_all
def S6(u:Xu m)(ag:Α.size<=m)(Û s:M)(led ù:ě):∃t' l,Cg m Û s led ù (Α.map (·.1))=B (t',l)/\t'.mask=m/\t'.led=led/\t'.plain=ù/\
  BH t' (l.filterMap (Α[·]?))/\(l.filterMap (Α[·]?)).size=Α.size/\∀e,e∈(l.filterMap (Α[·]?)).toList↔e∈Α.toList:=by
 obtain⟨d,z,h⟩:=I0 u (Α.map (·.1)) (by rwa [Se]);rw[Se]at h;have n:=λj k=>WX (m:=m) h.OV (j:=j) (k:=k);have A:(L<|kB m d)=Α.size:=by rw[VT,h.cnt]
 have C:∀a∈kB m d,∃e,Α[a.2]?=B e:=λa o=>by have p:=(h.Vz a.1 a.2<|(n a.1 a.2).mp o).1;simp_all
 have E:∀f:J<|M×M,(∀a∈f,∃e,Α[a.2]?=B e)->(L ((f.map (·.2)).filterMap (Α[·]?)))=L f/\∀b:M,((f.map (·.2)).filterMap (Α[·]?))[b]?=(f[b]?).bind λa=>Α[a.2]?:=by
  intro f
  induction f with
  |nil=>intro _;exact⟨D,λb=>by rfl⟩
  |cons a f F=>
   intro o;obtain⟨e,i⟩:=o a Ö;obtain⟨G,H⟩:=F λv I=>o v<|Ç _ I;rw[þ,iQ,i];refine⟨by rw[Ñ,Ñ,G],λb=>?_⟩;cases b with
   |zero=>simp[i]
   |succ b=>simpa using H b
 obtain⟨K,N⟩:=E (kB m d) C;have O:Cg m Û s led ù (Α.map (·.1))=B ({mask:=m,place:=((kB m d).map (·.1)).toArray,dummies:= #[],finger:=Û,led:=led,moves:=s,plain:=ù},((kB m d).map (·.2)).toArray):=by unfold Cg;rw[z];rfl
 have w:∀b:M,(((kB m d).map (·.2)).toArray.filterMap (Α[·]?))[b]?=((kB m d)[b]?).bind λa=>Α[a.2]?:=λb=>by rw[<-N b];simp
 have x:(((kB m d).map (·.2)).toArray.filterMap (Α[·]?)).size=Α.size:=by rw[<-A,<-K];simp
 refine⟨_,_,O,D,D,D,⟨D,?_,?_,by rwa [x],u,λb e i=>?_⟩,x,λe=>?_⟩
 .simp_all
 .intro P Q ah ai R q r;have q:=q;have r:=r;rw[JL,Ë]at q r;obtain⟨a,t,rfl⟩:=Ü.mp q;obtain⟨v,S,rfl⟩:=Ü.mp r;obtain⟨T,rfl⟩:=Ð.mp t;obtain⟨V,rfl⟩:=Ð.mp S;exact(List.pairwise_iff_getElem.mp<|Vv m d) P Q T V R
 .rw[w]at i;obtain⟨a,t,W⟩:=ES.mp i;obtain⟨_,X,b2,Y,b3,b4,b5⟩:=h.Vz a.1 a.2<|(n a.1 a.2).mp<|υ t;rw[Ϙ,Array.getElem?_map,W]at b2;obtain rfl:e.1=X:=ĥ b2;refine⟨Y,b3,?_,λZ aa=>?_⟩
  .simp_all
  .obtain⟨ab,p⟩:=b5 Z aa;obtain⟨ad,aj⟩:=ŵ<|(n _ ab).mpr p;exact⟨ad,fX⟩
 .constructor
  .grind
  .intro ae;obtain⟨k,y⟩:=ŵ ae;rw[Ϙ]at y;obtain⟨j,p⟩:=h.all k (Ĵ.mp y).1;obtain⟨b,af⟩:=ŵ<|(n j k).mpr p;refine υ (i:=b) ?_
   rwa [Ϙ,w,af]
end
section
open PySem.SetTable
section
variable{KT:Type}[iW KT]{knd:tL prog w KT}{A:ź}{s:Í}
def tX{ks:J KT}{Q:ě->Í->Prop}(hk:ū knd s.heap ks a)(h:Q Τ s):ô (ă prog w) A (CA 8<|.ref a) Q E s:=by
 have k:=hk.typeIs;obtain⟨q,r,t,l,u,m,n⟩:=hk;unfold CA;refine Λ<|oN k ?_;dsimp only;rw[à bM];refine Λ<|Ê ?_;rw[Ó bM];refine Λ<|lK l m ?_;refine Λ ?_;rw[<-MZ];refine ET _ (λf i d=>i.1=g/\d=s/\∀b∈f,carriedByValue b=U) _ ?_ ?_ _ _ ⟨D,D,n.byValue⟩
 .rintro b f i d ⟨e,rfl,j⟩;have:CA 7 b=pure Τ:=by have:=j b Ö;cases b<;>first|rfl|(simp[carriedByValue]at this)
  rw[this];refine Λ<|Ê ?_;rw[Ó bM];exact Ê ⟨D,D,λo p=>j o<|Ç _ p⟩
 .rintro⟨v,x⟩ d ⟨e,rfl,_⟩;simp only at e;subst e;exact Ê h
def Fy{ks:J KT}{Q:ě->Í->Prop}(hk:ū knd s.heap ks a)(Á:∀k v,k∈ks->knd.is k v=U->kN 7 v=pure U)(h:Q U s):ô (ă prog w) A (kN 8<|.ref a) Q E s:=by
 have n:=hk.typeIs;obtain⟨t,e,u,o,x,f,i⟩:=hk;have p:∀v∈e.toList,kN 7 v=pure U:=by
  clear f;generalize e.toList=y at i
  induction i with
  |nil=>simp
  | @cons k v ks z C _ F=>
   grind
 refine Λ<|wpAny_specialOf n PySem.F.slot_tuple_hash.lookup ?_;refine Λ<|lK o f ?_;refine Λ ?_;rw[<-MZ];refine ET _ (λj l b=>l.1=g/\b=s/\∀v∈j,kN 7 v=pure U) _ ?_ ?_ _ _ ⟨D,D,p⟩
 .rintro v j l b ⟨d,rfl,m⟩;rw[m v Ö];refine Λ<|Ê ?_;rw[Ó bM];exact Ê ⟨D,D,λq r=>m q<|Ç _ r⟩
 .rintro⟨G,H⟩ b ⟨d,rfl,_⟩;simp only at d;subst d;exact Ê h
def SA{ks:J KT}{Q:ě->Í->Prop}(hk:ū knd s.heap ks a)(l:J z)(p:∀y∈l,∃k b,y=.ref b/\ū knd s.heap k b)(h:Q Τ s):
  ô (ă prog w) A (searchCouldBeSeen (.ref a) l) Q E s:=by
 refine Λ ?_;refine ET _ (λm n d=>n.1=g/\d=s/\∀y∈m,∃k b,y=.ref b/\ū knd s.heap k b) _ ?_ ?_ _ _ ⟨D,D,p⟩
 .rintro q m n d ⟨e,rfl,f⟩;obtain⟨k,b,rfl,o⟩:=f q Ö;dsimp only;split
  .exact Ê ⟨D,D,λi j=>f i<|Ç _ j⟩
  .refine Λ<|RT hk ?_;rw[Ó bM];refine Λ<|RT o ?_;rw[Ó bM];refine Λ<|tX hk ?_;rw[Ó bM];refine Λ<|tX o ?_;rw[Ó bM];exact Ê ⟨D,D,λi j=>f i<|Ç _ j⟩
 .rintro⟨r,t⟩ d ⟨e,rfl,_⟩;simp only at e;subst e;exact Ê h
structure uE(knd:tL prog w KT)(h:ό)(a:O)(o:gf)(Α:ŕ<|Z×z)(ï:M)(t:fR):Prop where
 at_:h.get? a=B o
 ex:o.ExactSet
 da:o.data=.set Α ï t
 lay:BH t Α
 el:∀e∈Α.toList,∃k b,e=(tupleKeyHash knd k,.ref b)/\ū knd h k b
def uE.elm{t:fR}(χ:uE knd h a o Α ï t){e:Z×z}(d:Α[i]?=B e):∃k b,e=(tupleKeyHash knd k,.ref b)/\ū knd h k b:=
 χ.el e (υ<|by rwa [Ϙ])
def Ke(knd:tL prog w KT)(h:ό)(Α:ŕ<|Z×z)(k:J KT):Prop:=∃b,(tupleKeyHash knd k,æ b)∈Α.toList/\ū knd h k b
theorem search{a m:O}{o:gf}{Α:ŕ<|Z×z}{ï:M}{t:fR}{k:J KT}{K:M}{Q:SetFound->Í->Prop}(χ:uE knd s.heap a o Α ï t)(hk:ū knd s.heap k m)(af:A.units<d_)
  (ag:K<10*oF t.mask) (R:¬Li t (pk t.mask (tupleKeyHash knd k) K).j) (ah:∀d,d<K->Li t (pk t.mask (tupleKeyHash knd k) d).j)
  (á:Ke knd s.heap Α k->Q (.there g) s) (í:¬Ke knd s.heap Α k->Q (.free (pk t.mask (tupleKeyHash knd k) K).j Τ) s):
  ∀(n e f:M) (C:É XM),C.getD (t.probeStart<|tupleKeyHash knd k)=pk t.mask (tupleKeyHash knd k) e->e+n=K->n<f->
   (∀(d i:M) (b:O),d<e->t.place[i]?=B (pk t.mask (tupleKeyHash knd k) d).j->Α[i]?=B (tupleKeyHash knd k,æ b)->¬ū knd s.heap k b)->
   ô (ă prog w) A (zz a (.ref m) (tupleKeyHash knd k) U f C) Q E s:=by
 intro n
 induction n using UD with
 |_ n ai=>
  intro e f C aj aE aF S;obtain⟨f,rfl⟩:∃ak,f=ak+1:=⟨f -1,aL⟩;have fits:=χ.lay.fits;have al:t.gaveWay=Τ:=by unfold SetTable.gaveWay;rcases χ.lay.Yb with q|q<;>rw[q]<;>rfl
  unfold zz;refine Λ<|lO χ.at_ χ.da fits ?_;dsimp only;rw[al,Ó bM,aj];generalize T:t.probe _ (tupleKeyHash knd k) (pk t.mask (tupleKeyHash knd k) e)=V;rcases χ.lay.probe (hashAt:=λi=>(Α[i]?.map (·.1)).getD 0) ag R ah (k:=e) aL with⟨am,an⟩|⟨d,i,aG,aH,F,G,ao,ap⟩
  .have p:V=B (.empty (pk t.mask (tupleKeyHash knd k) K).j g):=T.symm.trans am;subst p;dsimp only;refine Ê<|í ?_;rintro⟨b,aq,ar⟩;obtain⟨i,u⟩:=ŵ aq;rw[Ϙ]at u;obtain⟨H,au,W⟩:=χ.lay.met R u;by_cases av:H<e
   .exact S H i b av W u ar
   .exact an H aL au i W (by rw[u];rfl)
  .have p:V=B (.candidate (pk t.mask (tupleKeyHash knd k) d).j i<|pk t.mask (tupleKeyHash knd k)<|d+1):=T.symm.trans ao;subst p;dsimp only;obtain⟨y,h⟩:=χ.lay.at F;obtain⟨X,b,j,I⟩:=χ.elm h;rw[h]at G;have aI:tupleKeyHash knd X=tupleKeyHash knd k:=by rw[j]at G;exact G
   have aJ:ô (ă prog w) A (do
     let Y <-ni [æ b] (eqBool (æ b)<|æ m)
     let(aw,_,aa) <-setState a
     if U&&Y then return .there g
     let B same:=aa.sameMemory t.moves t.mask|unsupported "set.changed-during-lookup:is-the-new-block-at-the-old-address"
     let ax <-match(if same then aa.slot (pk t.mask (tupleKeyHash knd k) d).j else .empty) with
      |.live v=>match aw[v]? with
       |some (_,ay)=>do pure (if<-isSame ay (æ b) then B v else g)
       |none=>pure g
      |_=>pure g
     match ax with
     |none=>rule "set.search.anew";zz a (æ m) (tupleKeyHash knd k) U f g
     |some v=>if Y then return .there (B v) else zz a (æ m) (tupleKeyHash knd k) U f (B<|pk t.mask (tupleKeyHash knd k)<|d+1)) Q E s:=by
    refine Λ<|Ũ<|wpAny_eqBool_tuple af I hk ?_;refine Λ<|lO χ.at_ χ.da fits ?_;dsimp only;by_cases L:X=k
    .subst L;rw[ő D];exact Ê<|á ⟨b,j▸υ (Ϙ▸h),I⟩
    .rw[Ņ L,Ó bM];rw[(by unfold SetTable.sameMemory;rw[à bh]:t.sameMemory t.moves t.mask=some true)];dsimp only;rw[à D,χ.lay.Mg F];dsimp only;rw[h,j];dsimp only;have az:isSame (æ b) (æ b)=pure U:=by unfold isSame;simp only[YA,oK]
     rw[az];refine Λ<|Λ<|Ê<|Ê ?_;refine ai (n -(d+1 -e)) aL (d+1) f _ D aL aL λl N b2 ab r x ad=>?_;rcases pO l e with y|y|y
     .exact S l N b2 y r x ad
     all_goals
      by_cases aA:l=d
      .subst aA;have:N=i:=by have ae:=BX χ.lay.Wm F;rw[BX χ.lay.Wm r]at ae;exact ae
       subst this;rw[h,j]at x;have P:=Ğ LF<|ĥ x;injection P with P
       subst P;exact L<|I.inj ad
      .exact ap l aL aL N r (by rw[x];rfl)
   cases led:t.led with
   |true=>
    rw[Ó bM]
    rwa [h,j]
   |false=>
    rw[à bM];refine Λ<|SA hk _ (λy aB=>?_) ?_
    .obtain⟨p,aC,aD⟩:=ń.mp aB;obtain⟨l,b2,ab,r⟩:=χ.el p<|lG.mpr<|(Array.mem_filter.mp<|lG.mp aC).1;exact⟨l,b2,by rw[<-aD,ab],r⟩
    .rw[Ó bM]
     rwa [h,j]
end
end
section
open PySem.SetTable
section
variable{KT:Type}[iW KT]{knd:tL prog w KT}{A:ź}{s:Í}
def Bj{k:J KT}{t:fR}(x:ū knd h k b)(p:h.get? a=B o)(q:o.data=.set Α ï t)(d:ϡ a h h'):ū knd h' k b:=by obtain⟨e,f,i,j,l,m,n⟩:=x;refine⟨e,f,i,(d.2 b λr=>?_).trans j,l,m,n⟩;simp_all
theorem stored{d:ŕ<|Z×z}{t t':fR}(χ:uE knd h a o Α ï t)(Þ:BH t' d)(Ā:∀e∈d.toList,∃k b,e=(tupleKeyHash knd k,æ b)/\ū knd h k b):
  uE knd (h.update a<|wK d t') a {o with data:=.set d (ï+1) t'} d (ï+1) t'/\ϡ a h (h.update a<|wK d t'):=by
 have f:=eE h a<|wK d t';have i:(h.update a<|wK d t').get? a=B {o with data:=.set d (ï+1) t'}:=by have:=Ū (wK d t') χ.at_ (by rw[putSet_of d t' χ.da];rfl);rw[putSet_of d t' χ.da]at this;exact this
 refine⟨⟨i,χ.ex,D,Þ,λe j=>?_⟩,f⟩;obtain⟨k,b,l,m⟩:=Ā e j;exact⟨k,b,l,Bj m χ.at_ χ.da f⟩
theorem Il{f:ŕ<|Z×z}{t:fR}(χ:uE knd h a o Α ï t)(l:ϡ a h h')(Ā:∀e∈f.toList,∃k b,e=(tupleKeyHash knd k,æ b)/\ū knd h k b)(k:J KT):Ke knd h' f k↔Ke knd h f k:=by
 constructor
 .rintro⟨b,d,i⟩;obtain⟨p,q,n,m⟩:=Ā _ d;have j:=Ğ LF n;injection j with j;subst j;have:=(Bj m χ.at_ χ.da l).inj i;subst this;exact⟨b,d,m⟩
 .rintro⟨b,d,i⟩;exact⟨b,d,Bj i χ.at_ χ.da l⟩
def Ok4(t:fR)(Α:ŕ<|Z×z):Prop:=t.mask=7->Α.size<=4
def ZZ{t:fR}(χ:uE knd s.heap a o Α ï t)(G:Α.size<=18){f:M}(q:sizeAbove f=32)
  (h:∀h' ĳ i v t',uE knd h' a ĳ i v t'->ϡ a s.heap h'->i.size=Α.size->t'.mask=31->(∀k,Ke knd h' i k↔Ke knd s.heap Α k)->Q () {s with heap:=h'}):ô (ă prog w) A (setRelay a f) Q E s:=by
 obtain⟨t',d,x,y,H,I,z,j,l⟩:=S6 (m:=31) (.inr D) (Α:=Α) aL t.finger (t.movedTo 31) t.led t.plain;have r:∀e∈(d.filterMap (Α[·]?)).toList,∃k b,e=(tupleKeyHash knd k,æ b)/\ū knd s.heap k b:=λe C=>χ.el e<|(l e).mp C;obtain⟨F,u⟩:=stored χ z r;refine Λ<|lO χ.at_ χ.da χ.lay.fits ?_;dsimp only;rw[q,Ó bM];rw[(by unfold SetTable.relaid;rw[q];exact x:t.relaid (Α.map (·.1)) f=some (t',d))];refine Λ ?_;show ô _ _ (if((d.filterMap (Α[·]?)).size !=Α.size) then _ else pure (d.filterMap (Α[·]?),t')) _ _ _;rw[Ó (by rw[j];simp)];refine Ê (XN χ.at_ χ.da (h _ _ _ _ _ F u j y λk=>?_) (by rw[j,Î];lia));rw[Il χ u r];exact⟨λ⟨b,n,p⟩=>⟨b,(l _).mp n,p⟩,λ⟨b,n,p⟩=>⟨b,(l _).mpr n,p⟩⟩
def zZ(N:ŕ Ν)(p:M)(x y:Ν):y∈(Ļ N p x).toList↔y∈N.toList\/y=x:=by rw[(SetTable.insertAt_perm N p x).mem_iff,Array.toList_push,î,đ]
def aaO{d:O}{t:fR}{k:J KT}{Q:ě->Í->Prop}(χ:uE knd s.heap a o Α ï t)(G:Ok4 t Α)(ag:Α.size<=17)(hk:ū knd s.heap k d)(V:A.units<d_)
  (Á:∀c v,c∈k->knd.is c v=U->kN 7 v=pure U)
  (á:Ke knd s.heap Α k->Q Τ s)
  (í:¬Ke knd s.heap Α k->∀h' ĳ j p t',uE knd h' a ĳ j p t'->Ok4 t' j->ϡ a s.heap h'->j.size=Α.size+1->(∀b,Ke knd h' j b↔Ke knd s.heap Α b\/b=k)->Q U {s with heap:=h'}):
  ô (ă prog w) A (setAddHashed a (.ref d)<|tupleKeyHash knd k) Q E s:=by
 obtain⟨K,H,I,L⟩:=χ.lay.free<|tupleKeyHash knd k;have fits:=χ.lay.fits;have W:K<100000:=by
  have:oF t.mask<=46:=by unfold oF;rcases χ.lay.Yb with q|q<;>rw[q]<;>decide
  lia
 unfold setAddHashed setAddHashedIn;refine Ũ<|Λ<|lO χ.at_ χ.da fits ?_;dsimp only;rw[Ó<|show¬byScan (æ d) Α=U from Ę];refine Λ<|search χ hk V H I L (λm=>Ê<|á m) (λm=>?_) K 0 100000 g D bh W λb ah h X=>absurd X<|ϳ _;refine Λ<|lO χ.at_ χ.da fits ?_;have Y:Α.size+1<=t.mask:=by
  rcases χ.lay.Yb with q|q
  .have:=G q;lia
  .lia
 have i:=χ.lay.put (x:=.ref d) H I L Y (t.put (pk t.mask (tupleKeyHash knd k) K).j).1.plain;have M:∀r∈(Ļ Α (t.put (pk t.mask (tupleKeyHash knd k) K).j).2 (tupleKeyHash knd k,æ d)).toList,∃k h,r=(tupleKeyHash knd k,æ h)/\ū knd s.heap k h:=λr Z=>by
  rcases(zZ _ _ _ _).mp Z with q|q
  .exact χ.el r q
  .exact⟨k,d,q,hk⟩
 have f:(Ļ Α (t.put (pk t.mask (tupleKeyHash knd k) K).j).2 (tupleKeyHash knd k,æ d)).size=Α.size+1:=by refine vF _ _ _ ?_;have:=(qe χ.lay.Wm (pk t.mask (tupleKeyHash knd k) K).j).le;rw[χ.lay.OV]at this;exact this
 obtain⟨N,u⟩:=stored χ i M;have P:=Il χ u M;have R:∀b,Ke knd s.heap (Ļ Α (t.put (pk t.mask (tupleKeyHash knd k) K).j).2 (tupleKeyHash knd k,æ d)) b↔Ke knd s.heap Α b\/b=k:=λb=>by
  constructor
  .rintro⟨h,y,n⟩;rcases(zZ _ _ _ _).mp y with q|q
   .exact .inl ⟨h,q,n⟩
   .have z:=Ğ LF q;injection z with z
    subst z;exact .inr<|n.inj hk
  .rintro(⟨h,y,n⟩|rfl)
   .exact⟨h,(zZ _ _ _ _).mpr<|.inl y,n⟩
   .exact⟨d,(zZ _ _ _ _).mpr<|.inr D,hk⟩
 have S:ô (ă prog w) A (do
   storeSet a (Ļ Α (t.put (pk t.mask (tupleKeyHash knd k) K).j).2 (tupleKeyHash knd k,æ d)) (t.put (pk t.mask (tupleKeyHash knd k) K).j).1
   if(!Τ&&(t.put (pk t.mask (tupleKeyHash knd k) K).j).1.tooFull) then do
     setRelay a (grown<|Α.size+1)
     pure U
    else pure U) Q E s:=by
  refine Λ (XN χ.at_ χ.da ?_ (by rw[f,Î];lia));by_cases e:(t.put (pk t.mask (tupleKeyHash knd k) K).j).1.tooFull=U
  .rw[à (by rw[e];rfl)];have T:t.mask=7:=by
    rcases χ.lay.Yb with q|q
    .exact q
    .exfalso;have l:(t.put (pk t.mask (tupleKeyHash knd k) K).j).1.fill=Α.size+1:=by have C:(t.put (pk t.mask (tupleKeyHash knd k) K).j).1.place.size=Α.size+1:=f▸i.OV;unfold tu;rw[C,i.W8];rfl
     have F:(t.put (pk t.mask (tupleKeyHash knd k) K).j).1.mask=t.mask:=rfl;unfold wA at e;rw[l,F,q]at e;simp at e;lia
   have aa:Α.size=4:=by
    have ai:=G T;have l:(t.put (pk t.mask (tupleKeyHash knd k) K).j).1.fill=Α.size+1:=by have C:(t.put (pk t.mask (tupleKeyHash knd k) K).j).1.place.size=Α.size+1:=f▸i.OV;unfold tu;rw[C,i.W8];rfl
    have F:(t.put (pk t.mask (tupleKeyHash knd k) K).j).1.mask=t.mask:=rfl;unfold wA at e;rw[l,F,T]at e;simp at e;lia
   refine Λ (ZZ N (by rw[f];simp_all) (by rw[aa];decide) λh' ĳ j p t' ab ad ae aj af=>Ê<|í m h' ĳ j p t' ab (λq=>fX) (u.trans ad) (by rw[ae,f]) λb=>?_);rw[af];exact(P b).trans<|R b
  .rw[Ó<|by simp_all[RU]];refine Ê<|í m _ _ _ _ _ N (λq=>?_) u f λb=>(P b).trans<|R b;have l:(t.put (pk t.mask (tupleKeyHash knd k) K).j).1.fill=Α.size+1:=by unfold tu;rw[(f▸i.OV:(t.put (pk t.mask (tupleKeyHash knd k) K).j).1.place.size=Α.size+1),i.W8];rfl
   unfold wA at e;rw[l,q]at e;rw[f];simp at e;lia
 split
 .exact Λ<|Fy hk Á S
 .exact Λ<|Ê S
end
end
section
open PySem.SetTable
section
variable{KT:Type}[iW KT]{knd:tL prog w KT}{A:ź}{I:O}{â dD:J O}{G:ŕ sY->ŕ sY->Prop}{n:M}{P:M->z->Prop}{St:M->Í->Prop}
noncomputable def uniq (ks:M->J KT):M->J (J KT)
 |0=>[]
 |i+1=>if ks i∈uniq ks i then uniq ks i else uniq ks i++[ks i]
theorem zN(ks:M->J KT):∀i,(L<|uniq ks i)<=i
 |0=>Õ _
 |i+1=>by
  have:=zN ks i;unfold uniq;split
  .lia
  .rw[Ω];exact Sf this
theorem zK{ks:M->J KT}(h:ks i∈uniq ks i):uniq ks (i+1)=uniq ks i:=à h
theorem vp{ks:M->J KT}(h:¬ks i∈uniq ks i):uniq ks (i+1)=uniq ks i++[ks i]:=Ó h
def Y0(j:WalksS prog w A.in1 I â dD G n P St)(e:O)(ap:e∉â)(aq:A.in1.units<d_)(ks:M->J KT)(aN:n<=17)(Á:∀i c v,i<n->c∈ks i->knd.is c v=U->kN 7 v=pure U)
  (aB:∀i s b o,St i s->b∈dD->s.heap.get? b=B o->∀Ï m,o.data≠.seq Ï m) (R:ό) (aC:∀i v,i<n->P i v->∃b,v=.ref b/\b≠e/\b∉dD/\ū knd R (ks i) b):
  ∀(c i:M) (s:Í) (o:gf) (Α:ŕ<|Z×z) (ï:M) (t:fR),n -i=c->i<=n->St i s->(∀b o,b≠e->b∉dD->R.get? b=B o->s.heap.get? b=B o)->
   uE knd s.heap e o Α ï t->Ok4 t Α->Α.size=(L<|uniq ks i)->(∀k,Ke knd s.heap Α k↔k∈uniq ks i)->
   (∀s' ĳ C S t',Moved (e::dD) G s s'->uE knd s'.heap e ĳ C S t'->C.size=(L<|uniq ks n)->Χ (.ok<|.ret .none) s')->
   j4 (ă prog w) A (.builtin "set.update.loop" ⟨[.ref e,.ref I],[]⟩) Χ s:=by
 have T:∀b∈dD,b∈e::dD:=λb E=>Ç _ E;have V:∀{i:M} {s s':Í} {k:J KT} {b:O},St i s->Moved dD G s s'->ū knd s.heap k b->ū knd s'.heap k b:=λ{i s s' k b} st a aD=>by obtain⟨p,Ï,m,F,W,H,X⟩:=aD;exact⟨p,Ï,m,a.heap b p (λaE=>aB i s b p st aE F _ _ H) F,W,H,X⟩
 have ar:∀{i:M} {s s':Í} {o:gf} {Α:ŕ<|Z×z} {ï:M} {t:fR},St i s->Moved dD G s s'->uE knd s.heap e o Α ï t->uE knd s'.heap e o Α ï t/\∀k,Ke knd s'.heap Α k↔Ke knd s.heap Α k:=λ{i s s' o Α ï t} st a f=>by
  refine⟨⟨a.heap e _ (λaF=>ap<|j.sub _ aF) f.at_,f.ex,f.da,f.lay,λd aG=>?_⟩,λk=>⟨?_,?_⟩⟩
  .obtain⟨k,b,l,h⟩:=f.el d aG;exact⟨k,b,l,V st a h⟩
  .rintro⟨b,K,Y⟩;obtain⟨aO,aP,l,h⟩:=f.el _ K;have aa:=Ğ LF l;injection aa with aa;subst aa;have:=(V st a h).inj Y;subst this;exact⟨b,K,h⟩
  .rintro⟨b,K,Y⟩;exact⟨b,K,V st a Y⟩
 intro c
 induction c with
 |zero=>
  intro i s o Α ï t ab ad r au f ae af N Q;have ad:i=n:=aL;subst ad;refine g8 LG ?_;rw[eZ j8 _];refine Λ<|j.done s _ _ r λs' a=>?_;exact Ê<|Q s' o Α ï t (a.mono T) (ar r a f).1 af
 |succ c av=>
  intro i s o Α ï t ab ad r au f ae af N Q;have u:i<n:=aL;refine g8 LG ?_;rw[eZ j8 _];refine Λ<|j.item i s _ _ u r λv s' aH aw a=>?_;obtain⟨b,rfl,aI,aJ,aK⟩:=aC i v u aH;obtain⟨ax,ag⟩:=ar r a f;have ah:∀b o,b≠e->b∉dD->R.get? b=B o->s'.heap.get? b=B o:=λb o l h d=>a.heap b o h<|au b o l h d;have ay:ū knd s'.heap (ks i) b:=by obtain⟨p,Ï,m,F,W,H,X⟩:=aK;exact⟨p,Ï,m,ah b p aI aJ F,W,H,X⟩
  refine Λ<|Ũ ?_;refine Ũ<|Λ<|wpAny_pyHash_tuple aq ay ?_;have aQ:=zN ks i;refine aaO ax ae aL ay aq (λc v ab=>Á i c v u ab) (λai=>?_) λai az ĳ C S t' l h aj aM aR=>?_
  .have aA:=(N _).mp<|(ag _).mp ai;refine Ê ⟨ie j8 _,av (i+1) _ o Α ï t aL u (j.frame _ s' s'.heap _ aw bh λb _ o d=>d) ah ax ae ?_ (λk=>?_) λs2 ak al am an q x ao=>Q s2 ak al am an (XO j.gtrans ((a.mono T).then_heap (h':=s'.heap) bh λb o _ d=>d) q) x ao⟩
   .rwa [zK aA]
   .rw[zK aA];exact(ag k).trans<|N k
  .refine Ê ⟨ie j8 _,av (i+1) _ ĳ C S t' aL u (j.frame _ s' az (s'.toks+((L<|ks i)+1)) aw bh λb E o d=>?_) (λb o q x d=>(aj.2 b q).trans<|ah b o q x d) l h ?_ (λk=>?_) λs2 ak al am an q x ao=>Q s2 ak al am an (XO j.gtrans ((a.mono T).then_heap (h':=az) bh λb o E d=>?_) q) x ao⟩
   .exact(aj.2 b λy=>ap<|by rwa [<-y]).trans d
   .rw[vp λy=>ai<|(ag _).mpr<|(N _).mpr y,Ω,aM,af];rfl
   .simp_all[vp,î,đ,or_congr,trans]
   .exact(aj.2 b λy=>E<|y▸Ö).trans d
end
end
section
open PySem.SetTable
section
variable{KT:Type}[iW KT]{knd:tL prog w KT}{A:ź}{s:Í}
noncomputable abbrev BA (led:ě):gf:={cls:=.type "set",dict:=g,data:=.set #[] 0 (.fresh 0 0 led)}
def FN(knd:tL prog w KT)(s:Í)(Δ:M)(s2:Í):Prop:=∃h' d o Α ï t,s2={s with heap:=h',toks:=d}/\uE knd h' s.heap.objs.size o Α ï t/\Α.size=Δ/\∀b a,b<s.heap.objs.size->s.heap.get? b=B a->h'.get? b=B a
def Qp{l:O}{led:ě}{items:ŕ z}{ks:M->J KT}(u:A.handled=g)(x:A.in1.in1.in1.units<d_)(y:s.heap.IsList l items)(C:items.size<=17)
  (hk:∀i v,items[i]?=B v->∃b,v=.ref b/\ū knd s.heap (ks i) b) (Á:∀i c v,i<items.size->c∈ks i->knd.is c v=U->kN 7 v=pure U):
  ô (ă prog w) A.in1.in1 (qU.«set.__init__» ⟨[.ref s.heap.objs.size,.ref l],[]⟩) (λjk s2=>jk=.done (.ret .none)/\FN knd s (L<|uniq ks items.size) s2) E {s with heap:=s.heap.push<|BA led}:=by
 obtain⟨G,m,H,n,I⟩:=y;obtain⟨ak,K,al,N⟩:=G;subst H I;have P:(s.heap.push<|BA led).get? s.heap.objs.size=B (BA led):=Ą _ D;have Q:(s.heap.push<|BA led).get? l=B {cls:=.type "list",dict:=K,data:=.seq items n,slots:=N}:=ß _ m;have f1:=F.sub_list_set;have f2:=F.sub_list_frozenset;have f3:(d8 "list"==d8 "dict")=Τ:=bM;have o:(s.heap.push<|BA led).IsList l items:=⟨_,Q,D,n,D⟩;unfold qU.«set.__init__»noKeywords Sg;generalize R:OY=PI
 wp_walk
 subst R;refine lF o ?_;refine Λ<|wpAny_runValue ?_;have p:(s.heap.push<|BA led).objs.size=s.heap.objs.size+1:=ϝ _ _;have S:l≠(s.heap.push<|BA led).objs.size:=p▸ė (ko<|û m);have T:s.heap.objs.size∉[(s.heap.push<|BA led).objs.size,l]:=by
  grind
 have q:∀b d,s.heap.get? b=B d->((s.heap.push<|BA led).push {cls:=.type "list_iterator",data:=.fields #[.ref l,.int 0 0]}).get? b=B d:=λb d a=>ß _<|ß _ a;refine Y0 ((Yw (by simp[u]) _ l S items).toS) s.heap.objs.size T x ks C Á ?_ s.heap (λi v am V=>?_) (items.size -0) 0 _ (BA led) #[] 0 (.fresh 0 0 led) bh (Ò _)
  ⟨⟨_,Ą _ D,D,D⟩,(o.push _)⟩ (λb d _ _ a=>q b d a) ⟨ß _ P,⟨D,D,D⟩,D,Ob 0 0 led,λa W=>absurd W bh⟩ (λ_=>Ò _) D (λan=>⟨λ⟨b,e,_⟩=>absurd e bh,λe=>absurd e<|by simp[uniq]⟩) λX Y Z aa ab f ad ae=>?_
 .intro i s1 b d st h a ao e ap;rw[đ]at h;subst h;obtain⟨aq,ar,au,av⟩:=st.1;simp_all
 .obtain⟨b,rfl,r⟩:=hk i v V;have t:b<s.heap.objs.size:=by obtain⟨j,_,_,a,_⟩:=r;exact û a
  refine⟨b,D,ė t,λk=>?_,r⟩;rw[đ,p]at k;exact absurd t<|k▸EU.mpr (Cb _)
 .obtain⟨af,ag,ah,ai,aj⟩:=X;obtain rfl:ag=s.gens:=f.gens;obtain rfl:ah=s.drawn:=f.drawn;obtain rfl:aj=s.os:=f.os;refine Ê<|Ê ⟨D,af,ai,Y,Z,aa,ab,D,ad,ae,λb j h a=>?_⟩;refine f.heap b j (λk=>?_) (q b j a)
  grind
def CY{l:O}{items:ŕ z}{ks:M->J KT}{Q:z->Í->Prop}(n:A.handled=g)(o:A.in1.in1.in1.units<d_)(p:s.heap.IsList l items)(q:items.size<=17)
  (hk:∀i v,items[i]?=B v->∃b,v=.ref b/\ū knd s.heap (ks i) b) (Á:∀i c v,i<items.size->c∈ks i->knd.is c v=U->kN 7 v=pure U)
  (h:∀s2,FN knd s (L<|uniq ks items.size) s2->Q (.ref s.heap.objs.size) s2):ô (ă prog w) A (jS (.type "set") [.ref l]) Q E s:=by
 obtain⟨c,x,y⟩:=i6.mro;have C:=i6.made;have G:=i6.sub;refine mC<|codeAny_of_tree ?_;refine Ê ⟨Code.quiet_builtin _<|by decide+kernel,g8 F.entry_type_call ?_⟩;rw[Around.under_plain (weight_type_call_type "set" [.ref l] []) D];have H:=i6.notType;have I:=i6.canCreate;have K:=F.typeCall_set_1<|.ref l
 repeat(any_goals(first|assumption|wp_step))
 refine gJ (code_set_new_1 (.ref l) (E:=E) (Q₁:=λk s1=>∃led:ě,k=.ref s.heap.objs.size/\s1={s with heap:=s.heap.push<|BA led}) λled=>⟨led,D,D⟩) λa s1 d=>?_;cases a with
 |error m=>exact d
 |ok r=>
  cases r with
  |ret k=>
   obtain⟨led,rfl,rfl⟩:=d;have N:=i6.init.lookup;have P:=i6.init.bind<|.ref s.heap.objs.size
   repeat(any_goals(first|assumption|wp_step))
   refine gJ (nF (R:=wants (λa s2=>a=.none/\FN knd s (L<|uniq ks items.size) s2) E) i6.init.plain F.entry_set_init<|check_set_init_1 ⟨_,Ą _ D,D⟩ ?_) λt s2 e=>?_
   .refine Ż (Qp n o p q hk Á) (λjk s2 f=>?_) λm R f=>f;obtain⟨rfl,j⟩:=f;exact⟨D,j⟩
   .cases t with
    |error m=>exact e
    |ok u=>
     cases u with
     |ret a=>
      obtain⟨rfl,j⟩:=e
      repeat(any_goals(first|assumption|wp_step))
      exact h _ j
     |_=>exact e.elim
  |_=>exact d.elim
end
end
inductive J8(f:ϔ->ě)(vs:J V)(H:Hp)(Q:VK)(a:XK):Prop
 |mk(b:ϔ)(_:vs=[bV b])(_:Q (.bl<|f b) H)
def r6{lo Á i:Z}{Q:VK}(h:Q (.bl<|ã (lo<=i)&&ã (i<=Á)) H):
  if ã (lo<=i) then E8 (λi j=>V.bl<|ã<|i<=j) (V.int i) (V.int Á) H Q else Q (.bl Τ) H:=by
 refine nU (λa=>(?_)) λa=>?_
 .rw[ő a,Ϟ]at h;exact h
 simp_all[Ņ,Ϫ]
theorem x7(n:ϔ)(b:ϔ):ã ((n.toNat:Z)<=(b.toNat:Z))=ã (n<=b):=by simp[UInt8.le_iff_toNat_le]
theorem D9(n b:ϔ):ã (bV b=bV n)=(b==n):=by
 by_cases a:b=n
 .subst a;simp
 .rw[Ņ λd=>a<|JV d];exact(Ş.mpr a).symm
def aak:aB ["byte"] ["byte"]<|ay<|bU 16:=by decide+kernel
def AV(b:Wk K η A):Kn P w K η Ξ c9 1 "is_sign" ["byte"]<|J8 ϒ:=by
 refine b.kn 2 aak λf h i j k d=>?_;obtain⟨a,rfl,l⟩:=d;exists _,ai<|aA<|r4 jG jG az (pv 0) az;refine⟨_,D,r6 ?_⟩;have e:ϒ a=(ã ((32:Z)<=a.toNat)&&ã ((a.toNat:Z)<=126)):=by unfold ϒ;rw[<-x7,<-x7];rfl
 rwa [<-e]
def aa0:aB ["byte"] ["byte"]<|ay<|bU 17:=by decide+kernel
def f6(b:Wk K η A):Kn P w K η Ξ c9 1 "is_small_letter" ["byte"]<|J8 ϻ:=by
 refine b.kn 3 aa0 λf h i j k d=>?_;obtain⟨a,rfl,l⟩:=d;exists _,ai<|aA<|r4 jG jG az (pv 0) az;refine⟨_,D,r6 ?_⟩;have e:ϻ a=(ã ((97:Z)<=a.toNat)&&ã ((a.toNat:Z)<=122)):=by unfold ϻ;rw[<-x7,<-x7];rfl
 rwa [<-e]
def aat:aB ["byte"] ["byte"]<|ay<|bU 18:=by decide+kernel
def C6(b:Wk K η A):Kn P w K η Ξ c9 1 "is_capital" ["byte"]<|J8 sI:=by
 refine b.kn 4 aat λf h i j k d=>?_;obtain⟨a,rfl,l⟩:=d;exists _,ai<|aA<|r4 jG jG az (pv 0) az;refine⟨_,D,r6 ?_⟩;have e:sI a=(ã ((65:Z)<=a.toNat)&&ã ((a.toNat:Z)<=90)):=by unfold sI;rw[<-x7,<-x7];rfl
 rwa [<-e]
def aao:aB ["byte"] ["byte"]<|ay<|bU 19:=by decide+kernel
def r8(b:Wk K η A):Kn P w K η Ξ c9 1 "is_digit" ["byte"]<|J8 eu:=by
 refine b.kn 5 aao λf h i j k d=>?_;obtain⟨a,rfl,l⟩:=d;exists _,ai<|aA<|r4 jG jG az (pv 0) az;refine⟨_,D,r6 ?_⟩;have e:eu a=(ã ((48:Z)<=a.toNat)&&ã ((a.toNat:Z)<=57)):=by unfold eu;rw[<-x7,<-x7];rfl
 rwa [<-e]
def D0{c:ě}{Q:VK}{t:Prop}(á:c=U->Q (.bl U) H)(í:c=Τ->t):∃a,V.bl c=.bl a/\if a then Q (.bl U) H else t:=⟨c,D,gC á í⟩
def Am{c:ě}{Q:VK}{t:Prop}(á:c=U->t)(í:c=Τ->Q (.bl Τ) H):∃a,V.bl c=.bl a/\if a then t else Q (.bl Τ) H:=⟨c,D,gC á í⟩
def aam:aB ["byte"] ["byte"]<|ay<|bU 20:=by decide+kernel
noncomputable def mH (b:ϔ):ě:=ϻ b||(eu b||b==45)
def zf(a:Wk K η A):Kn P w K η Ξ c9 2 "is_word_byte" ["byte"]<|J8 mH:=by
 refine a.kn 6 aam λj k l m d i=>?_;obtain⟨e,rfl,b⟩:=i;exists _,ai<|aA<|Bw (aR (f6 a) d D aG<|aa (pv 0) aj)<|Bw (aR (r8 a) d D aG<|aa (pv 0) aj)<|p9<|l9 ee (pv 0) (aW a.md.Q5)<|aK _;refine⟨e,D,D0 (λf=>?_) λf=>⟨e,D,D0 (λh=>?_) λh=>⟨D,?_⟩⟩⟩
 .simp_all[mH,xO]
 .simp_all[mH,xO,XQ]
 .unfold mH at b;rw[f,h,jg,jg,<-D9]at b;exact b
noncomputable abbrev sg (x:S):J M:=x.cps.toList
theorem PV(x:S):x.length=(L<|sg x):=by simp[sg,Str.length]
theorem sE(b:ϔ):∀t:ê,R3 (bV b) (tV t)=t.contains b
 |[]=>D
 |a::t=>by
  show(Ju (bV a) (bV b)||R3 (bV b) (tV t))=_;rw[sE b t,jA];have e:Ju (bV a) (bV b)=(b==a):=by
   show((a.toNat:Z)==(b.toNat:Z))=_;by_cases d:b=a
   .subst d;simp
   .rw[Ş.mpr d];refine Ş.mpr λf=>d ?_;exact(Ab.mp aL).symm
  rw[e]
theorem kC:∀t:ê,(tV t).all kh=U
 |[]=>D
 |a::t=>by show(kh (bV a)&&(tV t).all kh)=U;rw[kC t];rfl
section
variable{Q:VK}
def Xq(x:S)(f:M->V)(F:x.length<=sizeLine)
  (u:∀c∈sg x,∀Θ (q:VK),av ο Θ->(∀d,av Θ d->q (f c) d)->Â ((cE σ [i]).set i<|B<|.str ⟨#[c]⟩) Θ q)
  (w:∀a Θ,ο a=g->av ο Θ->Θ a=B (.Y<|(sg x).map f)->Q (.ref a) Θ):
  ∀a,ο a=g->∃h:M->M->Hp->Prop,(∃m,h 0 m<|T ο a<|.Y [])/\∀n m H,h n m H->
   ((ZX x).stop n H/\Q (.ref a) H)\/((ZX x).go n H/\∃j:Hp->Prop,(∀R,j R->∃r,r<m/\h (n+1) r R)/\∀v R,(ZX x).HW n H v R->c8 i v (cE σ [i]) R λk Θ=>cE k [i]=cE σ [i]/\CN k Θ λb d=> if b then Â k d λy s=>∃acc,s a=B (.Y acc)/\L acc<sizeLine/\j (T s a<|.Y<|acc++[y]) else j d):=by
 intro a l;have G:x.cps.size=(L<|sg x):=by simp[sg]
 existsλn m H=>m=(L<|sg x) -n/\n<=(L<|sg x)/\av ο H/\H a=B (.Y<|((sg x).take n).map f),⟨_,D,Ò _,aq l,af⟩;rintro n m H ⟨rfl,I,o,p⟩;by_cases z:n<(L<|sg x)
 .refine .inr ⟨by show n<x.cps.size;omega,λR=>av ο R/\R a=B (.Y<|((sg x).take<|n+1).map f),λR A=>⟨(L<|sg x) -(n+1),aL,D,z,A⟩,?_⟩;rintro v R ⟨rfl,c,C,rfl⟩;have t:(sg x)[n]?=B c:=by rw[<-C];simp[sg]
  exists HU σ i _;unfold CN;dsimp only;rw[à D];refine u c (υ t) R _ o λd s3=>⟨_,s3 _ _ p,?_,λb E e=>?_,?_⟩
  .rw[Ε,ŀ];have:=PV x;lia
  .rw[au<|ao e l];exact s3 _ _<|o b E e
  .rw[af];rw[(by rw[Ĝ,t];rfl:(sg x).take (n+1)=(sg x).take n++[c]),Ý];rfl
 .have e:n=(L<|sg x):=aL;subst e;rw[č]at p;exact .inl ⟨by show x.cps.size<=_;omega,w a H l o p⟩
end
def abf:aB ["byte"] ["byte"]<|ay<|bU 21:=by decide+kernel
noncomputable def p6 (b:ϔ):ě:=ϻ b||(sI b||(eu b||([46,95,47,45]:ê).contains b))
def zg(a:Wk K η A):Kn P w K η Ξ c9 2 "is_path_byte" ["byte"]<|J8 p6:=by
 refine a.kn 7 abf λj n o p d k=>?_;obtain⟨e,rfl,b⟩:=k;obtain⟨l,gv,m⟩:=a.md.E7;exists _,ai (aA<|Bw (aR (f6 a) d D aG<|aa (pv 0) aj)<|Bw (aR (C6 a) d D aG<|aa (pv 0) aj)<|Bw (aR (r8 a) d D aG<|aa (pv 0) aj)<|p9<|l9 Ep (pv 0) (aW gv)<|by with_unfolding_all rfl);unfold p6 at b;refine⟨e,D,D0 (λf=>?_) λf=>⟨e,D,D0 (λh=>?_) λh=>⟨e,D,D0 (λi=>?_) λi=>⟨l,tV [46,95,47,45],D,.inr<|m j,D,kC _,?_⟩⟩⟩⟩
 .rw[f,xO]at b;exact b
 .lia
 .lia
 .rw[f,h,i,jg,jg,jg,<-sE]at b;exact b
def aaC:aB ["byte"] ["byte"]<|ay<|bU 26:=by decide+kernel
noncomputable def sO (b:ϔ):ě:=ϒ b&& !([44,40,41,123,125,64]:ê).contains b
def tE(b:Wk K η A):Kn P w K η Ξ c9 2 "is_argument_sign" ["byte"]<|J8 sO:=by
 refine b.kn 12 aaC λe l m n f h=>?_;obtain⟨i,rfl,a⟩:=h;obtain⟨j,gv,k⟩:=b.md.tK;exists _,ai (aA<|An (aR (AV b) f D aG<|aa (pv 0) aj)<|p9<|l9 pZ (pv 0) (aW gv)<|by with_unfolding_all rfl);unfold sO at a;refine⟨i,D,Am (λd=>⟨j,tV [44,40,41,123,125,64],D,.inr<|k e,D,kC _,?_⟩) λd=>?_⟩
 .rw[d,Ϟ,<-sE]at a;exact a
 .rw[d,Ϫ]at a;exact a
def Wr:aB ["word","sign"] ["word"]<|ay<|bU 14:=by decide+kernel
inductive TQ(vs:J V)(H:Hp)(Q:VK)(a:XK):Prop
 |mk (x:S) (_:vs=[.str x]) (_:x.length<=1000) (_:∀D R,H D=g->av H R->R D=B (.Y<|(sg x).map λc=>V.int (c:M))->Q (.ref D) R)
def vj(b:Wk K η A):Kn P w K η Ξ c9 1 "codes" ["word"] TQ:=by
 refine b.kn 0 Wr λm n o p q f=>?_;obtain⟨d,rfl,r,h⟩:=f;refine⟨_,ai<|aA<|gV D Wr.nd (W5<|pv 0) (bL (own:=[("sign",1)])<|by kernel_rfl) (λ_ _ _ _ _=>bC 1 Wr) (λ_ _ _ _ _=>cY) λ_ _ _ _ _=>jN QE D b.md.YV (by decide+kernel)<|aa (pv 1) aj,?_⟩
 refine⟨d,D,Xq d (λe=>V.int (e:M)) (by rw[Î];lia) (λe s a t s2 i=>?_) λj a k s2 l=>h j a k s2 l⟩;exact⟨_,D,D,i a<|av.refl _⟩
theorem mP(c:ϔ):∀t:ê,ώ c t≠[]
 |[]=>by simp[ώ]
 |b::a=>by
  unfold ώ;split
  .simp
  .split<;>simp
theorem D_(c:ϔ):ώ c []=[[]]:=rfl
theorem kG{c:ϔ}(r:ê):ώ c (c::r)=[]::ώ c r:=by simp[ώ]
def i_{b c:ϔ}(r:ê)(h:b≠c):∃w a,ώ c r=w::a/\ώ c (b::r)=(b::w)::a:=by
 cases d:ώ c r with
 |nil=>exact absurd d<|mP c r
 |cons w a=>exact⟨w,a,D,by simp[ώ,h,d]⟩
noncomputable def m9 (b:ϔ):J ê->J ê
 |[]=>[]
 |[w]=>[w++[b]]
 |w::v::r=>w::m9 b (v::r)
theorem ug{b:ϔ}{w:ê}{l:J ê}(h:l≠[]):m9 b (w::l)=w::m9 b l:=by
 cases l with
 |nil=>exact absurd D h
 |cons a d=>rfl
theorem tW(b:ϔ)(w:ê):∀l:J ê,m9 b (l++[w])=l++[w++[b]]
 |[]=>D
 |v::l=>by show m9 b (v::(l++[w]))=_;rw[ug bh,tW b w l];rfl
theorem rz(c:ϔ):∀p:ê,ώ c (p++[c])=ώ c p++[[]]
 |[]=>by simp[ώ]
 |a::p=>by
  have d:=rz c p;by_cases b:a=c
  .subst b;show ώ a (a::(p++[a]))=_;rw[kG,kG,d];rfl
  .obtain⟨e,f,h,i⟩:=i_ p b;obtain⟨j,k,l,m⟩:=i_ (p++[c]) b;simp_all
theorem qD{b c:ϔ}(h:b≠c):∀p:ê,ώ c (p++[b])=m9 b (ώ c p)
 |[]=>by simp[ώ,h,m9]
 |a::p=>by
  have f:=qD h p;by_cases d:a=c
  .subst d;show ώ a (a::(p++[b]))=_;rw[kG,kG,f,ug<|mP _ _]
  .obtain⟨m,i,j,k⟩:=i_ p d;obtain⟨n,o,e,l⟩:=i_ (p++[b]) d;show ώ c (a::(p++[b]))=_;rw[l,k];rw[f,j]at e;cases i with
   |nil=>cases e;rfl
   |cons q r=>cases e;rfl
noncomputable def dw (t:ê):É ê:=match t with
 |32::y=>B y
 |_=>g
noncomputable def dW (t:ê):É<|ê×J ê:=
 if t.contains 40=Τ then B (t,[])
 else if t.getLast?≠B 41 then g
 else match ώ 44 ((t.drop<|(L<|t.takeWhile λb=>b !=40)+1).dropLast) with
  |[]=>g
  |a::r=>(iB<|r.map dw).map λl=>(t.takeWhile λb=>b !=40,a::l)
theorem t9{t:ê}(h:t.contains 40=Τ):t.takeWhile (λb=>b !=40)=t:=by
 induction t with
 |nil=>rfl
 |cons a t d=>
  rw[jA,tQ]at h;simp_all[bne,O_,Gf]
theorem eL:∀{t:ê},t.contains 40=U->∃n r,t=n++40::r/\n.contains 40=Τ/\t.takeWhile (λb=>b !=40)=n
 |[],d=>by simp at d
 |a::t,d=>by
  by_cases e:a=40
  .subst e;exact⟨[],t,D,D,by rfl⟩
  .have f:t.contains 40=U:=by
    grind
   obtain⟨n,r,h,i,j⟩:=eL f;refine⟨a::n,r,by rw[h];rfl,?_,?_⟩
   .grind
   simp_all
theorem AS{n r:ê}(h:r≠[]):(n++r).getLast?=r.getLast?:=by
 rw[List.getLast?_append];cases a:r.getLast? with
 |none=>simp_all
 |some b=>rfl
noncomputable def d7 (t:ê):É<|J ê:=if t.getLast?=B 41 then(match ώ 44 t.dropLast with
 |[]=>g
 |a::r=>(iB<|r.map dw).map λl=>a::l) else g
theorem qC(t:ê):Sh t=(d7 t).bind λl=>if l.all ű then B l else g:=by
 unfold Sh d7;split
 .cases ώ 44 t.dropLast with
  |nil=>rfl
  |cons b d=>
   have e:∀a:É<|J ê,(a.bind λl=>if(b::l).all ű then B (b::l) else g)=(a.map λl=>b::l).bind λl=>if l.all ű then B l else g:=λa=>by cases a<;>rfl
   exact e<|iB<|d.map dw
 .rfl
theorem gT{t:ê}(h:t.contains 40=Τ):dW t=B (t,[]):=by unfold dW;rw[à h]
theorem f7{n r:ê}(h:n.contains 40=Τ):dW (n++40::r)=(d7 r).map λl=>(n,l):=by
 have d:(n++40::r).contains 40=U:=bh;obtain⟨k,m,o,p,q⟩:=eL d;have f:(n++40::r).takeWhile (λi=>i !=40)=n:=by
  rw[List.takeWhile_append_of_pos]
  .simp
  grind
 unfold dW;rw[d,f];simp only[wB,lH];have j:(n++40::r).drop (L n+1)=r:=by simp
 rw[j,AS bh];unfold d7;cases r with
 |nil=>rfl
 |cons a r=>
  have:(40::a::r:ê).getLast?=(a::r).getLast?:=by rfl
  rw[this];by_cases e:(a::r).getLast?=B 41
  .rw[à e];simp[e,ne_eq,not_true_eq_false,lH];cases ώ 44 (a::r).dropLast with
   |nil=>rfl
   |cons s b=>
    show(iB<|b.map dw).map _=((iB<|b.map dw).map _).map _;cases iB (b.map dw)<;>rfl
  simp_all[Ó]
theorem My(n r:ê):(n++r).drop (L n)=r:=bh
theorem nh(t:ê):pX t=(dW t).bind λx=>if(cP x.1&&x.2.all ű) then B (.use x.1 x.2) else g:=by
 unfold pX;by_cases a:t.contains 40=Τ
 .rw[gT a,t9 a]
  grind
 .rw[fB]at a;obtain⟨e,b,f,h,i⟩:=eL a;rw[i];subst f;rw[f7 h];dsimp only;rw[My];dsimp only;rw[qC];cases d:cP e with
  |false=>
   simp[oK];cases d7 b<;>simp[d]
  |true=>
   simp only[wB,lH];cases d7 b with
   |none=>rfl
   |some j=>
    simp only[kO,iY,d,Ϟ];split<;>rfl
def As:∀b:ϔ,(ϻ b||eu b)=U->(ϒ b&& !([44,40,41,123,125,64]:ê).contains b)=U:=by intro b;exact(by decide+kernel:∀a:_root_.Fin 256,(ϻ (zA a)||eu (zA a))=true->(ϒ (zA a)&& !([44,40,41,123,125,64]:ê).contains (zA a))=true) b.toFin
theorem qE:∀b:ϔ,(ϻ b||eu b)=U->b≠32:=by intro b a d;subst d;revert a;decide
def CM{t:ê}(h:ħ t=U):(∃a r,t=a::r/\ϻ a=U)/\L t<=12/\∀b∈t,(ϻ b||eu b)=U:=by
 unfold ħ at h;rw[ø,ø]at h;refine⟨?_,iy h.2.1,λb d=>Ě.mp h.2.2 b d⟩;cases t with
 |nil=>simp at h
 |cons a r=>exact⟨a,r,D,by simpa using h.1⟩
def M6{t:ê}(h:ħ t=U):ű t=U:=by
 obtain⟨⟨b,k,f,l⟩,m,a⟩:=CM h;unfold ű;rw[ø,ø,ø];refine⟨ő aL,Ě.mpr λd i=>As d<|a d i,?_,?_⟩
 .subst f;have:=qE b<|a b bh;simp[this]
 .cases j:t.getLast? with
  |none=>rfl
  |some e=>
   have:=qE e<|a e<|List.mem_of_getLast? j;simp[this]
theorem HV{l:J ê}(h:l.all ħ=U):l.all ű=U:=
 Ě.mpr λa b=>M6<|Ě.mp h a b
noncomputable def rC (f:ě) (n:Đ) (θ:J Đ):iz:={isFile:=f,name:=n,params:=θ,lines:=[]}
noncomputable def gp (r:ê):É iz:=(dW r).bind λx=>
 if(cP x.1&&(x.2.all ħ&&(ų x.2&&ã (x.2.length<=4)))) then B (rC Τ x.1 x.2) else g
def Ah(r:ê):(let n:=r.takeWhile λb=>b !=40
   if cP n=Τ then g else match r.drop (L n) with
    |[]=>B (rC Τ n [])
    |_::q=>(Sh q).bind λl=>if(l.all ħ&&(ų l&&ã (L l<=Valita.PARAMS))) then B (rC Τ n l) else g)=gp r:=by
 unfold gp;by_cases d:r.contains 40=Τ
 .rw[gT d];dsimp only;rw[t9 d];cases a:cP r with
  |false=>simp[a]
  |true=>simp[a,ų]
 .rw[fB]at d;obtain⟨n,q,e,f,h⟩:=eL d;dsimp only;rw[h];subst e;rw[f7 f,My];dsimp only;rw[qC];cases a:cP n with
  |false=>
    simp[oK];cases d7 q<;>simp[a]
  |true=>
    simp only[wB,lH];cases d7 q with
    |none=>rfl
    |some l=>
     simp only[kO,iY,a,Ϟ];by_cases i:l.all ħ=U
     .rw[à<|HV i];rfl
     grind
theorem Er(t:ê):EV t=if yQ.isPrefixOf t then(if wC (t.drop 6) then B (rC U (t.drop 6) []) else g)
  else if qv.isPrefixOf t then gp (t.drop 7) else g:=by
 unfold EV;split
 .rfl
 .split
  .exact Ah<|t.drop 7
  .rfl
noncomputable def jk (x:YE):É<|J Ť:=match x.at_ with
 |.plain=>B<|xR x
 |_=>g
theorem rD(t:ê):g5 t=(i7 {pieces:=[],lit:=[],at_:=.plain} t).bind jk:=rfl
noncomputable def marked (r:ê):É<|Ť×ê:=match r with
 |123::q=>if q.contains 125 then(pX<|q.takeWhile λb=>b !=125).map λp=>(p,q.drop<|(L<|q.takeWhile λb=>b !=125)+1) else g
 |60::q=>if q.contains 62 then(if ħ (q.takeWhile λb=>b !=62) then B (.param<|q.takeWhile λb=>b !=62,q.drop<|(L<|q.takeWhile λb=>b !=62)+1) else g) else g
 |_=>g
theorem gW{c:ϔ}:∀{t:ê},t.contains c=U->∃n r,t=n++c::r/\n.contains c=Τ/\t.takeWhile (λb=>b !=c)=n
 |[],d=>by simp at d
 |a::t,d=>by
  by_cases e:a=c
  .subst e;exact⟨[],t,D,D,bh⟩
  .have f:t.contains c=U:=by
    grind
   obtain⟨n,r,h,i,j⟩:=gW f;refine⟨a::n,r,by rw[h];rfl,?_,?_⟩
   .grind
   simp_all
theorem Bq:∀(a:ê) (x:YE) (b:ê),i7 x (a++b)=(i7 x a).bind λy=>i7 y b
 |[],x,b=>D
 |c::a,x,b=>by
  show(uw x c).bind _=((uw x c).bind _).bind _;cases uw x c with
  |none=>rfl
  |some y=>exact Bq a y b
theorem uQ:∀(u:ê) (x:YE) (t:ê),x.at_=.using_ t->u.contains 125=Τ->i7 x u=B {x with at_:=.using_<|t++u}
 |[],x,t,a,_=>by obtain⟨d,e,h⟩:=x;cases a;simp[i7]
 |b::u,x,t,a,f=>by
  obtain⟨d,e,h⟩:=x;cases a;rw[jA,tQ]at f;have i:¬b=125:=λj=>by subst j;simp at f
  show(uw _ b).bind _=_;have:uw {pieces:=d,lit:=e,at_:=.using_ t} b=B {pieces:=d,lit:=e,at_:=.using_<|t++[b]}:=by simp[uw,i]
  rw[this];show i7 _ u=_;rw[uQ u _ (t++[b]) D f.2];simp
theorem sd:∀(u:ê) (x:YE) (t:ê),x.at_=.naming t->u.contains 62=Τ->i7 x u=B {x with at_:=.naming<|t++u}
 |[],x,t,a,_=>by obtain⟨d,e,h⟩:=x;cases a;simp[i7]
 |b::u,x,t,a,f=>by
  obtain⟨d,e,h⟩:=x;cases a;rw[jA,tQ]at f;have i:¬b=62:=λj=>by subst j;simp at f
  show(uw _ b).bind _=_;have:uw {pieces:=d,lit:=e,at_:=.naming t} b=B {pieces:=d,lit:=e,at_:=.naming<|t++[b]}:=by simp[uw,i]
  rw[this];show i7 _ u=_;rw[sd u _ (t++[b]) D f.2];simp
noncomputable def eT (θ:J Ť) (lit:ê):YE:={pieces:=θ,lit:=lit,at_:=.plain}
noncomputable def uT (θ:J Ť) (lit:ê):J Ť:=if lit.isEmpty then θ else θ++[.lit lit]
theorem Qn(θ:J Ť)(lit:ê):(i7 (eT θ lit) []).bind jk=B (uT θ lit):=rfl
theorem Ot{θ:J Ť}{lit:ê}{b:ϔ}(r:ê)(h:b≠64):i7 (eT θ lit) (b::r)=i7 (eT θ<|lit++[b]) r:=by
 show(uw _ b).bind _=_;have:uw (eT θ lit) b=B (eT θ<|lit++[b]):=by simp[uw,eT,h]
 rw[this];rfl
theorem Sy{θ:J Ť}{lit:ê}(r:ê):i7 (eT θ lit) (64::64::r)=i7 (eT θ<|lit++[64]) r:=rfl
theorem yo{θ:J Ť}{lit:ê}(r:ê)(h:r.head?≠B 64):
  (i7 (eT θ lit)<|64::r).bind jk=(marked r).bind λj=>(i7 (eT (uT θ lit++[j.1]) []) j.2).bind jk:=by
 have s:i7 (eT θ lit) (64::r)=i7 {pieces:=θ,lit:=lit,at_:=.mark} r:=rfl;rw[s];cases r with
 |nil=>rfl
 |cons f b=>
  have t:¬f=64:=λj=>h (by rw[j];rfl);by_cases p:f=123
  .subst p;have k:i7 {pieces:=θ,lit:=lit,at_:=.mark} (123::b)=i7 {pieces:=θ,lit:=lit,at_:=.using_ []} b:=rfl;rw[k];by_cases i:b.contains 125=U
   .obtain⟨a,d,l,m,u⟩:=gW i;have e:marked (123::b)=(pX a).map λn=>(n,d):=by unfold marked;simp_all
    rw[e];subst l;rw[Bq,uQ a _ [] D m];show(i7 _<|125::d).bind jk=_;have o:i7 {pieces:=θ,lit:=lit,at_:=.using_<|[]++a} (125::d)=(pX a).bind λn=>i7 (eT (uT θ lit++[n]) []) d:=by show((pX<|[]++a).map _).bind _=_;rw[mu];cases pX a<;>rfl
    rw[o];cases pX a<;>rfl
   .rw[uQ b _ [] D aL];have e:marked (123::b)=g:=by unfold marked;simp only;rw[Ó i]
    rw[e];rfl
  .by_cases q:f=60
   .subst q;have k:i7 {pieces:=θ,lit:=lit,at_:=.mark} (60::b)=i7 {pieces:=θ,lit:=lit,at_:=.naming []} b:=rfl;rw[k];by_cases i:b.contains 62=U
    .obtain⟨a,d,l,m,u⟩:=gW i;have e:marked (60::b)=if ħ a then B (.param a,d) else g:=by unfold marked;simp_all
     rw[e];subst l;rw[Bq,sd a _ [] D m];show(i7 _<|62::d).bind jk=_;have o:i7 {pieces:=θ,lit:=lit,at_:=.naming<|[]++a} (62::d)=(if ħ a then B (eT (uT θ lit++[.param a]) []) else g).bind λv=>i7 v d:=by rfl
     rw[o];split<;>rfl
    .rw[sd b _ [] D aL];have e:marked (60::b)=g:=by unfold marked;simp only;rw[Ó i]
     rw[e];rfl
   .have e:marked (f::b)=g:=by unfold marked;simp_all
    rw[e];have:uw {pieces:=θ,lit:=lit,at_:=.mark} f=g:=by simp[uw,t,p,q]
    show((uw _ f).bind _).bind _=_;rw[this];rfl
theorem G6(r:ê):g5 (64::105::r)=g:=by rw[rD];show(i7 (eT [] [])<|64::105::r).bind jk=g;rw[yo _ bh];rfl
theorem P0:EW=[64,105,102,32]:=bM
def mJ{p t:ê}(h:p.isPrefixOf t=U):∃r,t=p++r:=by have:=List.isPrefixOf_iff_prefix.mp h;obtain⟨r,a⟩:=this;exact⟨r,a.symm⟩
theorem DN(t:ê):wL t=if t=Jr then B .otherwise else if t=OI then B .done
  else if(EW.isPrefixOf t&&ħ (t.drop 4)) then B (.when<|t.drop 4) else(g5 t).map .code:=by
 unfold wL;split
 .rfl
 .split
  .rfl
  .by_cases b:EW.isPrefixOf t=U
   .rw[à b,b,Ϟ];show(if ħ (t.drop 4) then _ else _)=_;by_cases a:ħ (t.drop 4)=U
    .rw[à a,à a];rfl
    .rw[Ó a,Ó a];obtain⟨d,e⟩:=mJ b;subst e;rw[P0];show g=(g5<|64::105::102::32::d).map _;rw[G6];rfl
   simp_all
def MF(θ:J Đ):Ť->Prop
 |.lit t=>t≠[]/\L t<=200
 |.use n b=>L b<=200/\L n<=30/\∀a∈b,L a<=40
 |.param n=>n∈θ
noncomputable def gy (l:J Ť):M:=((ŷ l).map λn=>L n+1).sum
theorem uN(a b:J Ť):gy (a++b)=gy a+gy b:=by simp[gy,ŷ]
def Lj(θ:J Đ):oO->Prop
 |.code l=>L l<=200/\(∀p∈l,MF θ p)/\gy l<=200
 |_=>Cm
noncomputable def cJ:J ě->J oO->É (J ě)
 |st,[]=>B st
 |st,.code _::r=>cJ st r
 |st,.when _::r=>cJ (Τ::st) r
 |false::st,.otherwise::r=>cJ (U::st) r
 |_,.otherwise::_=>g
 |_::st,.done::r=>cJ st r
 |[],.done::_=>g
theorem kZ:∀(a:J oO) (st:J ě) (b:J oO),cJ st (a++b)=(cJ st a).bind λs=>cJ s b
 |[],st,b=>D
 |.code _::a,st,b=>kZ a st b
 |.when _::a,st,b=>kZ a (Τ::st) b
 |.otherwise::a,[],b=>D
 |.otherwise::a,U::st,b=>D
 |.otherwise::a,Τ::st,b=>kZ a (U::st) b
 |.done::a,[],b=>D
 |.done::a,_::st,b=>kZ a st b
structure vm(c:iz):Prop where
 lines:∀l∈c.lines,Lj c.params l
 file:c.isFile=U->c.params=[]
 few:L c.params<=4
 nm:L c.name<=40
def r7(a b:iz):Prop:=Ō a b=U->a.params=b.params
structure eN(d:ó):Prop where
 chunk:∀c∈ć d,vm c/\cJ [] c.lines=B []
 same:∀a∈ć d,∀b∈ć d,r7 a b
 blocks:L d<=200
 chunks:(L<|ć d)<=60
 IP:į d<=400
theorem uf(a b:iz):Ō a b=Ō b a:=by simp[Ō,Gf]
theorem r7.symm{a b:iz}(h:r7 a b):r7 b a:=λd=>(h<|by rwa [uf]).symm
theorem r7.refl(a:iz):r7 a a:=λ_=>D
theorem aO(a b:ó):ć (a++b)=ć a++ć b:=by unfold ć;simp
theorem bq(c:iz):ć [.chunk c]=[c]:=rfl
theorem jP(t:ê):ć [.prose t]=[]:=rfl
theorem Nl(l:J M)(k:M):l.foldl (·+·) k=k+l.foldl (·+·) 0:=by
 induction l generalizing k with
 |nil=>rfl
 |cons a l b=>grind
theorem bT(a b:ó):į (a++b)=į a+į b:=by unfold į;rw[aO,Ý,ļ,Nl]
theorem b9(c:iz):į [.chunk c]=L c.lines:=by show 0+L c.lines=_;simp
theorem qI(t:ê):į [.prose t]=0:=rfl
noncomputable def aP (x:Š):ó:=match x.now with
 |none=>x.blocks
 |some a=>x.blocks++[.chunk a.1]
structure vW(x:Š):Prop where
 old:∀c∈ć x.blocks,cJ [] c.lines=B []
 chunk:∀c∈ć (aP x),vm c
 now:∀c nest,x.now=B (c,nest)->cJ [] c.lines=B nest
 same:∀a∈ć (aP x),∀b∈ć (aP x),r7 a b
 blocks:(L<|aP x)<=200
 chunks:(L<|ć<|aP x)<=60
 IP:į (aP x)<=400
def A9:vW {blocks:=[],now:=g} where
 old:=λb a=>by cases a
 chunk:=λb a=>by cases a
 now:=λb d a=>by cases a
 same:=λb a=>by cases a
 blocks:=bM
 chunks:=bM
 IP:=bM
def Vx(p:Ť):Prop:=(∀t,p=.lit t->t≠[]/\L t<=200)/\(∀m b,p=.use m b->L b<=200/\L m<=30/\∀a∈b,L a<=40)
def FE(x:YE)(n:M):Prop:=(∀p∈x.pieces,Vx p)/\(L x.pieces+(if x.lit.isEmpty then 0 else 1)<=n/\L x.lit<=n/\gy x.pieces<=n)/\
 match x.at_ with|.using_ t=>L t<=n/\gy x.pieces+L t+1<=n|.naming t=>L t<=n|.mark=>gy x.pieces+1<=n|_=>Cm
theorem kI(c:ϔ):∀t:ê,(L<|ώ c t)<=L t+1
 |[]=>by simp[ώ]
 |b::a=>by
  have d:=kI c a;by_cases e:b=c
  .subst e;rw[kG];simp;omega
  .obtain⟨i,j,f,h⟩:=i_ a e;rw[f]at d;rw[h];simp at d⊢;lia
theorem w7{Ν:Type}:∀{l:J<|É Ν} {r:J Ν},iB l=B r->L r=L l
 |[],r,a=>by cases a;rfl
 |x::l,r,a=>by
  cases x with
  |none=>cases a
  |some d=>
   cases b:iB l with
   |none=>simp[iB,b]at a
   |some e=>
    simp[iB,b]at a;subst a;simp[w7 b]
def Hu{t:ê}{l:J ê}(h:d7 t=B l):L l<=L t:=by
 unfold d7 at h;split at h
 .rename_i f;have i:t≠[]:=λa=>fX;cases a:ώ 44 t.dropLast with
  |nil=>rw[a]at h;cases h
  |cons j d=>
   rw[a]at h;have e:=kI 44 t.dropLast;rw[a]at e;cases b:iB (d.map dw) with
   |none=>simp[b]at h
   |some k=>
    have m:=w7 b
    grind
 .cases h
def qo{t:ê}{x:ê×J ê}(h:dW t=B x):x.2.length<=L t:=by
 by_cases a:t.contains 40=Τ
 .rw[gT a]at h;cases h;simp
 .rw[fB]at a;obtain⟨i,d,e,f,j⟩:=eL a;subst e;rw[f7 f]at h;cases b:d7 d with
  |none=>rw[b]at h;cases h
  |some k=>
   rw[b]at h;cases h;have:=Hu b;simp;lia
def AR{t:ê}(h:cP t=U):L t<=30:=by simp_all[cP,ø,dN]
def Nh{t:ê}(h:ű t=U):L t<=40:=by unfold ű at h;simp only[ø,dN]at h;exact h.1
def CV{t:ê}{x:ê×J ê}(h:dW t=B x):x.1.length<=L t:=by
 by_cases a:t.contains 40=Τ
 .rw[gT a]at h;cases h;simp
 .rw[fB]at a;obtain⟨i,d,e,f,j⟩:=eL a;subst e;rw[f7 f]at h;cases b:d7 d with
  |none=>rw[b]at h;cases h
  |some k=>
   rw[b]at h;cases h;simp
def Lk(l:J Ť)(t:ê):gy (l++[.lit t])=gy l:=by rw[uN];rfl
theorem KL(l:J Ť)(t:ê):gy (l++[.param t])=gy l:=by rw[uN];rfl
theorem Le(l:J Ť)(n:ê)(args:J ê):gy (l++[.use n args])=gy l+(L n+1):=by rw[uN];rfl
theorem r_(θ:J Ť)(lit:ê)(a:abl):gy (xR ⟨θ,lit,a⟩)=gy θ:=by
 unfold xR;split
 .rfl
 .exact Lk _ _
def GO{t:ê}{p:Ť}(h:pX t=B p):∃n args,p=.use n args/\(L args<=L t/\L n<=L t)/\L n<=30/\∀a∈args,L a<=40:=by
 rw[nh]at h;cases b:dW t with
 |none=>rw[b]at h;cases h
 |some f=>
  rw[b,kO]at h;split at h
  .rename_i d;rw[ø]at d;cases h;exact⟨_,_,D,⟨qo b,CV b⟩,AR d.1,λa e=>Nh<|Ě.mp d.2 a e⟩
  .cases h
def Th{x y:YE}{b:ϔ}{n:M}(s:n<=200)(h:FE x n)(e:uw x b=B y):FE y<|n+1:=by
 obtain⟨o,p,k⟩:=x;obtain⟨f,⟨u,v,w⟩,j⟩:=h;have q:∀i∈xR ⟨o,p,k⟩,Vx i:=by
  intro i a;unfold xR at a;split at a
  .exact f i a
  .rename_i z;rw[î]at a;rcases a with a|a
   .exact f i a
   .simp at a;subst a;exact⟨λl d=>xV,λt A d=>by cases d⟩
 have C:(L<|xR ⟨o,p,k⟩)<=n:=by
  unfold xR
  grind
 cases k with
 |plain=>
  simp[uw]at e;split at e
  .cases e;exact⟨f,⟨aL,aL,aL⟩,fX⟩
  .cases e;refine⟨f,⟨?_,by simp;omega,aL⟩,trivial⟩;lia
 |mark=>
  simp[uw]at e;split at e
  .cases e;refine⟨f,⟨?_,by simp;omega,aL⟩,trivial⟩;lia
  .split at e
   .cases e;exact⟨f,⟨aL,aL,aL⟩,fX⟩
   .split at e
    .cases e;exact⟨f,⟨aL,aL,aL⟩,bh⟩
    .cases e
 |using_ l=>
  simp[uw]at e;split at e
  .cases m:pX l with
   |none=>simp[m]at e
   |some i=>
    simp[m]at e;subst e;obtain⟨t,E,rfl,r⟩:=GO m;refine⟨λi a=>?_,⟨by simp;omega,bh,by rw[Le,r_];lia⟩,trivial⟩;rw[î]at a;rcases a with a|a
    .exact q i a
    .simp at a;subst a;exact⟨λ_ d=>(by cases d),λ_ _ d=>by cases d;exact⟨Ć r.1.1<|Ć j.1 s,r.2⟩⟩
  .cases e;have j:=j;exact⟨f,⟨aL,aL,aL⟩,by simp;omega⟩
 |naming l=>
  simp[uw]at e;split at e
  .split at e
   .cases e;refine⟨λi a=>?_,⟨by simp;omega,bh,by rw[KL,r_];lia⟩,trivial⟩;rw[î]at a;rcases a with a|a
    .exact q i a
    .simp at a;subst a;exact⟨λ_ d=>(by cases d),λ_ _ d=>by cases d⟩
   .cases e
  .cases e;exact⟨f,⟨aL,aL,aL⟩,by simp;exact j⟩
theorem Me:∀(t:ê) (x y:YE) (n:M),n+L t<=200->FE x n->i7 x t=B y->FE y (n+L t)
 |[],x,y,n,_,d,a=>by cases a;exact d
 |b::t,x,y,n,f,d,a=>by
  rw[Ñ]at f;cases e:uw x b with
  |none=>simp[i7,e]at a
  |some h=>
   simp[i7,e]at a;have:=Me t h y (n+1) aL (Th aL d e) a
   grind
def yt{t:ê}{l:J Ť}(k:L t<=200)(h:g5 t=B l):L l<=200/\(∀p∈l,Vx p)/\gy l<=200:=by
 rw[rD]at h;cases b:i7 {pieces:=[],lit:=[],at_:=.plain} t with
 |none=>rw[b]at h;cases h
 |some e=>
  rw[b,kO]at h;have:=Me t _ e 0 fX ⟨λp a=>by(cases a),⟨bM,bh,by simp[gy,ŷ]⟩,trivial⟩ b;obtain⟨m,lit,at_⟩:=e;obtain⟨i,⟨j,n,o⟩,q⟩:=this;cases at_ with
  |plain=>
   have d:=ĥ h;subst d;rw[r_];unfold xR;split
   .lia
   .rename_i d;rw[Ó d]at j;refine⟨by simp;lia,λp a=>?_,aL⟩;rw[î]at a;rcases a with a|a
    .exact i p a
    .simp at a;subst a;exact⟨λt f=>xV,λr s f=>by cases f⟩
  |mark=>cases h
  |using_ t=>cases h
  |naming t=>cases h
def E1{l:J Ť}(h:XS n∈l):n∈ϸ l:=by exact jy.mpr ⟨_,h,D⟩
def vn{t:ê}(h:EV t=B c):c.lines=[]/\(c.isFile=U->c.params=[])/\L c.params<=4/\L c.name<=40:=by
 rw[Er]at h;split at h
 .split at h
  .rename_i a;unfold wC at a;simp only[ø,dN]at a;cases h;exact⟨D,λ_=>D,by simp[rC],a.2.1⟩
  .cases h
 .split at h
  .unfold gp at h;cases b:dW (t.drop 7) with
   |none=>rw[b]at h;cases h
   |some e=>
    rw[b,kO]at h;split at h
    .rename_i a;cases h;simp[ø,dN]at a;exact⟨D,λd=>Ř d,a.2.2.2,Ć (AR a.1) bM⟩
    .cases h
  .cases h
theorem b8{x:Š}(h:x.now=g):aP x=x.blocks:=by unfold aP;rw[h]
def mV{x:Š}(h:x.now=B (c,nest)):aP x=x.blocks++[.chunk c]:=by unfold aP;rw[h]
def nL{x y:Š}{l:oO}{k:J ě}(Χ:vW x)(Ο:x.now=B (c,nest))(t:Lj c.params l)(u:cJ nest [l]=B k)
  (e:lP x c l k=.ok y):vW y:=by
 unfold lP at e;split at e
 .cases e
 .rename_i v;cases e;have o:=mV Ο;have f:aP {x with now:=B ({c with lines:=c.lines++[l]},k)}=x.blocks++[.chunk {c with lines:=c.lines++[l]}]:=rfl;have i:=Χ.chunk c (by rw[o,aO];simp[bq]);have m:=Χ.chunk;have j:=Χ.same;have p:=Χ.blocks;have n:=Χ.chunks;rw[o]at m j p n;rw[aO,bq]at m j n;have BO:∀d∈ć x.blocks,r7 d c:=λd a=>j d (Ĭ _ a) c bh;refine⟨Χ.old,?_,?_,?_,?_,?_,?_⟩
  .rw[f,aO,bq];intro d a;rw[î]at a;rcases a with a|a
   .exact m d<|Ĭ _ a
   .simp at a;subst a;refine⟨λs h=>?_,i.file,i.few,i.nm⟩;rw[î]at h;rcases h with h|h
    .exact i.lines s h
    grind
  .intro w z q;cases q
   rwa [kZ,Χ.now c nest Ο]
  .rw[f,aO,bq];intro d a r b;rw[î]at a b;rcases a with a|a<;>rcases b with b|b
   .exact j d (Ĭ _ a) r<|Ĭ _ b
   .simp at b;subst b;exact BO d a
   .simp at a;subst a;exactλq=>(BO r b<|by rwa [uf]).symm
   .simp at a b;subst a;subst b;exact r7.refl _
  .rw[f];simp at p⊢;lia
  .rw[f,aO,bq];simp at n⊢;lia
  .rw[f,bT,b9];simp;have:Valita.LINES=400:=rfl;lia
def F3{x y:Š}{t:ê}(Χ:vW x)(Ο:x.now=B (c,nest))(n:L t<=200)(e:jt x c nest t=.ok y):vW y:=by
 unfold jt at e;split at e
 .split at e
  .rename_i w;cases e;have d:=mV Ο;have f:aP {blocks:=x.blocks++[.chunk c],now:=g}=x.blocks++[.chunk c]:=rfl;refine⟨?_,by rw[f,<-d];exact Χ.chunk,λc h a=>(by cases a),by rw[f,<-d];exact Χ.same,by rw[f,<-d];exact Χ.blocks,by rw[f,<-d];exact Χ.chunks,by rw[f,<-d];exact Χ.IP⟩;intro i b;dsimp only at b;rw[aO,bq,î]at b;rcases b with b|b
   .exact Χ.old i b
   .simp at b;subst b;rw[Χ.now i nest Ο]
    grind
  .cases e
 .cases a:wL t with
  |none=>rw[a]at e;cases e
  |some l=>
   rw[a]at e;cases l with
   |otherwise=>
    cases nest with
    |nil=>cases e
    |cons k o=>
     cases k with
     |true=>cases e
     |false=>exact nL (l:=.otherwise) Χ Ο trivial D e
   |done=>
    cases nest with
    |nil=>cases e
    |cons k o=>exact nL (l:=.done) Χ Ο trivial D e
   |when p=>
    dsimp only at e;split at e
    .cases e
    .exact nL (l:=.when p) Χ Ο trivial D e
   |code l=>
    dsimp only at e;split at e
    .rename_i q;refine nL Χ Ο ?_ D e;have r:g5 t=B l:=by
      rw[DN]at a;split at a
      .cases a
      .split at a
       .cases a
       .split at a
        .cases a
        simp_all
     obtain⟨s,m,u⟩:=yt n r;refine⟨s,λv j=>?_,u⟩;cases v with
     |lit t=>exact(m _ j).1 t D
     |use h i=>exact(m _ j).2 h i D
     |param h=>
      have:=Ě.mp q h<|E1 j;exact ē.mp this
    .cases e
def FO{x y:Š}{t:ê}(Χ:vW x)(Ο:x.now=g)(e:mE x t=.ok y):vW y:=by
 have d:=Χ.blocks;have n:=Χ.chunks;have k:=Χ.IP;have l:=Χ.chunk;have m:=Χ.same;rw[b8 Ο]at d n k l m;unfold mE at e;dsimp only at e;split at e
 .split at e
  .cases e
  .rename_i o;cases e;have b:aP {x with blocks:=x.blocks++[.prose t]}=x.blocks++[.prose t]:=b8 Ο;have h:ć (x.blocks++[.prose t])=ć x.blocks:=by simp[aO,jP,ö]
   have:Si=200:=rfl;refine⟨h▸Χ.old,by rw[b,h];exact l,λi C j=>aL,by rw[b,h];exact m,by rw[b];simp;lia,by rw[b,h];exact n,by rw[b,bT,qI];lia⟩
 .cases j:EV t with
  |none=>rw[j]at e;cases e
  |some i=>
   rw[j]at e;dsimp only at e;split at e
   .cases e
   .rename_i o;split at e
    .rename_i r;cases e;obtain⟨p,s,u,v⟩:=vn j;have b:aP {x with now:=B (i,[])}=x.blocks++[.chunk i]:=rfl;have w:∀f∈ć x.blocks,r7 f i:=λf a z=>by have:=Ě.mp r f a;rw[z]at this;simpa using this
     simp[Sd,dN,not_or]at o;have E:Si=200:=rfl;have F:Valita.CHUNKS=60:=rfl;refine⟨Χ.old,?_,λG H A=>?_,?_,by rw[b];simp;lia,by rw[b,aO,bq];simp;lia,by rw[b,bT,b9,p];simp;exact k⟩
     .rw[b,aO,bq];intro f a;rw[î]at a;rcases a with a|a
      .exact l f a
      .simp at a;subst a;exact⟨λI k=>xV,s,u,v⟩
     .cases A;rw[p];rfl
     .rw[b,aO,bq];intro f a q d;rw[î]at a d;rcases a with a|a<;>rcases d with d|d
      .exact m f a q d
      .grind
      .simp at a;subst a;exact(w q d).symm
      grind[r7.refl]
    .cases e
def yr{x y:Š}{l:ê×ě}(Χ:vW x)(e:gu x l=.ok y):vW y:=by
 unfold gu at e;split at e
 .cases e
 .rename_i b;rw[fB,ø,ø,dN]at b;cases a:x.now with
  |none=>rw[a]at e;exact FO Χ a e
  |some d=>rw[a]at e;exact F3 Χ a b.2.2 e
theorem vB:∀(f:J<|ê×ě) (i:M) (x:Š) (d:ó),vW x->pP i x f=.ok d->eN d
 |[],i,x,d,b,a=>by
  unfold pP at a;cases e:x.now with
  |none=>
   rw[e]at a;cases a;have h:=b.chunk;have j:=b.same;have k:=b.blocks;have l:=b.chunks;have m:=b.IP;rw[b8 e]at h j k l m;exact⟨λn o=>⟨h n o,b.old n o⟩,j,k,l,m⟩
  |some r=>rw[e]at a;cases a
 |p::f,i,x,d,b,a=>by
  unfold pP at a;cases e:gu x p with
  |error s=>rw[e]at a;cases a
  |ok q=>rw[e]at a;exact vB f (i+1) q d (yr b e) a
def qH{t:ê}(e:oQ t=.ok d):eN d:=vB _ _ _ _ A9 e
def DG:eN []:=⟨λb a=>(by cases a),λb a=>(by cases a),bM,bM,bM⟩
noncomputable def eS:M->Š->J ê->di UE Š
 |_,x,[]=>.ok x
 |i,x,t::r=>match gu x (t,U) with
  |.error n=>.error ⟨i,n⟩
  |.ok y=>eS (i+1) y r
noncomputable def v9 (i:M) (x:Š) (a:ê):di UE ó:=
 if a.isEmpty then(if x.now.isSome then .error ⟨i,8⟩ else .ok x.blocks) else .error ⟨i,1⟩
theorem rY:∀(a:J ê) (i:M) (x:Š) (b:ê),
  pP i x (a.map (λt=>(t,U))++(if b.isEmpty then[] else[(b,Τ)]))=match eS i x a with
   |.error f=>.error f
   |.ok y=>v9 (i+L a) y b
 |[],i,x,b=>by
  unfold v9 eS;dsimp only[iA,mu,ŭ,iH];split
  .rfl
  .have:gu x (b,Τ)=.error 1:=rfl;show pP i x [(b,Τ)]=_;unfold pP;rw[this]
 |t::a,i,x,b=>by
  show pP i x ((t,U)::(a.map (λt=>(t,U))++_))=_;unfold pP eS;cases gu x (t,U) with
  |error d=>rfl
  |ok y=>
   dsimp only;rw[rY a (i+1) y b];have:i+1+L a=i+(L<|t::a):=by simp;lia
   rw[this]
def vM{t:ê}{a:J ê}{b:ê}(h:ώ 10 t=a++[b]):oQ t=match eS 1 {blocks:=[],now:=g} a with
  |.error f=>.error f
  |.ok y=>v9 (1+L a) y b:=by
 unfold oQ abm;rw[h];dsimp only;rw[tR,List.getLastD_eq_getLast?,List.getLast?_concat];exact rY a 1 _ b
def Ic(t:ê):∃a b,ώ 10 t=a++[b]:=by have:=mP 10 t;exact⟨_,_,(gz this).symm⟩
structure ef where
 kind:M
 signs:ê
 place:ú
 way:J ú
 argument:M
 parameter:ú
noncomputable def sU:ú:=⟨0,0,0⟩
noncomputable def expand (u:ef):e8:=match u.kind with
 |0=>u.signs.zipIdx.map λa=>{value:=a.1,home:=.lit u.place a.2,way:=u.way}
 |1=>u.signs.zipIdx.map λa=>{value:=a.1,home:=.arg u.place u.argument a.2 u.parameter,way:=u.way}
 |_=>u.signs.map λb=>{value:=b,home:=.rule u.place,way:=u.way}
def aU(r:J ef):e8:=r.flatMap expand
theorem fj(u:ef):(L<|expand u)=L u.signs:=by unfold expand;split<;>simp
def V2(r:J ef):Prop:=∀u∈r,u.signs≠[]
variable{r:J ef}{Υ:J<|J ef}
def IT{r:J ef}(h:V2 r):aU r=[]↔r=[]:=by
 cases r with
 |nil=>exact⟨λ_=>D,λ_=>D⟩
 |cons b r=>
  refine⟨λa=>?_,λa=>by cases a⟩;unfold aU at a;rw[ĕ,List.append_eq_nil_iff]at a;have d:=fj b;rw[a.1]at d;exact absurd (Gz.mp d.symm)<|h b bh
theorem rm(a b:J ef):aU (a++b)=aU a++aU b:=by unfold aU;simp
theorem ia(u:ef)(r:J ef):aU (u::r)=expand u++aU r:=rfl
theorem yy(u:ef):aU [u]=expand u:=by rw[ia];exact ö _
noncomputable def xK (w:J ú) (p:ú) (t:ê):ef:=⟨0,t,p,w,0,sU⟩
noncomputable def vV (w:J ú) (p:ú) (t:ê):ef:=⟨2,t,p,w,0,sU⟩
noncomputable def AG (w:J ú) (u:ú) (i:M) (p:ú) (t:ê):ef:=⟨1,t,u,w,i,p⟩
theorem Bh(use_:u7)(env:GA)(l:J fL)(c:fL)(n:M):
  ϩ use_ env (l++[c]) n=(ϩ use_ env l n).bind λx=>(gw use_ env c x.2).map λy=>(x.1++y.1,y.2):=by
 simp[ϩ]
def CH(use_:u7)(env:GA)(a b:J fL)(n:M)(f:ł)(h:ϩ use_ env a n=.error f):ϩ use_ env (a++b) n=.error f:=by
 unfold ϩ at h⊢;rw[ļ,h]
 induction b with
 |nil=>rfl
 |cons e b d=>exact d
noncomputable def joined (use_:u7) (env:GA) (c:fL) (Ô:J<|Ť×M) (n:M):di ł<|e8×M:=
 Ô.foldl (λb a=>kP use_ env (Ĕ c a.2) b a.1) (.ok ([],n))
theorem Hh(use_:u7)(env:GA)(c:fL)(Ô:J<|Ť×M)(a:Ť×M)(n:M):
  joined use_ env c (Ô++[a]) n=kP use_ env (Ĕ c a.2) (joined use_ env c Ô n) a.1:=by
 unfold joined;simp
def Kp(use_:u7)(env:GA)(c:fL)(a b:J<|Ť×M)(n:M)(f:ł)(h:joined use_ env c a n=.error f):joined use_ env c (a++b) n=.error f:=by
 unfold joined at h⊢;rw[ļ,h]
 induction b with
 |nil=>rfl
 |cons d b e=>
  rw[ju];have:kP use_ env (Ĕ c d.2) (.error f) d.1=.error f:=by cases d.1<;>rfl
  rwa [this]
def I9(use_:u7)(env:GA)(c:fL)(n:M)(h:n<800):gw use_ env c n=match oG c.pieces with
  |some a=>(use_ (Ĕ c a.piece) a.name a.args<|n+1).map λx=>(ϯ env c a x.1,x.2)
  |none=>(joined use_ env c c.pieces.zipIdx<|n+1).map λx=>([x.1],x.2):=by
 unfold gw;rw[Ó (by show¬800<=n;simp_all)];rfl
def CL(use_:u7)(env:GA)(c:fL)(n:M)(h:¬n<800):gw use_ env c n=.error ⟨4,Ĕ c 0⟩:=by unfold gw;rw[à (by show 800<=n;simp_all)]
theorem Iu{n:Đ}:∀(θ:J Đ) (args:J ê) (k i:M),L θ=L args->θ[i]?=B n->(∀j,j<i->θ[j]?≠B n)->
  ∃t,args[i]?=B t/\(θ.zip<|(args.zipIdx k).map λf=>(f.2,f.1)).find? (λx=>x.1==n)=B (n,k+i,t)
 |[],args,k,i,b,a,_=>by simp at a
 |d::θ,[],k,i,b,a,_=>by simp at b
 |d::θ,h::args,k,0,b,a,_=>by simp at a;subst a;exact⟨h,D,bh⟩
 |d::θ,h::args,k,i+1,b,a,l=>by
  simp at b a;obtain⟨t,m,o⟩:=Iu θ args (k+1) i b a (λj p e=>l (j+1) fX<|by simpa using e);exists t,by simpa using m
  rw[ż,þ,List.zip_cons_cons,ϲ];simp[Ş.mpr (λe=>l 0 bh (by simp[e]):d≠n)];rw[o];congr 2;simp;lia
noncomputable def fD (θ:J Đ) (args:J ê) (u:ú) (way:J ú):GA:={args:=θ.zip<|args.zipIdx.map λa=>(a.2,a.1),use_:=u,way:=way}
theorem H9{θ:J Đ}{args:J ê}{u p:ú}{way:J ú}{t:ê}(d:L θ=L args)(Á:θ[i]?=B n)(e:∀j,j<i->θ[j]?≠B n)
  (f:args[i]?=B t):qW (fD θ args u way) p n=expand (AG way u i p t):=by
 obtain⟨l,a,h⟩:=Iu θ args 0 i d Á e;rw[f]at a;cases a;unfold qW;have:(fD θ args u way).args.find? (λk=>k.1==n)=B (n,i,t):=by show(θ.zip<|(args.zipIdx 0).map λb=>(b.2,b.1)).find? _=_;rw[h,ύ]
 rw[this];rfl
noncomputable def b6 (b:ef) (r:J ef):J ef:=if r.isEmpty then r else b::r
noncomputable def gS (a b:ef) (Υ:J<|J ef):J<|J ef:=(Υ.take 1).map (b6 a)++(Υ.drop 1).map (b6 b)
theorem sC{b:ef}{r:J ef}(h:V2 r):aU (b6 b r)=if(aU r).isEmpty then[] else expand b++aU r:=by
 unfold b6;cases r with
 |nil=>rfl
 |cons a r=>
  have:aU (a::r)≠[]:=λd=>by have:=(IT h).mp d;cases this
  rw[Ó bh,Ó<|by simpa using this];rfl
theorem qA{Ν d:Type}(f:Ν×M->d)(ς:Ν->d):∀(l:J Ν) (k:M),(∀a i,k<=i->f (a,i)=ς a)->(l.zipIdx k).map f=l.map ς
 |[],k,b=>D
 |a::l,k,b=>by rw[ż,þ,þ,b a k<|Õ _,qA f ς l (k+1) λa i e=>b a i aL]
theorem GZ{env:GA}{c:fL}{a:GB}{Υ:J<|J ef}(d:∀r∈Υ,V2 r):
  ϯ env c a (Υ.map aU)=(gS (xK env.way (Ĕ c 0) a.blanks) (vV env.way (Ĕ c a.piece) a.blanks) Υ).map aU:=by
 unfold ϯ gS;cases Υ with
 |nil=>rfl
 |cons r Υ=>
  rw[þ,ż,þ];simp only[M0,nI,List.drop_succ_cons,Dv,þ,iA,qt,mu];congr 1
  .rw[sC<|d r bh];simp only[oK];rfl
  .rw[qA _ λb=>if b.isEmpty then[] else expand (vV env.way (Ĕ c a.piece) a.blanks)++b]
   .rw[Ħ,Ħ];refine ϰ λe f=>?_;show _=aU (b6 _ e);rw[sC<|d e<|by simp[f]];rfl
   .intro b h i;rw[Ó<|show¬h=0 by lia];rfl
theorem CD{env:GA}{c:fL}{a:GB}(h:a.blanks=[])(l:J e8):ϯ env c a l=l:=by
 unfold ϯ;rw[h];have:∀(l:J e8) (b:M),(l.zipIdx b).map (λd=>if d.1.isEmpty then([]:e8) else(if d.2=0 then GC env (Ĕ c 0) [] else([]:ê).map λe=>({value:=e,home:=.rule<|Ĕ c a.piece,way:=env.way}:Gg))++d.1)=l:=by
  intro l
  induction l with
  |nil=>intro b;rfl
  |cons f l i=>
   intro b;rw[ż,þ,i];congr 1;cases f with
   |nil=>rfl
   |cons e f=>
    rw[Ó bh];split<;>rfl
 exact this l 0
theorem Hq(m:e8)(l:J e8):ę (m::l)=(m.map λb=>b.value)++[10]++ę l:=rfl
theorem C4(u:ef):(expand u).map (λb=>b.value)=u.signs:=by
 have f:∀(a:ê) (h:M) (e:ϔ×M->Gg),(∀d,(e d).value=d.1)->((a.zipIdx h).map e).map (λb=>b.value)=a:=by
  intro a
  induction a with
  |nil=>intro h e i;rfl
  |cons j a k=>
   simp_all
 unfold expand;split
 .exact f _ _ _ λd=>D
 .exact f _ _ _ λd=>D
 simp[Ħ,Function.comp_def]
theorem rq:∀r:J ef,(aU r).map (λb=>b.value)=r.flatMap (λu=>u.signs)
 |[]=>D
 |u::r=>by rw[ia,Ý,C4,rq r];rfl
theorem rB:∀r:J ef,(L<|aU r)=(r.map λu=>L u.signs).sum
 |[]=>D
 |u::r=>by rw[ia,Ω,fj,rB r];rfl
theorem kQ:∀Υ:J<|J ef,(L<|ę<|Υ.map aU)=(Υ.map λr=>(r.map λu=>L u.signs).sum+1).sum
 |[]=>D
 |r::Υ=>by rw[þ,Hq,Ω,kQ Υ,Ω,Ε,rB];rfl
noncomputable def gQ (u:ef) (j:M):J M:=match u.kind with
 |0=>0::(ϓ u.place++[j])
 |1=>1::(ϓ u.place++([u.argument,j]++ϓ u.parameter))
 |_=>2::ϓ u.place
noncomputable def qg (w:J ú):J M:=L w::w.flatMap ϓ
def KY{u:ef}{j:M}{v:ϔ}(h:u.signs[j]?=B v):∃b,(expand u)[j]?=B b/\b.value=v/\fG b=gQ u j++qg u.way:=by
 obtain⟨d,signs,a,way,e,f⟩:=u
 match d with
 |0=>
  refine⟨⟨v,.lit a j,way⟩,?_,D,?_⟩
  .show(signs.zipIdx.map _)[j]?=_;rw[Ë,tS,h];simp
  simp[fG,qg,gQ]
 |1=>
  refine⟨⟨v,.arg a e j f,way⟩,?_,D,?_⟩
  .show(signs.zipIdx.map _)[j]?=_;rw[Ë,tS,h];simp
  simp[fG,qg,gQ]
 |k+2=>
  refine⟨⟨v,.rule a,way⟩,?_,D,?_⟩
  .show(signs.map _)[j]?=_;rw[Ë,h];rfl
  simp[fG,qg,gQ]
theorem FT{u:ef}(h:j<L u.signs):(aU<|u::r)[j]?=(expand u)[j]?:=by rw[ia,iG (by rw[fj];exact h)]
theorem FF{u:ef}(h:L u.signs<=j):(aU<|u::r)[j]?=(aU r)[j -L u.signs]?:=by rw[ia,Dn (by rw[fj];exact h),fj]
structure yq(d:ó)(u:ef):Prop where
 full:u.signs≠[]
 kinds:u.kind<=2
 lit:u.kind=0->iI d u.place=B (.lit u.signs)/\u.argument=0
 arg:u.kind=1->∃n args,iI d u.place=B (.use n args)/\args[u.argument]?=B u.signs
noncomputable def fu (m:ef->ě) (o:M):M->J ef->J M
 |_,[]=>[]
 |k,u::r=>(if m u then[k+o] else[])++fu m o (k+L u.signs) r
theorem B5(m:ef->ě)(o:M):∀(a:J ef) (k:M) (b:J ef),fu m o k (a++b)=fu m o k a++fu m o (k+(a.map λu=>L u.signs).sum) b
 |[],k,b=>by simp[fu]
 |u::a,k,b=>by show _++fu m o (k+L u.signs) (a++b)=_;rw[B5 m o a (k+L u.signs) b];simp[fu,þ,Gh,ϊ];rw[Nat.add_assoc]
theorem mY{mk:ϔ×M->Gg}{f:abi->ě}{c:ě}{o:M}(a:∀v j,f (mk (v,j)).home=(c&&j==o)):∀(l:ê) (j k:M),
  ((((l.zipIdx j).map mk).zipIdx k).filter λb=>f b.1.home).map (λb=>b.2)=if c=U/\j<=o/\o<j+L l then[k+(o -j)] else[]
 |[],j,k=>by simp
 |v::l,j,k=>by
  rw[ż,þ,ż,iC];have d:=mY a l (j+1)<|k+1
  grind
theorem lR{f:abi->ě}{mk:ϔ->Gg}(a:∀v,f (mk v).home=Τ):∀(l:ê) (k:M),(((l.map mk).zipIdx k).filter λb=>f b.1.home).map (λb=>b.2)=[]
 |[],k=>D
 |v::l,k=>by rw[þ,ż,iC];rw[a,Ó bh,lR a l<|k+1]
noncomputable def oV (p:ú) (u:ef):ě:=u.kind==0&&(u.place==p&&u.argument==0)
noncomputable def oX (p:ú) (i:M) (u:ef):ě:=u.kind==1&&(u.place==p&&u.argument==i)
def Iq{d:ó}{u:ef}{p:ú}{t:ê}{o:M}(Χ:yq d u)(s:iI d p=B (.lit t))(v:o<L t)(k:M):
  (((expand u).zipIdx k).filter λb=>qX p o b.1.home).map (λb=>b.2)=if oV p u then[k+o] else[]:=by
 obtain⟨j,signs,e,way,l,m⟩:=u;have h:=Χ.kinds;dsimp only at h
 match j,h with
 |0,_=>
  have n:=(Χ.lit D).2;have q:=(Χ.lit D).1;dsimp only at n q;show((((signs.zipIdx 0).map λa=>({value:=a.1,home:=.lit e a.2,way:=way}:Gg)).zipIdx k).filter λb=>qX p o b.1.home).map (λb=>b.2)=_;rw[mY (c:=e==p) (o:=o) (f:=qX p o) λi r=>D];unfold oV;lia
 |1,_=>
  show((((signs.zipIdx 0).map λa=>({value:=a.1,home:=.arg e l a.2 m,way:=way}:Gg)).zipIdx k).filter λb=>qX p o b.1.home).map (λb=>b.2)=_;rw[mY (c:=Τ) (o:=o) (f:=qX p o) λi r=>D,Ó bh,Ó<|by simp[oV]]
 |2,_=>
  show(((signs.map λb=>({value:=b,home:=.rule e,way:=way}:Gg)).zipIdx k).filter λb=>qX p o b.1.home).map (λb=>b.2)=_;rw[lR λi=>D,Ó<|by simp[oV]]
def Hy{d:ó}{u:ef}{p:ú}{n:Đ}{args:J ê}{i:M}{t:ê}{o:M}(Χ:yq d u)(w:iI d p=B (.use n args))(x:args[i]?=B t)(y:o<L t)(k:M):
  (((expand u).zipIdx k).filter λb=>qY p i o b.1.home).map (λb=>b.2)=if oX p i u then[k+o] else[]:=by
 obtain⟨q,signs,a,way,h,r⟩:=u;have j:=Χ.kinds;dsimp only at j
 match q,j with
 |0,_=>
  show((((signs.zipIdx 0).map λe=>({value:=e.1,home:=.lit a e.2,way:=way}:Gg)).zipIdx k).filter λb=>qY p i o b.1.home).map (λb=>b.2)=_;rw[mY (c:=Τ) (o:=o) (f:=qY p i o) λl m=>D,Ó bh,Ó<|by simp[oX]]
 |1,_=>
  obtain⟨z,A,s,v⟩:=Χ.arg D;dsimp only at v s;show((((signs.zipIdx 0).map λe=>({value:=e.1,home:=.arg a h e.2 r,way:=way}:Gg)).zipIdx k).filter λb=>qY p i o b.1.home).map (λb=>b.2)=_;rw[mY (c:=a==p&&h==i) (o:=o) (f:=qY p i o) (λl m=>by show(a==p&&(h==i&&m==o))=_;rw[UG])];unfold oX;lia
 |2,_=>
  show(((signs.map λb=>({value:=b,home:=.rule a,way:=way}:Gg)).zipIdx k).filter λb=>qY p i o b.1.home).map (λb=>b.2)=_;rw[lR λl=>D,Ó<|by simp[oX]]
theorem HL{f:abi->ě}{m:ef->ě}{o:M}:∀(r:J ef) (k:M),(∀u∈r,∀k,(((expand u).zipIdx k).filter λb=>f b.1.home).map (λb=>b.2)=if m u then[k+o] else[])->
  (((aU r).zipIdx k).filter λb=>f b.1.home).map (λb=>b.2)=fu m o k r
 |[],k,_=>D
 |u::r,k,a=>by rw[ia,OJ,jB,Ý,a u bh k,fj,HL r (k+L u.signs) λd e=>a d<|by simp[e]];rfl
def cC(m:ef->ě)(o:M)(Υ:J<|J ef)(k:M):J<|M×M:=(Υ.zipIdx k).flatMap λa=>(fu m o 0 a.1).map λj=>(a.2,j)
def we{f:abi->ě}{m:ef->ě}{o:M}(Υ:J<|J ef)(h:∀r∈Υ,∀u∈r,∀k,(((expand u).zipIdx k).filter λb=>f b.1.home).map (λb=>b.2)=if m u then[k+o] else[]):
  e_ (Υ.map aU) f=cC m o Υ 0:=by
 have:∀(Υ:J<|J ef) (k:M),(∀r∈Υ,∀u∈r,∀k,(((expand u).zipIdx k).filter λb=>f b.1.home).map (λb=>b.2)=if m u then[k+o] else[])->
   ((Υ.map aU).zipIdx k).flatMap (λa=>(a.1.zipIdx.filter λb=>f b.1.home).map λb=>(a.2,b.2))=(Υ.zipIdx k).flatMap λa=>(fu m o 0 a.1).map λd=>(a.2,d):=by
  intro Υ
  induction Υ with
  |nil=>intro k _;rfl
  |cons r Υ e=>
   intro k h;rw[þ,ż,ż,ĕ,ĕ,e (k+1) λr i=>h r<|by simp[i]];congr 1;rw[<-HL r 0 λu j=>h r bh u j,Ħ];rfl
 exact this Υ 0 h
theorem wW(on:J Đ)(i:M)(st:J ě)(θ:J Ť)(r:J oO):Œ on i st (.code θ::r)=if st.all (λb=>b) then(i,θ)::Œ on (i+1) st r else Œ on (i+1) st r:=by cases st<;>rfl
theorem w9(on:J Đ)(i:M)(st:J ě)(s:Đ)(r:J oO):Œ on i st (.when s::r)=Œ on (i+1) (on.contains s::st) r:=by cases st<;>rfl
theorem w5(on:J Đ)(i:M)(b:ě)(st:J ě)(r:J oO):Œ on i (b::st) (.otherwise::r)=Œ on (i+1) ((!b)::st) r:=rfl
theorem FD(on:J Đ)(i:M)(b:ě)(st:J ě)(r:J oO):Œ on i (b::st) (.done::r)=Œ on (i+1) st r:=rfl
theorem Bc(on:J Đ)(i:M)(st:J ě):Œ on i st []=[]:=by cases st<;>rfl
theorem gi(on:J Đ):∀(e:J oO) (i:M) (st:J ě) (x:M×J Ť),x∈Œ on i st e->∃j,x.1=i+j/\e[j]?=B (.code x.2)
 |[],i,st,x,h=>by rw[Bc]at h;cases h
 |.code k::b,i,st,x,h=>by
  rw[wW]at h;split at h
  .rw[ç]at h;rcases h with h|h
   .subst h;exact⟨0,D,D⟩
   .obtain⟨j,d,a⟩:=gi on b (i+1) st x h;exact⟨j+1,aL,by simpa using a⟩
  .obtain⟨j,d,a⟩:=gi on b (i+1) st x h;exact⟨j+1,aL,by simpa using a⟩
 |.when l::b,i,st,x,h=>by rw[w9]at h;obtain⟨j,d,a⟩:=gi on b (i+1) _ x h;exact⟨j+1,aL,by simpa using a⟩
 |.otherwise::b,i,[],x,h=>by obtain⟨j,d,a⟩:=gi on b (i+1) [] x h;exact⟨j+1,aL,by simpa using a⟩
 |.otherwise::b,i,f::st,x,h=>by rw[w5]at h;obtain⟨j,d,a⟩:=gi on b (i+1) _ x h;exact⟨j+1,aL,by simpa using a⟩
 |.done::b,i,[],x,h=>by obtain⟨j,d,a⟩:=gi on b (i+1) [] x h;exact⟨j+1,aL,by simpa using a⟩
 |.done::b,i,f::st,x,h=>by rw[FD]at h;obtain⟨j,d,a⟩:=gi on b (i+1) _ x h;exact⟨j+1,aL,by simpa using a⟩
noncomputable def BO (G H:Hp) (χ:J O):Hp:=λb=>if b∈χ then H b else G b
theorem iT(h:b∈χ):BO G H χ b=H b:=à h
theorem vC(h:b∉χ):BO G H χ b=G b:=Ó h
def Ex.holds(a:Ex G H Ē ο)(h:∀b∈χ,H b=g):Ex G H (BO Ē ο χ) ο:=
 ⟨a.same,λb f d=>by
  by_cases e:b∈χ
  .rw[iT e];exact a.sub b f (a.le b f d)
  .rw[vC e];exact a.le b f d,λb f d=>by
  by_cases e:b∈χ
  .rw[iT e]at d;exact d
  .rw[vC e]at d;exact a.sub b f d,λb f d=>by
  by_cases e:b∈χ
  .exact .inr (h b e)
  .rw[vC e]at d;exact a.new b f d⟩
theorem fh(c:ϔ):∀(t u:ê),u∈ώ c t->L u<=L t
 |[],u,a=>by simp_all[D_,Õ]
 |b::t,u,a=>by
  by_cases d:b=c
  .subst d;rw[kG]at a;rcases ç.mp a with z|z
   .rw[z];exact Ò _
   .exact Ć (fh b t u z)<|Cb _
  .obtain⟨f,h,i,e⟩:=i_ t d;rw[e]at a;have j:=fh c t
   grind
def Gq(K:Ζ)(H:Hp)(a:O)(Ø:J ê):Prop:=∃as:J O,aN K H a (as.map V.ref)/\ď (Tx K H) as Ø
theorem Paired.cj{Ν d:Type}{e G:Ν->d->Prop}(f:∀a b,e a b->G a b):∀{l:J Ν} {m:J d},ď e l m->ď G l m
 |_,_,.nil=>.nil
 |_,_,.cons h i=>.cons (f _ _ h)<|Paired.cj f i
theorem Paired.Ug{Ν d:Type}{e G:Ν->d->Prop}:∀{l:J Ν} {m:J d},ď e l m->(∀a b,a∈l->e a b->G a b)->ď G l m
 |_,_,.nil,_=>.nil
 |_,_,.cons h i,f=>.cons (f _ _ Ö h)<|Paired.Ug i λa b j=>f a b<|Ç _ j
theorem Paired.len{Ν a:Type}{b:Ν->a->Prop}:∀{l:J Ν} {m:J a},ď b l m->L l=L m
 |_,_,.nil=>D
 |_,_,.cons _ d=>by rw[Ñ,Ñ,Paired.len d]
theorem Paired.app{Ν d:Type}{a:Ν->d->Prop}:∀{l e:J Ν} {m f:J d},ď a l m->ď a e f->ď a (l++e) (m++f)
 |_,_,_,_,.nil,b=>b
 |_,_,_,_,.cons h i,b=>.cons h<|Paired.app i b
theorem Paired.at_{Ν e:Type}{f:Ν->e->Prop}:∀{l:J Ν} {m:J e} {i:M} {a:Ν},ď f l m->l[i]?=B a->∃b,m[i]?=B b/\f a b
 |_,_,_,_,.nil,d=>by simp at d
 |_,_,0,_,.cons h _,d=>by simp at d;subst d;exact⟨_,D,h⟩
 |_,_,i+1,_,.cons _ j,d=>by obtain⟨b,k,n⟩:=Paired.at_ j (by simpa using d);exact⟨b,by simpa using k,n⟩
theorem Paired.at2{Ν e:Type}{f:Ν->e->Prop}:∀{l:J Ν} {m:J e} {i:M} {b:e},ď f l m->m[i]?=B b->∃a,l[i]?=B a/\f a b
 |_,_,_,_,.nil,d=>by simp at d
 |_,_,0,_,.cons h _,d=>by simp at d;subst d;exact⟨_,D,h⟩
 |_,_,i+1,_,.cons _ j,d=>by obtain⟨b,k,n⟩:=Paired.at2 j (by simpa using d);exact⟨b,by simpa using k,n⟩
theorem Paired.QL{Ν e:Type}{f:Ν->e->Prop}:∀{l:J Ν} {m:J e} {b:e},ď f l (m++[b])->∃d a,l=d++[a]/\ď f d m/\f a b
 |_,[],b,h=>by
  cases h with
  |cons i j=>cases j;exact⟨[],_,D,.nil,i⟩
 |_,p::m,b,h=>by
  cases h with
  |cons i j=>
   obtain⟨d,a,k,n,o⟩:=Paired.QL j;exact⟨_::d,a,by rw[k];rfl,.cons i n,o⟩
theorem Gq.same(h:Gq K H a Ø)(e:av H R):Gq K R a Ø:=by obtain⟨b,d,f⟩:=h;exact⟨b,av.seq e d,Paired.cj (λ_ _ i=>i.same e) f⟩
def WH:aB ["row","mark","rows","byte"] ["row","mark"]<|ay<|bU 28:=by decide+kernel
inductive SS(K:Ζ)(vs:J V)(H:Hp)(Q:VK)(b:XK):Prop
 |mk(G a t m:_)(_:vs=[.ref a,bV m])(_:av G H)(_:Tx K G a t)(_:L t<=30000)(_:∀Κ R r,Ex G H Κ R->Gq K Κ r (ώ m t)->Q (.ref r) R)
structure S7(H R:Hp)(r:O)(as:J O)(Ø:J ê):Prop where
 same:av H R
 Y:R r=B (.Y<|as.map V.ref)
 rows:ď (λa t=>R a=B (.Y<|tV t)) as Ø
 nd:as.Nodup
 out:∀b∈r::as,H b=g
 rn:r∉as
def k8(Q:Wk K η A):Kn P w K η Ξ c9 1 "split_at" ["row","mark"]<|SS K:=by
 refine Q.kn 14 WH λG al am an ap R=>?_;obtain⟨S,a,j,k,rfl,x,H,ar,T⟩:=R;refine⟨_,ah (aH 2 WH<|aI<|aa (aI aj) aj)<|ah (cS ğ D (bu<|pv 0) (bC 3 WH)<|ai<|aJ (aF ee (pv 3) (pv 1)<|aK _) (ai<|aT<|En ϋ jD oj xq (pv 2)<|aa (aI aj) aj)<|ai<|aT<|En ϋ jD oj xq (aY aM (pv 2) (uc ou az) λ_ _=>D)<|aa (pv 3) aj)<|ai<|aA<|pv 2,?_⟩
 refine⟨Ò _,λW I=>⟨by simp[sizeLine],λe r=>?_⟩⟩;have y:=ao (af (o:=.Y [])) r;have aw:G e=g:=by rw[au y.symm]at r;exact r
 refine⟨a,D,⟨tV j,?_⟩,c_ (K:=K) (a:=a) (N:=tV j) (λl u p=>∃z m,u=[B<|.ref a,B<|bV k,B<|.ref e,z]/\S7 G p e m (ώ k<|j.take l)) ?_ ?_ ?_ ?_⟩
 .exact(H.same x).same<|(aq I).trans<|aq r
 .refine⟨g,[W],D,(aq I).trans<|aq r,af,.cons ?_ .nil,bh,?_,by simpa using y.symm⟩
  .rw[au y];exact af
  simp_all
 .rintro l u p _ ⟨_,_,_,b⟩;exact(H.same x).same b.same
 .rintro l ax u p X ⟨z,m,rfl,b⟩;obtain⟨v,Y,rfl⟩:=PY X;have J:j.take (l+1)=j.take l++[v]:=by rw[Ĝ,Y];rfl
  have ay:(L<|ώ k<|j.take l)<=30001:=Ć (kI k _) (by rw[ŀ];lia);have Z:=Paired.len b.rows;exists D;rw[D9];refine gC (λC=>?_) λC=>?_
  .obtain rfl:v=k:=eq_of_beq C;refine⟨.inl ⟨D,_,aN.of b.Y⟩,Ò _,λf q=>?_⟩;have s:∀v∈e::m,v≠f:=λi d=>by
    rintro rfl;rcases ç.mp d with h|d
    .rw[h,b.Y]at q;cases q
    .obtain⟨aB,ab⟩:=ŵ d;obtain⟨_,_,aC⟩:=Paired.at_ b.rows ab;lia
   have ad:=av.free b.same q;refine⟨e,m.map V.ref,.ref f,D,D,?_,?_,?_⟩
   .rw[au<|s e Ö];exact b.Y
   .rw[Ε,Z,Î];lia
   .refine⟨_,m++[f],D,?_,?_,?_,?_,?_,?_⟩
    .exactλi o h=>by rw[au<|ao h<|b.out e Ö,au<|ao h ad];exact b.same i o h
    .rw[af,Ý];rfl
    .rw[J,rz];refine Paired.app (Paired.Ug b.rows λi t d f=>?_) (.cons ?_ .nil)
     .rw[au λE=>b.rn (by rw[<-E];exact d),au<|s i<|Ç _ d];exact f
     .rw[au (s e Ö).symm];exact af
    .exact L8 b.nd λn=>s f (Ç _ n) D
    .intro i d;rcases ç.mp d with h|d
     .lia
     .rcases î.mp d with d|d
      .exact b.out i<|Ç _ d
      .rwa [đ.mp d]
    .intro n;rcases î.mp n with n|n
     .exact b.rn n
     .exact s e Ö<|đ.mp n
  .obtain⟨M,t,F⟩:∃M t,ώ k (j.take l)=M++[t]:=⟨_,_,(gz<|mP k _).symm⟩;have O:=b.rows;rw[F]at O;obtain⟨ae,f,rfl,ag,q⟩:=Paired.QL O;have ak:f≠e:=λE=>b.rn (by rw[<-E];simp);refine⟨e,_,_,V.ref f,D,D,aN.of b.Y,?_,nv ⟨D,_,aN.of q⟩,f,_,_,D,D,q,?_,?_⟩
   .rw[Ý];exact ry _ _
   .have:=fh k (j.take l) t (by rw[F];simp);rw[bP,Î];rw[ŀ]at this;lia
   .refine⟨_,ae++[f],D,?_,?_,?_,b.nd,b.out,b.rn⟩
    .exactλi o h=>by rw[au<|ao h<|b.out f bh];exact b.same i o h
    .rw[au ak.symm];exact b.Y
    .rw[J,qD<|ne_of_beq_false C,F,tW];refine Paired.app (Paired.Ug ag λi w d h=>?_) (.cons ?_ .nil)
     .rw[au]
      .exact h
      .rintro rfl;have:=(gP.mp b.nd).2.2;exact this _ d _ bh D
     simp[af,tV]
 .rintro u p ⟨z,m,rfl,b⟩;rw[bP,č]at b;refine T (BO S p<|e::m) p e ((Ex.heap x b.same).holds b.out) ⟨m,aN.of ?_,Paired.Ug b.rows λi t d h=>aN.of ?_⟩
  .rw[iT Ö];exact b.Y
  .rwa [iT<|Ç _ d]
inductive Qz(K:Ζ)(f:ê->ě)(vs:J V)(H:Hp)(Q:VK)(b:XK):Prop
 |mk(a t:_)(_:vs=[.ref a])(_:Tx K H a t)(_:L t<=30000)(_:∀R,av H R->Q (.bl<|f t) R)
def cK{n:M}(h:n<=30001):n<sizeLine:=by rw[Î];lia
def r9{Q:VK}(l:J Ν)(v:Ν->V)(f:Ν->ě)(A:aN K ο a<|l.map v)(F:L l<=sizeLine)
  (C:∀x∈l,∀Θ (r:VK),av ο Θ->(∀h,av Θ h->r (.bl<|f x) h)->Â ((cE σ [i]).set i<|B<|v x) Θ r)
  (k:∀R,av ο R->Q (.bl<|l.all f) R):
  ∀d,ο d=g->∃o:M->M->Hp->Prop,(∃m,o 0 m<|T ο d<|.Y [])/\∀n m H,o n m H->
   ((xW K a).stop n H/\T4 K [V.ref d] H Q)\/((xW K a).go n H/\∃p:Hp->Prop,(∀R,p R->∃s,s<m/\o (n+1) s R)/\∀x R,(xW K a).HW n H x R->c8 i x (cE σ [i]) R λq Θ=>cE q [i]=cE σ [i]/\CN q Θ λb h=> if b then Â q h λy t=>∃acc,t d=B (.Y acc)/\L acc<sizeLine/\p (T t d<|.Y<|acc++[y]) else p h):=by
 intro d u;refine zH (λn H=>av ο H/\H d=B (.Y<|((l.take n).map f).map V.bl)) ⟨aq u,af⟩ (λn H _ e=>av.seq e.1 A) (λn x H w e=>?_) λH e=>?_
 .rw[Ë]at w;obtain⟨y,z,rfl⟩:=Ü.mp w;exists HU σ i _;unfold CN;dsimp only;rw[à D];refine C y (υ z) H _ e.1 λh s3=>⟨_,s3 _ _ e.2,?_,λb E j=>?_,?_⟩
  .grind
  .rw[au<|ao j u];exact s3 _ _<|e.1 b E j
  .rw[af];rw[(by rw[Ĝ,z];rfl:l.take (n+1)=l.take n++[y]),Ý,Ý];rfl
 .have j:=e.2;rw[Ε,č]at j;exists d,l.map f,D,aN.of j;have G:=k H e.1
  rwa [j5]
def Xp:aB ["row","byte"] ["row"]<|ay<|bU 22:=by decide+kernel
def Lh(b:Wk K η A):Kn P w K η Ξ c9 3 "is_word" ["row"]<|Qz K Sj:=by
 refine b.kn 8 Xp λi s t u j k=>?_;obtain⟨f,d,rfl,e,v,h⟩:=k;refine⟨_,ai<|aA<|An (l9 kg (aQ b.md.a_<|pv 0) az<|aK _)<|p9<|lQ D b.md.qF<|gV D Xp.nd (bu<|pv 0) (bL (own:=[("byte",1)])<|by kernel_rfl) (λ_ _ _ _ _=>bC 1 Xp) (λ_ _ _ _ _=>cY) λ_ _ _ _ _=>aR (zf b) j D aG<|aa (pv 1) aj,?_⟩
 refine⟨f,_,D,.inl e,Am (λa=>?_) λa=>?_⟩
 .refine⟨f,D,⟨_,e⟩,r9 d bV mH e (š<|cK aL) (λl _ m x s2 n=>⟨l,D,n m<|av.refl _⟩) λo p=>?_⟩;have a:=iy a;rw[bP]at a;have:=h o p;cases d with
  |nil=>simp at a
  |cons q r=>exact this
 .have a:=Vh a;rw[bP]at a;have:=h i<|av.refl _;cases d with
  |nil=>exact this
  |cons q r=>simp at a
def Wy:aB ["row","word"] ["row"]<|ay<|bU 23:=by decide+kernel
def AQ(f:Wk K η A):Kn P w K η Ξ c9 4 "is_name" ["row"]<|Qz K cP:=by
 have h:=f.md;refine f.kn 9 Wy λo T W X p E=>?_;obtain⟨a,d,rfl,q,F,r⟩:=E;refine⟨_,ah (aJ (aF kg (aQ h.a_<|pv 0) (aW h.Ai)<|aK _) (ai<|aA lg) aD)<|ai<|aA<|lQ D h.qF<|gV D Wy.nd (bu<|aR (k8 f) p D aG<|aa (pv 0)<|aa (aW h.sN) aj) (bL (own:=[("word",1)])<|by kernel_rfl) (λ_ _ _ _ _=>bC 1 Wy) (λ_ _ _ _ _=>cY) λ_ _ _ _ _=>aR (Lh f) p D aG<|aa (pv 1) aj,?_⟩
 refine⟨a,_,D,.inl q,nU (λl=>?_) λl=>?_⟩
 .have:=r o<|av.refl _;rw[bP]at l;unfold cP at this;rw[Ņ aL,Ϫ]at this;exact this
 .rw[bP]at l;refine⟨o,a,d,32,D,av.refl _,q,F,λG Y H j I=>?_⟩;refine bx λM m=>?_;obtain⟨s,t,n⟩:=I;apply m;have Z:=Paired.len n;have ab:=kI 32 d;refine⟨H,D,⟨_,av.seq j.sub t⟩,?_⟩;refine bx λM m=>?_;obtain⟨e,u,k⟩:∃e:J<|O×ê,s=e.map (·.1)/\ώ 32 d=e.map (·.2):=⟨s.zip<|ώ 32 d,by rw[zB fX],by rw[zC fX]⟩;apply m;have N:∀b∈e,Tx K G b.1 b.2:=by rw[u,k]at n;intro b v;obtain⟨Q,x⟩:=ŵ v;obtain⟨ad,y,R⟩:=Paired.at_ n (i:=Q) (a:=b.1) (by rw[Ë,x];rfl);rw[Ë,x]at y;cases y;exact R
  have v:L e=(L<|ώ 32 d):=by rw[k,Ε]
  refine r9 e (λb=>V.ref b.1) (λb=>Sj b.2) ?_ ?_ (λb z C ae s2 S=>⟨b.1,b.2,D,((N b z).same j.sub).same s2,?_,S⟩) λC s2=>?_
  .have:=av.seq j.sub t;rw[u,Ħ]at this;exact this
  .exact š<|cK aL
  .have:=fh 32 d b.2<|k▸ō z;lia
  .have:=r C<|j.same.trans s2;unfold cP at this;rw[ő aL,Ϟ,k,j5]at this;exact this
def DM{lo Á i:Z}{Q:VK}(h:Q (.bl<|ã (lo<=i)&&ã (i<=Á)) H):
 if ã (lo<=i) then tC (V.int Á) σ H (λa b=>E8 (λi j=>V.bl<|ã<|i<=j) (V.int i) a b Q) else Q (.bl Τ) H:=r6 h
def V6:aB ["row","byte"] ["row"]<|ay<|bU 24:=by decide+kernel
def Kd(b:Wk K η A):Kn P w K η Ξ c9 3 "is_path" ["row"]<|Qz K wC:=by
 refine b.kn 10 V6 λi r s t j k=>?_;obtain⟨e,a,rfl,d,u,f⟩:=k;have l:wC a=((ã ((1:Z)<=L a)&&ã ((L a:Z)<=40))&&a.all p6):=by
  unfold wC;have m:(!a.isEmpty)=ã ((1:Z)<=L a):=by
   cases a with
   |nil=>rfl
   |cons v x=>grind
  have n:ã (L a<=40)=ã ((L a:Z)<=40):=by lia
  rw[m,n,UG];rfl
 refine⟨_,ai<|aA<|An (r4 jG jG az (aQ b.md.a_<|pv 0)<|aW b.md.BG)<|p9<|lQ D b.md.qF<|gV D V6.nd (bu<|pv 0) (bL (own:=[("byte",1)])<|by kernel_rfl) (λ_ _ _ _ _=>bC 1 V6) (λ_ _ _ _ _=>cY) λ_ _ _ _ _=>aR (zg b) j D aG<|aa (pv 1) aj,?_⟩
 rw[l]at f;refine⟨e,_,D,.inl d,_,D,DM ?_⟩;rw[bP];refine Am (λh=>?_) λh=>?_
 .refine⟨e,D,⟨_,d⟩,r9 a bV p6 d (š<|cK<|by omega) (λo _ p y s2 q=>⟨o,D,q p<|av.refl _⟩) λz C=>?_⟩;simp_all[Ϟ]
 .have:=f i<|av.refl _;rw[h,Ϫ]at this;exact this
def Wg:aB ["row","byte"] ["row"]<|ay<|bU 25:=by decide+kernel
def g_(d:Wk K η A):Kn P w K η Ξ c9 2 "is_short_name" ["row"]<|Qz K ħ:=by
 refine d.kn 11 Wg λn y z C i s=>?_;obtain⟨k,l,rfl,f,E,h⟩:=s;refine⟨_,ah (aJ (cG<|lB jG jG az (aQ d.md.a_<|pv 0)<|aW d.md.rL) (ai<|aA lg) aD)<|ai<|aA<|An (aR (f6 d) i D aG<|aa (aY aM (pv 0) az λ_ _=>D) aj)<|p9<|lQ D d.md.qF<|gV D Wg.nd (bu<|pv 0) (bL (own:=[("byte",1)])<|by kernel_rfl) (λ_ _ _ _ _=>bC 1 Wg) (λ_ _ _ _ _=>cY) λ_ _ _ _ _=>Bw (aR (f6 d) i D aG<|aa (pv 1) aj)<|p9<|aR (r8 d) i D aG<|aa (pv 1) aj,?_⟩
 refine⟨k,_,D,.inl f,_,D,DM ?_⟩;rw[bP];refine gC (λo=>?_) λo=>?_
 .have:=h n<|av.refl _;have m:ħ l=Τ:=by
   unfold ħ;cases l with
   |nil=>rfl
   |cons a e=>
    grind
  rw[m]at this;exact this
 .cases l with
  |nil=>cases o
  |cons a e=>
   have t:(L<|a::e)<=12:=by lia
   have m:ħ (a::e)=(ϻ a&&(a::e).all λb=>ϻ b||eu b):=by unfold ħ;rw[ő t,Ϟ];rfl
   rw[m]at h;refine⟨k,_,0,bV a,D,D,f,bN (j:=0) D,a,D,Am (λp=>?_) λp=>?_⟩
   .refine⟨k,D,⟨_,f⟩,r9 (a::e) bV (λb=>ϻ b||eu b) f (š<|cK aL) (λb _ q F s2 r=>⟨b,D,D0 (λu=>?_) λu=>⟨b,D,?_⟩⟩) λv x=>?_⟩
    .have:=r q<|av.refl _;lia
    .have:=r q<|av.refl _;lia
    .have:=h v x;rw[p,Ϟ]at this;exact this
   .have:=h n<|av.refl _;simp_all
noncomputable def xJ (x:S):ê:=(sg x).map zD
theorem Fc{x:S}(h:∀c∈sg x,c<256):(sg x).map (λc=>V.int (c:M))=tV (xJ x):=by unfold xJ tV;rw[Ħ];refine ϰ λc a=>?_;show V.int c=V.int ((zD c).toNat:Z);rw[UInt8.toNat_ofNat_of_lt'<|by simpa[UInt8.size] using h c a]
theorem PB(x:S):(L<|xJ x)=x.length:=by rw[PV];exact Ε _
theorem Qg(t:ê)(c:ϔ):ã (t.take 1=[c])=(t.head?==B c):=by
 cases t with
 |nil=>rfl
 |cons a b=>
  grind
theorem De(t:ê)(c:ϔ):ã (t.drop (L t -1)=[c])=(t.getLast?==B c):=by
 cases f:t.getLast? with
 |none=>
  simp_all
 |some a=>
  obtain⟨e,rfl⟩:=List.getLast?_eq_some_iff.mp f;have h:(e++[a]).drop ((L<|e++[a]) -1)=[a]:=by rw[Ω,Ϝ,Nat.add_sub_cancel,List.drop_left]
  rw[h];by_cases b:a=c
  .subst b;simp
  .rw[Ņ λd=>b<|by simpa using d];exact(Ş.mpr λd=>b<|by simpa using d).symm
def Vr:aB ["row","byte"] ["row"]<|ay<|bU 27:=by decide+kernel
def BZ(i:Wk K η A):Kn P w K η Ξ c9 3 "is_argument" ["row"]<|Qz K ű:=by
 have d:=i.md;refine i.kn 13 Vr λj J M N k u=>?_;obtain⟨h,a,rfl,e,O,b⟩:=u;have v:ű a=(ã (L a<=40)&&(a.all sO&&(!(a.head?==B 32)&& !(a.getLast?==B 32)))):=rfl;refine⟨_,ah (aJ (aF kg (aQ d.a_<|pv 0) (aW d.uF)<|aK _) (ai<|aA lg) aD)<|ah (aJ (PW.pt<|lz (aF (ow k.units) (bF bZ (pv 0) dz<|bD az) (aI<|aa (aW d.sN) aj)<|aK _)<|iu<|aF (ow k.units) (bF bZ (pv 0) (bD<|uc ou az) dz) (aI<|aa (aW d.sN) aj)<|aK _) (ai<|aA lg) aD)<|ai<|aA<|lQ D d.qF<|gV D Vr.nd (bu<|pv 0) (bL (own:=[("byte",1)])<|by kernel_rfl) (λ_ _ _ _ _=>bC 1 Vr) (λ_ _ _ _ _=>cY) λ_ _ _ _ _=>aR (tE i) k D aG<|aa (pv 1) aj,?_⟩
 rw[v]at b;refine⟨h,_,D,.inl e,nU (λl=>?_) λl=>?_⟩
 .rw[bP]at l;have:=b j<|av.refl _;rw[Ņ aL,Ϫ]at this;exact this
 .rw[bP]at l;rw[ő aL,Ϟ]at b;refine⟨h,_,D,e,λn x=>⟨by simp[sizeLine],λp q=>⟨n,p,a.take 1,[32],D,D,?_,aN.of af,?_⟩⟩⟩
  .have f:=uK (tV a) 1;rw[n7]at f;refine aN.of ?_;rw[au<|ao af q];exact af.trans<|Ğ (λm=>B<|HO.Y m) f
  .have s2:av j<|T (T j n<|.Y<|br (tV a) g<|B 1) p<|.Y [V.int 32]:=(aq x).trans<|aq q;rw[Qg];refine gC (λr=>?_) λr=>?_
   .refine bS ?_;have:=b _ s2;rw[r,Vk,Ϫ,ϭ]at this;exact this
   .refine⟨h,_,D,e.same s2,λy z=>⟨by simp[sizeLine],λC s=>⟨y,C,a.drop<|L a -1,[32],D,D,?_,aN.of af,?_⟩⟩⟩
    .have f:=QH<|tV a;rw[kW,bP]at f;refine aN.of ?_;rw[au<|ao af s];exact af.trans<|Ğ (λm=>B<|HO.Y m) f
    .have s3:=s2.trans<|(aq z).trans<|aq (o:=.Y [V.int 32]) s;rw[De];refine gC (λt=>?_) λt=>?_
     .have:=b _ s3;rw[t,Vk,ϭ,ϭ]at this;exact this
     .refine⟨h,D,⟨_,e.same s3⟩,r9 a bV sO (e.same s3) (š<|cK aL) (λE _ F Q s2 G=>⟨E,D,G F<|av.refl _⟩) λH I=>?_⟩;have:=b H<|s3.trans I;lia
def aa7:aB ["row","word"] ["row","word"]<|ay<|bU 15:=by decide+kernel
inductive Ia(K:Ζ)(vs:J V)(H:Hp)(Q:VK)(b:XK):Prop
 |mk(a t x:_)(_:vs=[.ref a,.str x])(_:Tx K H a t)(_:L t<=30000)(_:x.length<=1000)(_:(∀c∈sg x,c<256))(_:∀R,av H R->Q (.bl<|(xJ x).isPrefixOf t) R)
theorem GX(l t:ê):l.isPrefixOf t=ã (t.take (L l)=l):=by
 by_cases a:l.isPrefixOf t=U
 .obtain⟨b,rfl⟩:=mJ a;simp
 grind
def oW(b:Wk K η A):Kn P w K η Ξ c9 2 "begins" ["row","word"]<|Ia K:=by
 refine b.kn 1 aa7 λu v x y d j=>?_;obtain⟨k,e,a,rfl,l,z,m,n,o⟩:=j;exists _,ai<|aA<|l9 (ow d.units) (bF bZ (pv 0) dz<|bD<|jN Fo D b.md.a_ tn<|aa (pv 1) aj) (aR (vj b) d D aG<|aa (pv 1) aj)<|aK _;refine⟨a,D,by rw[Î];lia,k,_,D,l,λp q=>⟨a,D,m,λr s C f h=>?_⟩⟩;rw[Fc n]at h;refine⟨p,r,e.take a.length,xJ a,D,D,?_,aN.of h,?_⟩
 .have i:=uK (tV e) a.length;rw[n7]at i;exact aN.of<|f _ _<|af.trans<|Ğ (λt=>B<|HO.Y t) i
 .have:=o s<|(aq q).trans f;rw[GX,PB]at this;exact this
section
variable{o:Ž}{ŉ:TE}{Ď:kX}
def ek(b:PE X o ŉ)(d:PE X e Â)(f:eo o "append" X.env (Ŧ o X.env)=Ŧ o X.env:=by rfl)
  (h:((ϴ Ď<|ë [e] X.env).all (λx=> !x.1)&&(jT Ď<|er [] X.env).all (λx=>x.1.isSome) &&ã ((L ([e]:J Ž))+(L ([]:J nq))+(if([]:J nq).isEmpty then 0 else 1)<30))=U:=by rfl)
  (i:(ĝ.endLine==Ď.line)=U:=by rfl) (a:ë [e] X.env=(Τ,Ŧ e X.env)::ë [] X.env:=by rfl):
  PE X (.Call (.Attribute o "append" ĝ) [e] [] Ď) (SR K "list" vU ŉ<|bg Â cB):=
 En ϋ jD oj xq b (aa d aj a) f h i a
def P6(b:PE X o ŉ)(d:PE X e Â)(f:eo o "index" X.env (Ŧ o X.env)=Ŧ o X.env:=by rfl)
  (h:((ϴ Ď<|ë [e] X.env).all (λx=> !x.1)&&(jT Ď<|er [] X.env).all (λx=>x.1.isSome) &&ã ((L ([e]:J Ž))+(L ([]:J nq))+(if([]:J nq).isEmpty then 0 else 1)<30))=U:=by rfl)
  (i:(ĝ.endLine==Ď.line)=U:=by rfl) (a:ë [e] X.env=(Τ,Ŧ e X.env)::ë [] X.env:=by rfl):
  PE X (.Call (.Attribute o "index" ĝ) [e] [] Ď) (SR K "list" (K0 K) ŉ<|bg Â cB):=
 En ϋ je Dy QY b (aa d aj a) f h i a
end
theorem Rw(a b:ϔ):Ju (bV a) (bV b)=(a==b):=by
 show((a.toNat:Z)==(b.toNat:Z))=_;by_cases d:a=b
 .subst d;simp
 .rw[Ş.mpr d];exact Ş.mpr λe=>d<|Ab.mp aL
def Im{n r:ê}{c:ϔ}(f:n.contains c=Τ):(tV<|n++c::r)[L n]?=B (bV c)/\∀(m:M) (a:V),m<L n->(tV<|n++c::r)[m]?=B a->Ju a (bV c)=Τ:=by
 refine⟨HN fX,λm a b d=>?_⟩;obtain⟨h,e,rfl⟩:=PY d;rw[iG b]at e;rw[Rw]
 grind
theorem Be{Ν:Type}:∀(l:J<|É Ν) (r:J Ν) (y:Ν),iB l=B r->iB (l++[B y])=B (r++[y])
 |[],r,y,a=>by cases a;rfl
 |x::l,r,y,a=>by
  cases x with
  |none=>cases a
  |some b=>
   cases d:iB l with
   |none=>rw[show iB (B b::l)=(iB l).map λl=>b::l from D,d]at a;cases a
   |some e=>
    rw[show iB (B b::l)=(iB l).map λl=>b::l from D,d]at a;cases a;show((iB<|l++[B y]).map λl=>b::l)=_;rw[Be l e y d];rfl
theorem BR{Ν:Type}:∀{l:J<|É Ν} {i:M},l[i]?=B g->iB l=g
 |[],i,a=>by simp at a
 |x::l,0,a=>by simp at a;subst a;rfl
 |x::l,i+1,a=>by
  cases x with
  |none=>rfl
  |some b=>
   show((iB l).map λl=>b::l)=g;rw[BR (i:=i)<|by simpa using a];rfl
theorem uy(t:ê):dw t=if t.take 1=[32] then B (t.drop 1) else g:=by
 cases t with
 |nil=>rfl
 |cons b e=>
  by_cases a:b=32
  .subst a;rfl
  .rw[Ó λd=>a<|by simpa using d];unfold dw;simp_all
def PZ:aB ["row","at","rows","listed","follower"] ["row"]<|ay<|bU 29:=by decide+kernel
inductive Kf(K:Ζ)(vs:J V)(H:Hp)(Q:VK)(b:XK):Prop
 |mk(G a t:_)(_:vs=[.ref a])(_:av G H)(_:Tx K G a t)(_:L t<=30000)(_:(dW t=g->∀R,av H R->Q .b_ R))(_:∀n l,dW t=B (n,l)->∀Κ R p q r,Ex G H Κ R->gb K Κ p [.ref q,.ref r]->Tx K Κ q n->Gq K Κ r l->Q (.ref p) R)
structure S4(K:Ζ)(G H Κ R:Hp)(x:O)(as:J O)(Ø:J ê):Prop where
 ex:Ex G H Κ R
 lo:Lo Κ R x<|.Y<|as.map V.ref
 rows:ď (Tx K Κ) as Ø
def jJ(an:Wk K η A):Kn P w K η Ξ c9 2 "split_name_and_list" ["row"]<|Kf K:=by
 have H:=an.md;refine an.kn 15 PZ λap bX bY b0 a4 bt=>?_;obtain⟨a5,a,d,rfl,t,y,b6,a6,a7⟩:=bt;refine⟨_,ah (aJ (aF pZ (aW H.Ey) (pv 0)<|by with_unfolding_all rfl) (ai<|aA<|mO<|aa (pv 0)<|aa (aI aj) aj) aD)<|ah (aJ (aF I1 (aY aM (pv 0) (uc ou az) λ_ _=>D) (aW H.Oz)<|aK _) (ai<|aA f9) aD)<|ah (aH 1 PZ<|P6 (pv 0)<|aW H.Ey)<|ah (aH 2 PZ<|aR (k8 an) a4 D aG<|aa (bF bZ (pv 0) (bD<|cQ iw (pv 1) az)<|bD<|uc ou az)<|aa (aW H.SK) aj)<|ah (aH 3 PZ<|bF bZ (pv 2) dz<|bD az)<|ah (cS ğ D (bu<|bF bZ (pv 2) (bD az) dz) (bC 4 PZ)<|ah (aJ (aF (VE a4.units) (bF bZ (pv 4) dz<|bD az) (aI<|aa (aW H.sN) aj)<|aK _) (ai<|aA f9) aD)<|ai<|aT<|ek (pv 3)<|bF bZ (pv 4) (bD az) dz)<|ai<|aA<|mO<|aa (bF bZ (pv 0) dz<|bD<|pv 1)<|aa (pv 3) aj,?_⟩
 exists a,tV d,D,.inl<|y.same t,D,kC _;have bv:R3 (V.int 40) (tV d)=d.contains 40:=sE 40 d;show if(!R3 (V.int 40) (tV d)) then _ else _
 rw[bv];refine gC (λbw=>?_) λbw=>?_
 .
  refine⟨Ò _,λh bz=>⟨by show 2<=sizeLine;decide,λar S=>?_⟩⟩;have W:=((Ex.refl t).made (o:=.Y []) bz).made (o:=.bO [.ref a,.ref h]) S;refine a7 d [] (gT aL) _ _ ar a h W (gb.of af) (y.same W.le) ⟨[],aN.of ?_,.nil⟩;rw[au<|ao af S];exact af
 .refine bx λI n=>?_;obtain⟨k,h,E,a8,b7⟩:=eL (aL:d.contains 40=U);have aw:dW d=(d7 h).map λl=>(k,l):=E▸f7 a8;obtain⟨a9,f,a_⟩:∃a9 f,d=a9++[f]:=⟨_,_,(gz (by rw[E];simp)).symm⟩;apply n;have J:d.getLast?=B f:=by rw[a_];simp
  refine⟨a,tV d,_,bV f,D,D,y.same t,?_,D,?_⟩
  .rw[a_];unfold tV;rw[Ý];exact ry _ _
  show if(!ã (bV f=bV 41)) then _ else _
  rw[D9];refine gC (λax=>?_) λax=>?_
  .
   refine a6 ?_ ap (av.refl _);have:d7 h=g:=by
    unfold d7;rw[Ó];intro O;have:d.getLast?=B 41:=by
     rw[E,AS bh];cases h with
     |nil=>cases O
     |cons X bA=>rwa [GD]
    rw[J]at this;exact(by simpa using ax:f≠41)<|ĥ this
   rw[aw,this];rfl
  .have bB:f=41:=by simpa using ax
   subst bB;have bE:h.getLast?=B 41:=by
    rw[E,AS bh]at J;cases h with
    |nil=>cases J
    |cons X bA=>rw[GD]at J;exact J
   refine bx λI n=>?_;obtain⟨z,q,a'⟩:∃z q,ώ 44 h.dropLast=z::q:=by
    cases i:ώ 44 h.dropLast with
    |nil=>exact absurd i<|mP 44 _
    |cons X Y=>exact⟨X,Y,D⟩
   have ba:d7 h=(iB<|q.map dw).map λl=>z::l:=by unfold d7;rw[à bE,a']
   obtain⟨f1,f2⟩:=Im a8;apply n;rw[<-E]at f1 f2;exists .inl ⟨D,_,y.same t⟩,a,tV d,V.int 40,L k,bV 40,D,D,y.same t,D,kC _,f1,D,f2;refine⟨a,tV d,D,y.same t,λar S=>?_⟩;have bG:br (tV d) (B<|(L k:Z)+1) (B<|-1)=tV h.dropLast:=by have i:=D6 (tV d)<|L k+1;rw[kW,yw]at i;simp_all
   have bb:=(Ex.refl t).made (o:=.Y<|br (tV d) (B<|(L k:Z)+1)<|B<|-1) S;refine⟨_,ar,h.dropLast,44,D,bb.sub,aN.of<|af.trans<|Ğ (λf=>B<|HO.Y f) bG,?_,λr ay aB W bc=>?_⟩
   .grind
   rw[a']at bc;refine bx λI n=>?_;obtain⟨bH,bd,be⟩:=bc;obtain⟨b,N,rfl⟩:∃b N,bH=b::N:=by
    cases be with
    |cons _ _=>exact⟨_,_,D⟩
   obtain⟨bI,bf⟩:Tx K r b z/\ď (Tx K r) N q:=by
    cases be with
    |cons Q bJ=>exact⟨Q,bJ⟩
   apply n;have ab:=bb.trans W;have b8:L q<=30000:=by
    have:=kI 44 h.dropLast
    grind
   refine⟨aB,_,D,av.seq ab.sub bd,λj aC=>?_⟩;have bK:br ((b::N).map V.ref) g (B 1)=[V.ref b]:=(uK _ 1).trans D;have aE:=av.free ab.same aC;have lo1:Lo r (T ay j<|.Y<|br ((b::N).map V.ref) g<|B 1) j<|.Y [V.ref b]:=by rw[bK];exact Lo.new ab.sub aC
   have ad:Ex a5 ap r<|T ay j<|.Y<|br ((b::N).map V.ref) g<|B 1:=ab.more<|aq aC;generalize T ay j (.Y<|br ((b::N).map V.ref) g<|B 1)=bg at lo1 ad;refine⟨aB,_,D,av.seq ad.sub bd,λs aO=>?_⟩;have bi:=ao lo1.at_ aO;have ae:=ad.made (o:=.Y<|br ((b::N).map V.ref) (B 1) g) aO;have aP:Lo (T r s<|.Y<|br ((b::N).map V.ref) (B 1) g) (T bg s<|.Y<|br ((b::N).map V.ref) (B 1) g) j<|.Y [V.ref b]:=(lo1.other bi).apart bi;have aQ:av r<|T r s<|.Y<|br ((b::N).map V.ref) (B 1) g:=aq<|av.free ad.sub aO;have aS:aN K (T r s<|.Y<|br ((b::N).map V.ref) (B 1) g) s<|N.map V.ref:=aN.of<|af.trans<|Ğ (λf=>B<|HO.Y f)<|(o9 _ 1).trans D;generalize T bg s (.Y<|br ((b::N).map V.ref) (B 1) g)=b9 at ae aP;generalize T r s (.Y<|br ((b::N).map V.ref) (B 1) g)=bj at ae aP aQ aS;refine⟨s,D,⟨_,av.seq ae.sub aS⟩,c_ (K:=K) (a:=s) (N:=N.map V.ref) (λF ag C=>∃ak v p x,ag=[B<|.ref a,B<|.int (L k:M),B<|.ref aB,B<|.ref j,ak]/\S4 K a5 ap v C j (b::p) (z::x)/\ iB ((q.take F).map dw)=B x/\av bj v) ⟨g,bj,[],[],D,⟨ae,aP,.cons (bI.same aQ) .nil⟩,D,av.refl _⟩ ?_ ?_ ?_⟩
   .rintro F ag C _ ⟨ak,v,p,x,_,e,_,s4⟩;exact av.seq (s4.trans e.ex.sub) aS
   .refineλF X ag C bk aU=>bx λI n=>?_;obtain⟨ak,v,p,x,rfl,e,R,s4⟩:=aU;apply n;rw[Ë]at bk;refine bx λI n=>?_;obtain⟨Y,bL,rfl⟩:=Ü.mp bk;obtain⟨u,bl,bN⟩:=Paired.at_ bf bL;apply n;have aV:(q.map dw)[F]?=B (dw u):=by rw[Ë,bl];rfl
    have bm:=bN.same<|(aQ.trans s4).trans e.ex.sub;refine⟨Y,_,D,bm,λaX bO=>⟨bM,λQ bn=>⟨aX,Q,u.take 1,[32],D,D,?_,aN.of af,?_⟩⟩⟩
    .have i:=uK (tV u) 1;rw[n7]at i;refine aN.of ?_;rw[au<|ao af bn];exact af.trans<|Ğ (λf=>B<|HO.Y f) i
    have G:av C<|T (T C aX<|.Y<|br (tV u) g<|B 1) Q<|.Y [V.int 32]:=(aq bO).trans<|aq bn;generalize T (T C aX<|.Y<|br (tV u) g<|B 1) Q (.Y [V.int 32])=bP at G;refine gC (λaZ=>?_) λaZ=>?_
    .have:dw u=g:=by rw[uy,Ó<|by simpa using aZ]
     rw[this]at aV;refine a6 ?_ bP (e.ex.same.trans G);rw[aw,ba,BR aV];rfl
    .have:dw u=B (u.drop 1):=by rw[uy,à<|by simpa using aZ]
     rw[this]at aV;have al:=e.lo.same G;refine⟨.inl ⟨D,_,aN.of al.at_⟩,Y,_,D,bm.same G,λa0 a1=>?_⟩;have a2:=ao al.at_ a1;have bQ:=Paired.len e.rows;have bR:=w7 R;rw[Ε,ŀ]at bR;simp[Ñ]at bQ;refine⟨j,_,_,D,D,(al.other a2).at_,?_,?_⟩
     .rw[Ε,Ñ];exact cK aL
     .have bo:=(al.other (u:=.Y<|br (tV u) (B 1) g) a2).apart (u:=.Y<|br (tV u) (B 1) g) a2;have bp:v a0=g:=av.free (e.ex.sub.trans G) a1;refine⟨_,_,p++[a0],x++[u.drop 1],D,⟨((e.ex.more G).made (o:=.Y<|br (tV u) (B 1) g) a1).write bo aE,?_,?_⟩,?_,s4.trans<|aq bp⟩
      .have:=bo.put (u:=.Y<|(b::p).map V.ref++[V.ref a0]);rw[qt.symm,Ý];exact this
      .refine Paired.app (l:=b::p) (m:=z::x) (Paired.cj (λbS bT O=>O.same<|aq bp) e.rows)<|.cons (aN.of ?_) .nil;have i:=o9 (tV u) 1;rw[kW]at i;exact af.trans<|Ğ (λf=>B<|HO.Y f) i
      .have i:(q.take<|F+1).map dw=(q.take F).map dw++[B<|u.drop 1]:=by rw[Ĝ,bl,Ý];show _++[dw u]=_;rw[this]
       rw[i];exact Be _ _ _ R
   .refineλag C aU=>bx λI n=>?_;obtain⟨ak,v,p,x,rfl,e,R,s4⟩:=aU;apply n;rw[Ε,Paired.len bf,č]at R;refine⟨a,tV d,D,(y.same t).same e.ex.same,λam a3=>⟨by show 2<=sizeLine;decide,λbU bq=>?_⟩⟩;have bW:br (tV d) g (B (L k:Z))=tV k:=by have i:=uK (tV d)<|L k;rw[n7]at i;rw[i,E,List.take_left]
    have b_:=ao e.lo.at_ a3;have bs:=(e.ex.stay e.lo aE).made (o:=.Y<|br (tV d) g<|B (L k:Z)) a3;have g2:av (T v j<|.Y<|(b::p).map V.ref)<|T (T v j<|.Y<|(b::p).map V.ref) am<|.Y<|br (tV d) g<|B (L k:Z):=aq<|av.free (e.ex.stay e.lo aE).sub a3;have g3:=aq (o:=.bO [.ref am,.ref j])<|av.free bs.sub bq;refine a7 k (z::x) (by rw[aw,ba,R];rfl) _ _ bU am j (bs.made (o:=.bO [.ref am,.ref j]) bq) (gb.of af) (aN.of<|g3 _ _<|af.trans<|Ğ (λf=>B<|HO.Y f) bW) ⟨b::p,aN.of<|g3 _ _<|g2 _ _ af,Paired.cj (λbS bT O=>((O.same<|aq e.lo.out).same g2).same g3) e.rows⟩
def Cl.ty{x:S}{fs:J S}(c:Cl K η x C fs){b:J<|S×V}(e:H a=B (.aE C ξ b)):qp K H (.ref a)<|.ref C:=.aE e c.cl c.ha c.hn c.htk c.hm
structure Gn(P:Ŝ)(w:ś)(K:Ζ)(η:S->É z)(Ξ:ό)(k:M)(x:S)(C:O)(θ:J S)(Ã:Sp):Prop where
 ex:∃f Ä,Mk K C f/\lZ P w K η Ξ c9 k f Ä θ Ã/\η x=B (.ref C)/\jl K Ä θ []
section
variable{x c m:S}{k:M}
def Wk.Ms(e:Wk K η A)(i j:M)(χ:aB Δ θ<|ay st)(h:∀vs H Q E,Ã vs H Q E->L vs=L θ)(l:∀{f:O} {a:z} {A:ź} {outer:J sG} {s:Í} (H:Hp) (vs:J V) (Q:VK) (E:XK),c6 k (A.deeper<|gK q (ay st) s.heap.objs.size f a)->Ã vs H Q E-> ∃t,zq (o8 c9 P w K η Ξ Δ q (ay st) f a A outer s H E).SI (eY st) t/\t {nx:=λ_ R=>Q .b_ R,rt:=Q} (start Δ vs) H)
  (m:(Oc A)[i]?=B (c,C):=by rfl) (n:wU[j]?=B (c,("__init__":S),q,st):=by rfl) (b:eV "__init__" q st θ:=by first|exact b1 λ_ _ _ _ _ _ _=>rfl|exact b2 λ_ _ _ _ _ _ _ _=>rfl|exact b3 λ_ _ _ _ _ _ _ _ _=>rfl|exact b4 λ_ _ _ _ _ _ _ _ _ _=>rfl|exact b5 λ_ _ _ _ _ _ _ _ _ _ _=>rfl):Gn P w K η Ξ (k+1) c C θ Ã:=by
 obtain⟨f,o,d,p,r⟩:=e.ini _ _ _ _ _ (υ m) (υ n) b;exact⟨f,o,p,d.fn.ok χ h λ_ _ _ _=>l,r,d.bd⟩
end
structure pR(P:Ŝ)(w:ś)(K:Ζ)(η:S->É z)(Ξ:ό)(CX:E5)(k:M)(C:O)(m:S)(θ:J S)(Ã:Sp):Prop where
 ex:∃f Ä,GR K C m f/\lZ P w K η Ξ CX k f Ä θ Ã/\jl K Ä θ []
inductive YY(C:O)(ς:J V->É (J<|S×V))(Q:VK)(vs:J V)(ο:Hp):Prop
 |mk(fs:_)(_:ς vs=B fs)(_:∀x ξ,ο x=g->ο ξ=g->ξ≠x->Q (.ref x) (T (T ο ξ<|.own x) x<|.aE C ξ fs))
def QA(C:O)(ς:J V->É (J<|S×V))(t:TA):TE:=λσ H Q=>t σ H λvs ο=>YY C ς Q vs ο
inductive gx(C:O)(ς:J V->É (J<|S×V))(vs:J V)(H:Hp)(Q:VK)(a:XK):Prop
 |mk(p ξ Μ fs:_)(_:vs=.ref p::Μ)(_:ς Μ=B fs)(_:H p=B (.aE C ξ []))(_:Q .b_<|T H p<|.aE C ξ fs)
section
variable{CX:E5}{k:M}{x m:S}{E:XK}{p pos:kX}{o:Ž}{Α:J Ž}{t:TA}{È:TE}
def gR(a:Gn X.prog X.w K X.mg X.base k x C θ<|gx C ς)(f:c6 j X.A)(h:Gl X x)(i:PA X (e::Α) t)(hk:k+1<=j:=by decide)(l:(x==("__debug__":S))=Τ:=by decide)
  (m:ë (e::Α) X.env=(Τ,Ŧ e X.env)::ë Α X.env:=by rfl) (n:(ϴ pos<|ë Α X.env).any (·.1)=Τ:=by rfl):PE X (.Call (.Name x p) (e::Α) [] pos)<|QA C ς t:=by
 obtain⟨M,N,b,a,o,q⟩:=a.ex;have r:PE X (.Call (.Name x p) (e::Α) [] pos)<|Iz C (gx C ς) [] E0 t:=Mm b a (f.mono hk) h o q .nil aG i l m n;intro v w y z O d A;refine c5<|n9 d h o ?_ l;refine dQ d.ok.mod.QW b.kp (cH (i pos v w y z _ d A) λP s1 ⟨E,Q,s,F,G,H,I⟩=>⟨s.lV,?_⟩) m n;refine Au b a (f.mono hk) q .nil aG s F λx u J r L=>⟨x,u,E,G,bh,H,af,D,?_⟩;rw[cy];exact I x u J r L
def HF(a:Gn X.prog X.w K X.mg X.base k x C θ Ã)(b:c6 j X.A)(d:Gl X x)(f:PA X (e::Α) t)(hk:k+1<=j:=by decide)(h:(x==("__debug__":S))=Τ:=by decide)
  (i:ë (e::Α) X.env=(Τ,Ŧ e X.env)::ë Α X.env:=by rfl) (l:(ϴ pos<|ë Α X.env).any (·.1)=Τ:=by rfl):PE X (.Call (.Name x p) (e::Α) [] pos)<|Iz C Ã [] E0 t:=by
 obtain⟨q,r,m,a,n,o⟩:=a.ex;exact Mm m a (b.mono hk) d n o .nil aG f h i l
def Qc(a:Gn X.prog X.w K X.mg X.base k x C θ Ã)(b:c6 j X.A)(d:Gl X x)(hk:k+1<=j:=by decide)(e:(x==("__debug__":S))=Τ:=by decide):PE X (.Call (.Name x p) [] [] pos)<|Iz C Ã [] E0 cB:=by obtain⟨l,m,f,a,h,i⟩:=a.ex;exact QC f a (b.mono hk) d h i .nil aG e
def bY{ù:Yd ě}(a:pR X.prog X.w K X.mg X.base CX k C m θ Ã)(c:OT K C)(d:c6 j X.A)(Ο:jb CX X E)(h:PE X o È)(i:PA X (e::Α) t)(hk:k<=j:=by decide)
  (l:ë (e::Α) X.env=(Τ,Ŧ e X.env)::ë Α X.env:=by rfl) (n:(ϴ pos<|ë Α X.env).any (·.1)=Τ:=by rfl)
  (p:Ŧ (.Call (.Attribute o m ĝ) (e::Α) [] pos) X.env=(do
   let b <-Ŧ o X.env
   Co ĝ.atName
   let(f,q) <-ni [b] (s7 b m ù)
   Cq pos f q (ϴ pos<|ë (e::Α) X.env) (jT pos<|er [] X.env)):=by rfl):
  PE X (.Call (.Attribute o m ĝ) (e::Α) [] pos) (yb C m Ã [] E È t):=by
 obtain⟨f,u,r,a,s⟩:=a.ex;exact SW h c r a (d.mono hk) s .nil Ο i l n p
def Rz{ù:Yd ě}(a:pR X.prog X.w K X.mg X.base CX k C m θ Ã)(c:OT K C)(d:c6 j X.A)(Ο:jb CX X E)(e:PE X o È)(hk:k<=j:=by decide)
  (h:Ŧ (.Call (.Attribute o m ĝ) [] [] pos) X.env=(do
   let b <-Ŧ o X.env
   Co ĝ.atName
   let(f,i) <-ni [b] (s7 b m ù)
   Cq pos f i (ϴ pos<|ë [] X.env) (jT pos<|er [] X.env)):=by rfl):
  PE X (.Call (.Attribute o m ĝ) [] [] pos) (yb C m Ã [] E È cB):=by
 obtain⟨f,p,l,a,n⟩:=a.ex;exact PR e c l a (d.mono hk) n .nil Ο h
inductive Eb(K:Ζ)(N:J V)(H:Hp)(Q:VK):Prop
 |mk(x c t b:_)(_:N=[x,.ref c])(_:qp K H x t)(_:Ģ K t (.ref c)=B b)(_:Q (.bl b) H)
def IB:ig X (.builtin "isinstance")<|Eb K:=by intro p q r b s t u a d e;obtain⟨v,f,w,h,rfl,i,j,k⟩:=e;obtain⟨x,l,rfl,m,n⟩:=L0 d;obtain rfl:l=æ f:=n;exact NP a m i j λo=>⟨.bl h,b,a.tok o,D,k⟩
def f_{y:S}{Ŕ:kX}(b:X.mg "isinstance"=g)(d:PE X e Â)(f:X.mg y=B (.ref C))(h:Gl X "isinstance":=by rfl)(i:Gl X y:=by rfl)(j:(y==("__debug__":S))=Τ:=by decide)
  (a:ë [e,.Name y Ŕ] X.env=(Τ,Ŧ e X.env)::ë [.Name y Ŕ] X.env:=by rfl) (k:ë [.Name y Ŕ] X.env=(Τ,Ŧ (.Name y Ŕ) X.env)::ë [] X.env:=by rfl) (l:(ϴ pos<|ë [.Name y Ŕ] X.env).any (·.1)=Τ:=by rfl):
  PE X (.Call (.Name "isinstance" p) [e,.Name y Ŕ] [] pos) (Ek (Eb K)<|bg Â<|bg (tC<|.ref C) cB):=
 jN IB h b (by decide+kernel) (aa d (aa (Mt i f D j) aj k) a) bM bM a l
end
noncomputable def f1 (a:S):J V->É (J<|S×V)
 |[v]=>B [(a,v)]
 |_=>g
noncomputable def f2 (a b:S):J V->É (J<|S×V)
 |[v,u]=>B [(a,v),(b,u)]
 |_=>g
noncomputable def f3 (a b c:S):J V->É (J<|S×V)
 |[v,u,w]=>B [(a,v),(b,u),(c,w)]
 |_=>g
noncomputable def f4 (a b c d:S) (x:J<|S×V):J V->É (J<|S×V)
 |[v,u,w,e]=>B<|(a,v)::(b,u)::(c,w)::(d,e)::x
 |_=>g
section
variable{a b c d:S}{x fs:J<|S×V}{Μ vs:J V}{Q:VK}{E:XK}
def g1(h:f1 a Μ=B fs):∃v,Μ=[v]/\fs=[(a,v)]:=by unfold f1 at h;split at h<;>cases h;exact⟨_,D,D⟩
def g2(h:f2 a b Μ=B fs):∃v u,Μ=[v,u]/\fs=[(a,v),(b,u)]:=by unfold f2 at h;split at h<;>cases h;exact⟨_,_,D,D⟩
def g3(h:f3 a b c Μ=B fs):∃v u w,Μ=[v,u,w]/\fs=[(a,v),(b,u),(c,w)]:=by unfold f3 at h;split at h<;>cases h;exact⟨_,_,_,D,D⟩
def g4(h:f4 a b c d x Μ=B fs):∃v u w e,Μ=[v,u,w,e]/\fs=(a,v)::(b,u)::(c,w)::(d,e)::x:=by unfold f4 at h;split at h<;>cases h;exact⟨_,_,_,_,D,D⟩
def s1(vs H Q E)(h:gx C (f1 a) vs H Q E):L vs=2:=by obtain⟨_,_,b,d,rfl,h,_,_⟩:=h;obtain⟨_,rfl,_⟩:=g1 h;rfl
def s2(vs H Q E)(h:gx C (f2 a b) vs H Q E):L vs=3:=by obtain⟨_,_,d,e,rfl,h,_,_⟩:=h;obtain⟨_,_,rfl,_⟩:=g2 h;rfl
def s3(vs H Q E)(h:gx C (f3 a b c) vs H Q E):L vs=4:=by obtain⟨_,_,d,e,rfl,h,_,_⟩:=h;obtain⟨_,_,_,rfl,_⟩:=g3 h;rfl
def s4(vs H Q E)(h:gx C (f4 a b c d x) vs H Q E):L vs=5:=by obtain⟨_,_,e,f,rfl,h,_,_⟩:=h;obtain⟨_,_,_,_,rfl,_⟩:=g4 h;rfl
end
theorem m_(f:S)(v:V):bf f v []=[(f,v)]:=rfl
theorem cM{f ς:S}(h:¬ς=f)(v x:V)(r:J<|S×V):bf f v ((ς,x)::r)=(ς,x)::bf f v r:=Ó h
theorem Oj{f:S}(v x:V)(r:J<|S×V):bf f v ((f,x)::r)=(f,v)::r:=à D
theorem Zi{f:S}{v:V}{r:J<|S×V}:tM f ((f,v)::r)=B v:=by simp
theorem lkN{f ς:S}{v:V}{r:J<|S×V}(h:¬f=ς):tM f ((ς,v)::r)=tM f r:=by
 grind
def aaA:aB ["self","signs"] ["self","signs"]<|ay Y3:=by decide+kernel
def Bx(a:Wk K η A):Gn P w K η Ξ 1 "Literal" A.lit ["self","signs"]<|gx A.lit<|f1 "signs":=by refine a.Ms 0 13 aaA s1 λh i j k l b=>?_;obtain⟨m,n,o,p,rfl,d,e,f⟩:=b;obtain⟨q,rfl,rfl⟩:=g1 d;exists _,ai<|aX (pv 0) (pv 1) D;exact⟨D,e,a.kl.lit.fo,bh,f⟩
def aaw:aB ["self","name","arguments"] ["self","name","arguments"]<|ay Zr:=by decide+kernel
def V0(a:Wk K η A):Gn P w K η Ξ 1 "Use" A.use ["self","name","arguments"]<|gx A.use<|f2 "name" "arguments":=by
 have b:=a.kl.use;refine a.Ms 1 38 aaw s2 λh i j k l d=>?_;obtain⟨m,n,o,p,rfl,e,f,q⟩:=d;obtain⟨r,s,rfl,rfl⟩:=g2 e;exists _,ah (aX (pv 0) (pv 1) D)<|ai<|aX (pv 0) (pv 2) D;exists D,f,b.fo,bh,D,af,b.fo,(by show 1<1000;decide)
 rwa [cy,m_,cM<|by decide+kernel,m_]
section
variable(K:Ζ)(A:Ad)(H:Hp)
inductive Bl(a:O)(t:ê):Prop
 |mk(ξ s:_)(_:H a=B (.aE A.lit ξ [("signs",.ref s)]))(_:Tx K H s t)
inductive ym(a:O)(n:Đ)(args:J ê):Prop
 |mk(ξ p l:_)(_:H a=B (.aE A.use ξ [("name",.ref p),("arguments",.ref l)]))(_:Nm H p n)(_:Gq K H l args)
def IC(a:O)(n:Đ):Prop:=∃ξ p,H a=B (.aE A.par ξ [("name",.ref p)])/\Nm H p n
def cI(a:O):Ť->Prop
 |.lit t=>Bl K A H a t
 |.use n b=>ym K A H a n b
 |.param n=>IC A H a n
def jF(l:O)(θ:J Ť):Prop:=∃as:J O,aN K H l (as.map V.ref)/\ď (cI K A H) as θ
noncomputable def Fb:oO->É (Z×ê)
 |.when s=>B (1,s)
 |.otherwise=>B (2,[])
 |.done=>B (3,[])
 |.code _=>g
def mW(a:O):oO->Prop
 |.code θ=>∃ξ l,H a=B (.aE A.code ξ [("pieces",.ref l)])/\jF K A H l θ
 |l=>∃ξ p k t,Fb l=B (k,t)/\H a=B (.aE A.cond ξ [("kind",.int k),("setting",.ref p)])/\Nm H p t
end
theorem Bl.same{t:ê}(h:Bl K A H a t)(e:av H R):Bl K A R a t:=by obtain⟨b,d,f,i⟩:=h;exact⟨b,d,e _ _ f,i.same e⟩
theorem ym.same{args:J ê}(h:ym K A H a n args)(e:av H R):ym K A R a n args:=by obtain⟨b,d,f,i,j,k⟩:=h;exact⟨b,d,f,e _ _ i,j.same e,k.same e⟩
theorem IC.same(h:IC A H a n)(e:av H R):IC A R a n:=by obtain⟨b,d,f,i⟩:=h;exact⟨b,d,e _ _ f,i.same e⟩
theorem cI.same{a:O}{p:Ť}(h:cI K A H a p)(e:av H R):cI K A R a p:=by
 cases p with
 |lit d=>exact Bl.same h e
 |use b f=>exact ym.same h e
 |param b=>exact IC.same h e
theorem jF.same{l:O}{θ:J Ť}(h:jF K A H l θ)(e:av H R):jF K A R l θ:=by obtain⟨a,b,d⟩:=h;exact⟨a,av.seq e b,Paired.cj (λ_ _ f=>f.same e) d⟩
theorem mW.same{a:O}{l:oO}(h:mW K A H a l)(e:av H R):mW K A R a l:=by
 cases l with
 |code n=>
  obtain⟨b,l,d,f⟩:=h;exact⟨b,l,e _ _ d,f.same e⟩
 |when o=>
  obtain⟨b,i,j,k,m,d,f⟩:=h;exact⟨b,i,j,k,m,e _ _ d,f.same e⟩
 |otherwise=>
  obtain⟨b,i,j,k,m,d,f⟩:=h;exact⟨b,i,j,k,m,e _ _ d,f.same e⟩
 |done=>
  obtain⟨b,i,j,k,m,d,f⟩:=h;exact⟨b,i,j,k,m,e _ _ d,f.same e⟩
def aa2:aB ["self","name"] ["self","name"]<|ay ZU:=by decide+kernel
def Ft(a:Wk K η A):Gn P w K η Ξ 1 "Parameter" A.par ["self","name"]<|gx A.par<|f1 "name":=by refine a.Ms 2 26 aa2 s1 λh i j k l b=>?_;obtain⟨m,n,o,p,rfl,d,e,f⟩:=b;obtain⟨q,rfl,rfl⟩:=g1 d;exists _,ai<|aX (pv 0) (pv 1) D;exact⟨D,e,a.kl.par.fo,bh,f⟩
def aar:aB ["self","pieces"] ["self","pieces"]<|ay Zx:=by decide+kernel
def Ih(a:Wk K η A):Gn P w K η Ξ 1 "CodeLine" A.code ["self","pieces"]<|gx A.code<|f1 "pieces":=by refine a.Ms 3 0 aar s1 λh i j k l b=>?_;obtain⟨m,n,o,p,rfl,d,e,f⟩:=b;obtain⟨q,rfl,rfl⟩:=g1 d;exists _,ai<|aX (pv 0) (pv 1) D;exact⟨D,e,a.kl.code.fo,bh,f⟩
def aa3:aB ["self","kind","setting"] ["self","kind","setting"]<|ay Zb:=by decide+kernel
def kr(a:Wk K η A):Gn P w K η Ξ 1 "ConditionLine" A.cond ["self","kind","setting"]<|gx A.cond<|f2 "kind" "setting":=by
 have b:=a.kl.cond;refine a.Ms 4 1 aa3 s2 λh i j k l d=>?_;obtain⟨m,n,o,p,rfl,e,f,q⟩:=d;obtain⟨r,s,rfl,rfl⟩:=g2 e;exists _,ah (aX (pv 0) (pv 1) D)<|ai<|aX (pv 0) (pv 2) D;exists D,f,b.fo,bh,D,af,b.fo,(by show 1<1000;decide)
 rwa [cy,m_,cM<|by decide+kernel,m_]
noncomputable def ff (u:ê):M:=
 if(u.drop 1).take 1=[123] then(if u.contains 125 then(L<|u.takeWhile λb=>b !=125)+1 else 0)
 else if(u.drop 1).take 1=[60] then(if u.contains 62 then(L<|u.takeWhile λb=>b !=62)+1 else 0)
 else 0
noncomputable def cu (t:ê):É Ť:=
 if L t=0 then g
 else if t[1]?=B 123 then pX ((t.drop 2).dropLast)
 else if ħ ((t.drop 2).dropLast) then B (.param<|(t.drop 2).dropLast) else g
theorem Lr{q:ê}(h:q.contains 125=U):(64::123::q).takeWhile (λb=>b !=125)=64::123::q.takeWhile (λb=>b !=125):=by rfl
theorem Ku{q:ê}:(64::60::q).takeWhile (λb=>b !=62)=64::60::q.takeWhile (λb=>b !=62):=by rfl
theorem Ei{c:ϔ}{a b:ϔ}{n r:ê}:(a::b::(n++c::r)).take (L n+2+1)=a::b::(n++[c]):=by
 grind
theorem Eh{c:ϔ}{a b:ϔ}{n r:ê}:(a::b::(n++c::r)).drop (L n+2+1)=r:=by simp
def M_(r:ê):marked r=(cu<|(64::r).take<|ff<|64::r).map λp=>(p,(64::r).drop<|ff<|64::r):=by
 cases r with
 |nil=>rfl
 |cons i a=>
  by_cases m:i=123
  .subst m;have f:ff (64::123::a)=if(64::123::a:ê).contains 125=U then(L<|(64::123::a:ê).takeWhile λb=>b !=125)+1 else 0:=by unfold ff;rw[à<|by rfl]
   have j:(64::123::a:ê).contains 125=a.contains 125:=by rfl
   have h:marked (123::a)=if a.contains 125 then(pX<|a.takeWhile λb=>b !=125).map λp=>(p,a.drop<|(L<|a.takeWhile λb=>b !=125)+1) else g:=rfl
   rw[f,j,h];by_cases d:a.contains 125=U
   .rw[à d,à d,Lr d];obtain⟨e,n,k,o,l⟩:=gW d;rw[l];rw[(bh:(L (64::123::e:ê))+1=L e+2+1),k,Ei,Eh];have t:cu (64::123::(e++[125]))=pX e:=by unfold cu;simp
    simp_all
   .rw[Ó d,Ó d];rfl
  .by_cases q:i=60
   .subst q;have f:ff (64::60::a)=if(64::60::a:ê).contains 62=U then(L<|(64::60::a:ê).takeWhile λb=>b !=62)+1 else 0:=by unfold ff;rw[Ó (λs=>absurd (show([60]:ê)=[123] from s) bM:¬((64::60::a:ê).drop 1).take 1=[123]),à<|by rfl]
    have j:(64::60::a:ê).contains 62=a.contains 62:=by rfl
    have h:marked (60::a)=if a.contains 62 then(if ħ (a.takeWhile λb=>b !=62) then B (.param<|a.takeWhile λb=>b !=62,a.drop<|(L<|a.takeWhile λb=>b !=62)+1) else g) else g:=rfl
    rw[f,j,h];by_cases d:a.contains 62=U
    .rw[à d,à d,Ku];obtain⟨e,n,k,o,l⟩:=gW d;rw[l];rw[(bh:(L (64::60::e:ê))+1=L e+2+1),k,Ei,Eh];simp[cu,ħ,ê,absurd]
    .rw[Ó d,Ó d];rfl
   .have f:ff (64::i::a)=0:=by simp_all[ff,Ó]
    rw[f];have h:marked (i::a)=g:=by unfold marked;simp_all
    rw[h];rfl
def PU(r:ê):(64::r).take (ff<|64::r)=[]\/2<=(L<|(64::r).take<|ff<|64::r):=by
 cases r with
 |nil=>exact .inl D
 |cons a b=>
  unfold ff;split
  .split
   .simp
   .exact .inl D
  .split
   .split
    .simp
    .exact .inl D
   .exact .inl D
def Qx{r:ê}{p:Ť}(h:cu ((64::r).take<|ff<|64::r)=B p):1<=ff (64::r):=by
 cases a:ff (64::r) with
 |zero=>rw[a]at h;cases h
 |succ b=>simp
section
variable{p pos:kX}
inductive RA(K:Ζ)(N:J V)(H:Hp)(Q:VK):Prop
 |mk(p Å:_)(_:N=[.ref p])(_:((aN K H p Å/\∀l,H l=g->Q (.ref l) (T H l<|.bO Å))\/(gb K H p Å/\Q (.ref p) H)))
def iO(b:X.mg "tuple"=g)(d:PE X e Â)(f:Gl X "tuple":=by rfl)(a:ë [e] X.env=(Τ,Ŧ e X.env)::ë [] X.env:=by rfl):PE X (.Call (.Name "tuple" p) [e] [] pos)<|Ek (RA K)<|bg Â cB:=
 mw (ig.imp C_ λ_ _ _ h=>let⟨p,i,j,k⟩:=h;⟨p,i,j,k⟩) f b (by decide+kernel) (aa d aj a) bM bM a
end
def Ry:aB ["row","at","begin","end","rest"] ["row","at"]<|ay<|bU 46:=by decide+kernel
inductive F6(K:Ζ)(vs:J V)(H:Hp)(Q:VK)(b:XK):Prop
 |mk(a t:_)(i:M)(_:vs=[.ref a,.int i])(_:Tx K H a t)(_:L t<=30000)(_:∀R,av H R->Q (.int (ff (t.drop i):M)) R)
def AD(y:Wk K η A):Kn P w K η Ξ c9 1 "marked_size" ["row","at"]<|F6 K:=by
 have l:=y.md;refine y.kn 19 Ry λj an n ao z R=>?_;obtain⟨p,b,a,rfl,C,ap,q⟩:=R;refine⟨_,ah (aH 2 Ry<|bF bZ (pv 0) (bD<|cQ iw (pv 1) az)<|bD<|cQ iw (pv 1) az)<|ah (aJ (aF (ow z.units) (pv 2) (aI<|aa (aW l.yc) aj)<|aK _) (ai<|aH 3 Ry<|aW l.Ny)<|ai<|aJ (aF (ow z.units) (pv 2) (aI<|aa (aW l.vO) aj)<|aK _) (ai<|aH 3 Ry<|aW l.zu)<|ai<|aA az)<|ah (aH 4 Ry<|bF bZ (pv 0) (bD<|pv 1) dz)<|ah (aJ (aF pZ (pv 3) (pv 4)<|by with_unfolding_all rfl) (ai<|aA az) aD)<|ai<|aA<|cQ iw (P6 (pv 4)<|pv 3) az,?_⟩
 refine⟨p,_,D,C,λh S=>?_⟩;have W:br (tV b) (B<|(a:Z)+1) (B<|(a:Z)+2)=tV ((b.drop<|a+1).take 1):=by have E:=vE (tV b) (a+1)<|a+2;rw[kW,n7,show a+2 -(a+1)=1 by simp]at E;exact E
 have r:(b.drop a).drop 1=b.drop (a+1):=bh;have s1:av j<|T j h<|.Y<|br (tV b) (B<|(a:Z)+1)<|B<|(a:Z)+2:=aq S;have s:Tx K (T j h<|.Y<|br (tV b) (B<|(a:Z)+1)<|B<|(a:Z)+2) h<|(b.drop<|a+1).take 1:=aN.of<|af.trans<|Ğ (λt=>B<|HO.Y t) W;generalize T j h (.Y<|br (tV b) (B<|(a:Z)+1)<|B<|(a:Z)+2)=X at s1 s;refine⟨by simp[sizeLine],λF u=>⟨h,F,_,[123],D,D,s.same<|aq u,aN.of af,?_⟩⟩;have s2:=s1.trans<|aq (o:=.Y [V.int 123]) u;have G:=s.same<|aq (o:=.Y [V.int 123]) u;generalize T X F (.Y [V.int 123])=H at s2 G;have I:∀(i:ϔ) (d:Hp),av j d->(∀f,av j f->n (.int ((if(b.drop a).contains i then(L<|(b.drop a).takeWhile λY=>Y !=i)+1 else 0:M):Z)) f)->
   qM (Hj (tSl (Wb K) (aV 0) (P8<|aV 1) F0)<|c8 4) (qM (Lm (HX<|OQ (rIn K U) (aV 3)<|aV 4) (tF<|tC<|.int 0) HM)<|tF<|OQ (E8 λa ab=>.int<|a+ab) (SR K "list" (K0 K) (aV 4)<|bg (aV 3) cB)<|tC<|.int 1)
    {nx:=λ_ f=>n .b_ f,rt:=n} [B<|.ref p,B<|.int a,B<|.ref h,B<|bV i,g] d:=by
  intro i d s3 J;refine⟨p,_,D,C.same s3,λk ad=>?_⟩;have s4:av d<|T d k<|.Y<|br (tV b) (B (a:Z)) g:=aq ad;have m:Tx K (T d k<|.Y<|br (tV b) (B (a:Z)) g) k<|b.drop a:=aN.of (af.trans<|Ğ (λt=>B<|HO.Y t)<|by rw[o9,kW]);generalize T d k (.Y<|br (tV b) (B (a:Z)) g)=N at s4 m;exists k,_,D,.inl m,D,kC _;rw[sE];refine gC (λe=>?_) λe=>?_
  .have:=J N<|s3.trans s4;rw[(aL:(b.drop a).contains i=Τ)]at this;exact this
  .have e:(b.drop a).contains i=U:=aL;refine bx λar ae=>?_;obtain⟨ag,au,ak,al,am⟩:=gW e;obtain⟨f1,f2⟩:=Im al;apply ae;rw[<-ak]at f1 f2;have:=J N<|s3.trans s4;rw[e,à D,am]at this;exact⟨.inl ⟨D,_,m⟩,k,_,_,L ag,bV i,D,D,m,D,kC _,f1,by rw[Rw];simp,f2,this⟩
 refine nU (λe=>?_) λe=>?_
 .refine I 125 H s2 λf v=>?_;have:=q f v;unfold ff at this;rw[r,à e]at this;exact this
 .refine⟨by simp[sizeLine],λO Q=>⟨h,O,_,[60],D,D,G.same<|aq Q,aN.of af,?_⟩⟩;have s3:=s2.trans<|aq (o:=.Y [V.int 60]) Q;generalize T H O (.Y [V.int 60])=d at s3;refine nU (λx=>?_) λx=>?_
  .refine I 62 d s3 λf v=>?_;have:=q f v;unfold ff at this;rw[r,Ó e,à x]at this;exact this
  .have:=q d s3;unfold ff at this;rw[r,Ó e,Ó x]at this;exact this
def zS{Q:VK}{s:L2.St}(l:J Ν)(v:Ν->V)(f:Ν->ě)(t:aN K ο a<|l.map v)(u:L l<=sizeLine)
 (w:∀x∈l,∀Θ (p:VK),av ο Θ->(∀d,av Θ d->p (.bl<|f x) d)->Â ((cE σ [i]).set i<|B<|v x) Θ p)
 (k:∀R,av ο R->Q (.bl<|l.all f) R):
 ∀e,ο e=g->∃h:M->M->Hp->Prop,(∃m,h 0 m<|T ο e<|.Y [])/\∀n m H,h n m H->
  ((xW K a).stop n H/\cB s H λN Θ=>T4 K (V.ref e::N) Θ Q)\/((xW K a).go n H/\∃j:Hp->Prop,(∀R,j R->∃q,q<m/\h (n+1) q R)/\∀x R,(xW K a).HW n H x R->c8 i x (cE σ [i]) R λo Θ=>cE o [i]=cE σ [i]/\CN o Θ λb d=> if b then Â o d λy r=>∃acc,r e=B (.Y acc)/\L acc<sizeLine/\j (T r e<|.Y<|acc++[y]) else j d):=r9 l v f t u w k
theorem Gq.zip{l:O}(h:Gq K H l Ø):∃Ô:J<|O×ê,aN K H l (Ô.map λa=>V.ref a.1)/\Ø=Ô.map (·.2)/\∀a∈Ô,Tx K H a.1 a.2:=by
 obtain⟨d,e,b⟩:=h;have o:=Paired.len b;obtain⟨Ô,f,i⟩:∃Ô:J<|O×ê,d=Ô.map (·.1)/\Ø=Ô.map (·.2):=⟨d.zip Ø,by rw[zB fX],by grind[zC]⟩;refine⟨Ô,?_,i,?_⟩
 .rw[f,Ħ]at e;exact e
 .rw[f,i]at b;intro a m;obtain⟨p,j⟩:=ŵ m;obtain⟨q,k,n⟩:=Paired.at_ b (by rw[Ë,j];rfl);rw[Ë,j]at k;cases k;exact n
def Nm.of{t:ê}(h:H a=B (.bO<|tV t)):Nm H a t:=by unfold Nm;rwa [SY]
def Nm.sq{t:ê}(h:Nm H a t):gb K H a<|tV t:=by unfold Nm at h;rw[SY]at h;exact gb.of h
def Ex.inst(a:Ex G H Ē ο){x:O}{fs:J<|S×V}(Ο:ο x=g)(b:ο ξ=g)(d:ξ≠x):
  Ex G H (T (T Ē ξ<|.own x) x<|.aE C ξ fs) (T (T ο ξ<|.own x) x<|.aE C ξ fs):=
 (a.made b).made (by rwa [au d.symm])
def cN{x:O}{fs:J<|S×V}(Ο:G x=g)(a:G ξ=g)(b:ξ≠x):av G<|T (T G ξ<|.own x) x<|.aE C ξ fs:=
 (aq a).trans (aq<|by rwa [au b.symm])
def nN{t n:ê}{l:J ê}(h:dW t=B (n,l)):L n<=L t:=by
 by_cases a:t.contains 40=Τ
 .rw[gT a]at h;cases h;exact Õ _
 .rw[fB]at a;obtain⟨e,f,b,d,i⟩:=eL a;rw[b,f7 d]at h;simp_all
def Jg{t u:ê}(h:dw t=B u):L u<=L t:=by
 rw[uy]at h;split at h
 .cases h;simp
 .cases h
theorem Em{Ν:Type}:∀{l:J<|É Ν} {r:J Ν} {x:Ν},iB l=B r->x∈r->B x∈l
 |[],r,x,a,b=>by cases a;cases b
 |e::l,r,x,a,b=>by
  cases e with
  |none=>cases a
  |some d=>
   rw[show iB (B d::l)=(iB l).map λl=>d::l from D]at a;obtain⟨i,f,h⟩:=Ü.mp a;subst h;rcases ç.mp b with z|z
   .rw[z];exact Ö
   .exact Ç _<|Em f z
def pH{t n:ê}{l:J ê}(h:dW t=B (n,l))(u:ê)(k:u∈l):L u<=L t:=by
 by_cases d:t.contains 40=Τ
 .rw[gT d]at h;simp_all
 .rw[fB]at d;obtain⟨x,e,i,m,y⟩:=eL d;rw[i,f7 m]at h;obtain⟨A,a,o⟩:=Ü.mp h;cases o;have C:L e<=L t:=by rw[i];simp;lia
  have f:∀b∈ώ 44 e.dropLast,L b<=L t:=λb p=>by have:=fh 44 _ b p;rw[LH]at this;omega
  unfold d7 at a;split at a
  .cases j:ώ 44 e.dropLast with
   |nil=>rw[j]at a;cases a
   |cons q E=>
    rw[j]at a f;obtain⟨F,r,s⟩:=Ü.mp a;subst s;rcases ç.mp k with z|z
    .rw[z];exact f q Ö
    .obtain⟨b,v,w⟩:=ń.mp<|Em r z;exact Ć (Jg w)<|f b<|Ç _ v
  .cases a
def OD:aB ["inside","found","name","arguments","argument"] ["inside"]<|ay<|bU 48:=by decide+kernel
inductive J0(K:Ζ)(A:Ad)(vs:J V)(H:Hp)(Q:VK)(b:XK):Prop
 |mk(G a t:_)(_:vs=[.ref a])(_:av G H)(_:Tx K G a t)(_:L t<=30000)(_:(pX t=g->∀R,av H R->Q .b_ R))(_:∀n args,pX t=B (.use n args)->∀Κ R p,Ex G H Κ R->ym K A Κ p n args->Q (.ref p) R)
def E2(d:Wk K η A):Kn P w K η Ξ c9 5 "parse_use" ["inside"]<|J0 K A:=by
 refine d.kn 21 OD λap ar au aw i R=>?_;obtain⟨S,W,n,rfl,X,Y,Z,p,ab⟩:=R;refine⟨_,ah (aH 1 OD<|aR (jJ d) i D aG<|aa (pv 0) aj)<|ah (aJ (fy<|oz<|pv 1) (ai<|aA f9) aD)<|ah (aH 2 OD<|aY qf (pv 1) az λ_ _=>D)<|ah (aH 3 OD<|aY qf (pv 1) az λ_ _=>D)<|ah (aJ (PW.pt<|lz (cG<|bQ<|aR (AQ d) i D aG<|aa (pv 2) aj)<|iu<|cG<|bQ<|lQ D d.md.qF<|gV D OD.nd (bu<|pv 3) (bL (own:=[("argument",4)])<|by kernel_rfl) (λ_ _ _ _ _=>bC 4 OD) (λ_ _ _ _ _=>cY) λ_ _ _ _ _=>aR (BZ d) i D aG<|aa (pv 4) aj) (ai<|aA f9) aD)<|ai<|aA<|gR (V0 d) i D<|aa (iO d.md.iV<|pv 2)<|aa (pv 3) aj,?_⟩
 refine⟨S,W,n,D,X,Y,Z,λad ae ag=>?_,λa f j k ax x q h l y z E=>?_⟩
 .refine ?_;refine bS ?_;refine p ?_ ae ag;rw[nh,ad];rfl
 .have ak:pX n=if(cP a&&f.all ű) then B (.use a f) else g:=by rw[nh,j];rfl
  have ay:=qo j;refine(dJ ?_);refine⟨x,_,_,V.ref q,D,D,av.x_ l.sub y,D,x,_,_,V.ref h,D,D,av.x_ l.sub y,D,?_⟩;have aB:L a<=L n:=nN j;refine⟨q,a,D,z.same l.sub,aL,λal s2=>(?_)⟩;have r:=l.more s2;refine gC (λF=>?_) λF=>?_
  .refine bS ?_;refine p ?_ al r.same;lia
  .obtain⟨s,G,H,am⟩:=(E.same r.sub).zip;have aC:L s<=30000:=by
    grind
   refine⟨h,D,⟨_,G⟩,?_⟩;refine zS s (λb=>V.ref b.1) (λb=>ű b.2) G (š<|cK aL) (λb I J aE s3 an=>⟨b.1,b.2,D,(am b I).same s3,?_,an⟩) λJ s3=>(?_)
   .have:=pH j b.2<|H▸ō I;lia
   .rw[(by rw[H,j5];rfl:(s.all λb=>ű b.2)=f.all ű)];have m:=r.more s3;refine gC (λao=>?_) λao=>?_
    .refine p ?_ J m.same;lia
    .refine⟨q,_,D,.inl ⟨z.same m.sub,λe M=>⟨_,D,λt u N O Q=>?_⟩⟩⟩;have v:=m.made (o:=.bO<|tV a) M;have g2:av (T k e<|.bO<|tV a)<|T (T (T k e<|.bO<|tV a) u<|.own t) t<|.aE A.use u [("name",.ref e),("arguments",.ref h)]:=cN (av.free v.sub N) (av.free v.sub O) Q;refine ab a f (by rw[ak,(by simpa using F:cP a=true),(aL:f.all ű=U)];rfl) _ _ t (v.inst (C:=A.use) (fs:=[("name",.ref e),("arguments",.ref h)]) N O Q) ⟨u,e,h,af,Nm.of<|g2 _ _ af,(E.same (aq (av.free m.sub M):av k<|T k e<|.bO<|tV a)).same g2⟩
def ZT:aB ["row","inside"] ["row"]<|ay<|bU 47:=by decide+kernel
inductive CB(K:Ζ)(A:Ad)(vs:J V)(H:Hp)(Q:VK)(b:XK):Prop
 |mk(G a t:_)(_:vs=[.ref a])(_:av G H)(_:Tx K G a t)(_:L t<=30000)(_:(t=[]\/2<=L t))(_:(cu t=g->∀R,av H R->Q .b_ R))(_:∀p,cu t=B p->∀Κ R x,Ex G H Κ R->cI K A Κ x p->Q (.ref x) R)
def yY(f:Wk K η A):Kn P w K η Ξ c9 6 "parse_marked" ["row"]<|CB K A:=by
 refine f.kn 20 ZT λE am an ao q O=>?_;obtain⟨F,r,a,rfl,l,s,ap,aq,t,G⟩:=O;refine⟨_,ah (aJ (aF ee (aQ f.md.a_<|pv 0) az<|aK _) (ai<|aA f9) aD)<|ah (aH 1 ZT<|bF bZ (pv 0) (bD az)<|bD<|uc ou az)<|ah (aJ (aF ee (aY aM (pv 0) az λ_ _=>D) (aW f.md.yc)<|aK _) (ai<|aA<|aR (E2 f) q D aG<|aa (pv 1) aj) aD)<|ah (aJ (cG<|bQ<|aR (g_ f) q D aG<|aa (pv 1) aj) (ai<|aA f9) aD)<|ai<|aA<|gR (Ft f) q D<|aa (iO f.md.iV<|pv 1) aj,?_⟩
 exists r,_,D,.inl<|s.same l,D;rw[cz,bP];refine gC (λb=>?_) λb=>?_
 .have b:(L a:Z)=0:=by simpa using b
  refine t ?_ E (av.refl _);simp_all[cu,à]
 .have b:¬L a=0:=λH=>by rw[H]at b;exact absurd b bM
  have ar:2<=L a:=by simp_all[absurd]
  obtain⟨m,I⟩:∃m,a[1]?=B m:=⟨a[1],bh⟩;refine⟨r,_,D,s.same l,λh Q=>?_⟩;have R:br (tV a) (B 2) (B<|-1)=tV ((a.drop 2).dropLast):=by have d:=D6 (tV a) 2;rw[kW,yw]at d;exact d
  have e:=(Ex.refl l).made (o:=.Y<|br (tV a) (B 2)<|B<|-1) Q;have n:Tx K (T F h<|.Y<|br (tV a) (B 2)<|B<|-1) h<|(a.drop 2).dropLast:=aN.of<|af.trans<|Ğ (λS=>B<|HO.Y S) R;have J:(L<|(a.drop 2).dropLast)<=30000:=by rw[LH,Ϸ];omega
  generalize T F h (.Y<|br (tV a) (B 2)<|B<|-1)=V at e n;generalize T E h (.Y<|br (tV a) (B 2)<|B<|-1)=au at e;refine⟨r,_,_,bV m,D,D,(s.same l).same e.same,bN (j:=1)<|HN I,D,?_⟩;show if ã (bV m=bV 123) then _ else _
  rw[D9];refine gC (λi=>?_) λi=>?_
  .have i:=eq_of_beq i;subst i;have d:cu a=pX ((a.drop 2).dropLast):=by unfold cu;rw[Ó b,à I]
   refine⟨V,h,_,D,e.sub,n,J,λW u X=>t (by rw[d,W]) u<|e.same.trans X,λY ab ad ae u v k p=>G (.use Y ab) (by rw[d,ad]) ae u v (e.trans k) p⟩
  .have i:¬a[1]?=B 123:=λH=>by simp_all
   have d:cu a=if ħ ((a.drop 2).dropLast) then B (.param<|(a.drop 2).dropLast) else g:=by unfold cu;rw[Ó b,Ó i]
   refine⟨h,_,D,n.same e.sub,J,λag s2=>(?_)⟩;have k:=e.more s2;refine gC (λx=>?_) λx=>?_
   .refine t ?_ ag k.same;rw[d,(by simpa using x:ħ ((a.drop 2).dropLast)=false)];rfl
   .refine⟨h,_,D,.inl ⟨n.same k.sub,λy ak=>⟨_,D,λv al p M N=>?_⟩⟩⟩;have z:=k.made (o:=.bO<|tV<|(a.drop 2).dropLast) ak;exact G (.param _) (by rw[d,(by simpa using x:ħ ((a.drop 2).dropLast)=true)];rfl) _ _ v (z.inst (C:=A.par) (fs:=[("name",.ref y)]) p M N) ⟨al,y,af,Nm.of<|(cN (C:=A.par) (fs:=[("name",.ref y)]) (av.free z.sub p) (av.free z.sub M) N) _ _ af⟩
def vA{u:ê}{c:ϔ}(h:u.contains c=U):(L<|u.takeWhile λb=>b !=c)+1<=L u:=by obtain⟨e,f,a,i,d⟩:=gW h;rw[d,a];simp
def Nt(u:ê):ff u<=L u:=by
 unfold ff;split
 .split
  .rename_i a;exact vA a
  .exact Ò _
 .split
  .split
   .rename_i a;exact vA a
   .exact Ò _
  .exact Ò _
structure IE(K:Ζ)(A:Ad)(G H Κ R:Hp)(x y:O)(as:J O)(θ:J Ť)(lit:ê):Prop where
 ex:Ex G H Κ R
 lx:Lo Κ R x<|.Y<|as.map V.ref
 hx:H x=g
 ly:Lo Κ R y<|.Y<|tV lit
 hy:H y=g
 ne:x≠y
 OS:ď (cI K A Κ) as θ
section
variable{x y:O}{as:J O}{θ:J Ť}{lit:ê}
theorem IE.more{Θ:Hp}(h:IE K A G H Κ R x y as θ lit)(s:av R Θ):IE K A G H Κ Θ x y as θ lit:=⟨h.ex.more s,h.lx.same s,h.hx,h.ly.same s,h.hy,h.ne,h.OS⟩
theorem IE.go{a Θ:Hp}(h:IE K A G H Κ R x y as θ lit)(e:Ex Κ R a Θ):IE K A G H a Θ x y as θ lit:=⟨h.ex.trans e,h.lx.ex e,h.hx,h.ly.ex e,h.hy,h.ne,Paired.cj (λ_ _ b=>b.same e.le) h.OS⟩
def IE.sign(h:IE K A G H Κ R x y as θ lit)(b:ϔ):IE K A G H Κ (T R y<|.Y<|tV lit++[bV b]) x y as θ<|lit++[b]:=by refine⟨h.ex.write h.ly h.hy,h.lx.other h.ne,h.hx,?_,h.hy,h.ne,h.OS⟩;rw[(by unfold tV;simp:tV (lit++[b])=tV lit++[bV b])];exact h.ly.put
theorem IE.piece(h:IE K A G H Κ R x y as θ lit){p:Ť}{q:O}(a:cI K A Κ q p):IE K A G H Κ (T R x<|.Y<|as.map V.ref++[V.ref q]) x y (as++[q]) (θ++[p]) lit:=by refine⟨h.ex.write h.lx h.hx,?_,h.hx,h.ly.other h.ne.symm,h.hy,h.ne,Paired.app h.OS<|.cons a .nil⟩;rw[Ý];exact h.lx.put
def IE.flush(h:IE K A G H Κ R x y as θ lit){q:O}(b:R q=g)(d:R ξ=g)(f:ξ≠q):
  ∃a,Ex G H a (T (T R ξ<|.own q) q<|.aE A.lit ξ [("signs",.ref y)])/\av Κ a/\Bl K A a q lit/\Lo a (T (T R ξ<|.own q) q<|.aE A.lit ξ [("signs",.ref y)]) x (.Y<|as.map V.ref):=by
 have e:=h.ex.stay h.ly h.hy;have s2:=cN (C:=A.lit) (fs:=[("signs",.ref y)]) (av.free e.sub b) (av.free e.sub d) f;exists _,e.inst (C:=A.lit) (fs:=[("signs",.ref y)]) b d f,(aq h.ly.out).trans s2,⟨ξ,y,af,aN.of<|s2 _ _ af⟩;have i:=ao h.lx.at_ b;have j:=ao h.lx.at_ d;refine⟨?_,?_⟩
 .rw[au i,au j,au h.ne];exact h.lx.out
 .rw[au i,au j];exact h.lx.at_
end
def C9:aB ["row","pieces","signs","at","size","piece"] ["row"]<|ay<|bU 45:=by decide+kernel
inductive tU(K:Ζ)(A:Ad)(vs:J V)(H:Hp)(Q:VK)(b:XK):Prop
 |mk(G a t:_)(_:vs=[.ref a])(_:av G H)(_:Tx K G a t)(_:L t<=30000)(_:(g5 t=g->∀R,av H R->Q .b_ R))(_:∀θ,g5 t=B θ->∀Κ R l,Ex G H Κ R->jF K A Κ l θ->Q (.ref l) R)
def zw(s:Wk K η A):Kn P w K η Ξ c9 7 "parse_pieces" ["row"]<|tU K A:=by
 have t:=s.md;refine s.kn 18 C9 λax bO bQ bR E ay=>?_;obtain⟨X,n,a,rfl,Y,bp,bq,bs,a7⟩:=ay;refine⟨_,ah (aH 1 C9<|aI aj)<|ah (aH 2 C9<|aI aj)<|ah (aH 3 C9 az)<|ah (wj ğ (aF iP (pv 3) (aQ t.a_<|pv 0)<|aK _)<|ai<|aJ (aF I1 (aY aM (pv 0) (pv 3) λ_ _=>D) (aW t.VZ)<|aK _) (ah (aT<|ek (pv 2)<|aY aM (pv 0) (pv 3) λ_ _=>D)<|ai<|qq (i:=3) C9.nd D (nv D) az sj)<|ai<|aJ (aF (ow E.units) (bF bZ (pv 0) (bD<|cQ iw (pv 3) az)<|bD<|cQ iw (pv 3) az) (aI<|aa (aW t.VZ) aj)<|aK _) (ah (aT<|ek (pv 2)<|aW t.VZ)<|ai<|qq (i:=3) C9.nd D (nv D) az sj)<|ah (aH 4 C9<|aR (AD s) E D aG<|aa (pv 0)<|aa (pv 3) aj)<|ah (aH 5 C9<|aR (yY s) E D aG<|aa (bF bZ (pv 0) (bD<|pv 3)<|bD<|cQ iw (pv 3)<|pv 4) aj)<|ah (aJ (fy<|oz<|pv 5) (ai<|aA f9) aD)<|ah (aJ (aF kg (aQ t.a_<|pv 2) az<|aK _) (ah (aT<|ek (pv 1)<|gR (Bx s) E D<|aa (pv 2) aj)<|ai<|aH 2 C9<|aI aj) aD)<|ah (aT<|ek (pv 1)<|pv 5)<|ai<|qq (i:=3) C9.nd D (nv D) (pv 4) sj)<|ah (aJ (aF kg (aQ t.a_<|pv 2) az<|aK _) (ai<|aT<|ek (pv 1)<|gR (Bx s) E D<|aa (pv 2) aj) aD)<|ai<|aA<|pv 1,?_⟩
 refine⟨Ò _,λj ab=>⟨Ò _,λbt F=>?_⟩⟩;have aB:=ao af F;refine⟨λa8 a9 ad=>∃(i:M) (aC:Hp) (h:O) (e:J O) (θ:J Ť) (lit:ê) (v x:É V),a8=L a -i/\i<=L a/\a9=[B<|.ref n,B<|.ref j,B<|.ref h,B<|.int i,v,x]/\ IE K A X ax aC ad j h e θ lit/\g5 a=(i7 (eT θ lit)<|a.drop i).bind jk/\L θ+L lit<=i,⟨L a,0,X,bt,[],[],[],g,g,D,Ò _,D,?_,?_,Õ _⟩,?_⟩
 .exact⟨(Ex.refl Y).more<|(aq ab).trans<|aq F,(Lo.new Y ab).other aB,ab,Lo.new (Y.trans<|aq ab) F,by rw[au aB.symm]at F;exact F,aB,.nil⟩
 .rw[Dv];exact rD a
 refineλa8 a9 aE bu=>bx λa_ G=>?_;obtain⟨i,y,h,e,θ,lit,v,x,rfl,bT,rfl,f,o,bv⟩:=bu;apply G;have H:=(bp.same Y).same f.ex.same;have ae:=Paired.len f.OS;exists n,_,D,.inl H;rw[bP];refine nU (λaO=>?_) λaO=>?_
 .
  refine bx λa_ G=>?_;obtain⟨l,a'⟩:∃l,a[i]?=B l:=⟨a[i],bh⟩;apply G;have aP:a.drop i=l::a.drop (i+1):=by
   grind[ĩ]
  refine⟨λba ad=>∃bb,bb<L a -i/\∃(i:M) (aC:Hp) (h:O) (e:J O) (θ:J Ť) (lit:ê) (v x:É V),bb=L a -i/\i<=L a/\ba=[B<|.ref n,B<|.ref j,B<|.ref h,B<|.int i,v,x]/\ IE K A X ax aC ad j h e θ lit/\g5 a=(i7 (eT θ lit)<|a.drop i).bind jk/\L θ+L lit<=i,λba ad d=>d,?_⟩
  refine⟨n,_,_,bV l,D,D,H,bN<|HN a',D,?_⟩;show if(!ã (bV l=bV 64)) then _ else _
  rw[D9];refine gC (λI=>?_) λI=>?_
  .
   refine⟨.inl ⟨D,_,aN.of f.ly.at_⟩,n,_,_,bV l,D,D,H,bN<|HN a',h,_,_,D,D,f.ly.at_,?_,?_⟩
   .rw[bP];exact cK aL
   .refine⟨L a -(i+1),aL,i+1,y,h,e,θ,lit++[l],v,x,D,(fX:i<L a),D,f.sign l,?_,by rw[Ω,Ϝ];lia⟩;rw[o,aP,Ot _<|by simpa using I]
  .have I:l=64:=by simpa using I
   subst I;refine⟨n,_,D,H,λN bw=>⟨by simp[sizeLine],λd z=>⟨N,d,(a.drop<|i+1).take 1,[64],D,D,?_,aN.of af,?_⟩⟩⟩
   .have k:=vE (tV a) (i+1)<|i+2;rw[kW,n7,show i+2 -(i+1)=1 by simp]at k;refine aN.of ?_;rw[au<|ao af z];exact af.trans<|Ğ (λb=>B<|HO.Y b) k
   have s2:av aE<|T (T aE N<|.Y<|br (tV a) (B<|(i:Z)+1)<|B<|(i:Z)+2) d<|.Y [V.int 64]:=(aq bw).trans<|aq z;have Q:=f.more s2;have aS:=H.same s2;generalize T (T aE N<|.Y<|br (tV a) (B<|(i:Z)+1)<|B<|(i:Z)+2) d (.Y [V.int 64])=bU at Q aS;refine nU (λag=>?_) λag=>?_
   .
    obtain⟨r,bc⟩:∃r,a.drop (i+1)=64::r:=by
     cases k:a.drop (i+1) with
     |nil=>rw[k]at ag;cases ag
     |cons bz r=>simp_all
    have bA:i+2<=L a:=by
     grind
    refine⟨.inl ⟨D,_,aN.of Q.ly.at_⟩,h,_,_,D,D,Q.ly.at_,?_,?_⟩
    .rw[bP];exact cK aL
    .refine⟨L a -(i+2),aL,i+2,y,h,e,θ,lit++[64],v,x,D,bA,D,Q.sign 64,?_,by rw[Ω,Ϝ];lia⟩;have bB:a.drop (i+2)=r:=by have:a.drop (i+2)=(a.drop<|i+1).drop 1:=bh;rw[this,bc];rfl
     rw[o,aP,bc,Sy,bB]
   .
    have bC:(a.drop<|i+1).head?≠B 64:=by
     intro k;apply ag;cases bd:a.drop (i+1) with
     |nil=>rw[bd]at k;cases k
     |cons bz r=>rw[bd]at k;cases k;rfl
    have aU:=yo (θ:=θ) (lit:=lit) (a.drop<|i+1) bC;have ak:=M_<|a.drop<|i+1;have aV:=PU<|a.drop<|i+1;have aX:=λN (ay:cu _=B N)=>Qx (r:=a.drop<|i+1) ay;have be:=Nt<|a.drop i;rw[<-aP]at aU ak aV aX;rw[Ϸ]at be;generalize bE:ff (a.drop i)=b at ak aV aX be;refine⟨n,a,i,D,aS,bq,λaZ s3=>?_⟩;rw[bE];have bf:=Q.more s3;refine⟨n,_,D,aS.same s3,λp bG=>?_⟩;have bH:br (tV a) (B (i:Z)) (B<|(i:Z)+(b:Z))=tV ((a.drop i).take b):=by have k:=vE (tV a) i<|i+b;rw[kW,n7,show i+b -i=b by simp]at k;exact k
    have a0:Ex y aZ (T y p<|.Y<|br (tV a) (B (i:Z))<|B<|(i:Z)+(b:Z))<|T aZ p<|.Y<|br (tV a) (B (i:Z))<|B<|(i:Z)+(b:Z):=(Ex.refl bf.ex.sub).made bG;have bg:Tx K (T y p<|.Y<|br (tV a) (B (i:Z))<|B<|(i:Z)+(b:Z)) p<|(a.drop i).take b:=aN.of<|af.trans<|Ğ (λb=>B<|HO.Y b) bH;have R:=bf.go a0;generalize T y p (.Y<|br (tV a) (B (i:Z))<|B<|(i:Z)+(b:Z))=bI at a0 bg R;generalize T aZ p (.Y<|br (tV a) (B (i:Z))<|B<|(i:Z)+(b:Z))=bW at a0 R;refine⟨bI,p,(a.drop i).take b,D,R.ex.sub,bg,xV,aV,λbJ al bK=>?_,λam bi bL al bj bM bk=>?_⟩
    .refine(bS ?_);refine bs ?_ al (R.ex.same.trans bK);rw[o,aU,ak,bJ];rfl
    .have bX:=aX am bi;have m:=R.go bM;have bl:g5 a=(i7 (eT (uT θ lit++[am]) [])<|a.drop<|i+b).bind jk:=by rw[o,aU,ak,bi];simp
     refine(dJ ?_);exists h,_,D,.inl<|aN.of m.ly.at_;rw[bP];refine nU (λa1=>?_) λa1=>?_
     .
      have C:lit.isEmpty=Τ:=by
       grind
      refine⟨.inl ⟨D,_,aN.of m.lx.at_⟩,_,D,λd S z a2 a3=>?_⟩;refine bx λa_ G=>?_;obtain⟨W,a4,an,a5,q⟩:=m.flush z a2 a3;apply G;refine⟨j,_,_,D,D,q.at_,?_,Ò _,λap ar=>?_⟩
      .rw[Ε,ae];exact cK aL
      have a6:=a4.write (u:=.Y<|e.map V.ref++[V.ref d]) q m.hx;have bm:=ao af ar;have aw:IE K A X ax W (T (T (T (T al S<|.own d) d<|.aE A.lit S [("signs",.ref h)]) j<|.Y<|e.map V.ref++[V.ref d]) ap<|.Y []) j ap (e++[d]) (θ++[.lit lit]) []:=by refine⟨a6.more<|aq ar,?_,m.hx,Lo.new a6.sub ar,av.free a6.same ar,bm,Paired.app (Paired.cj (λ_ _ b=>b.same an) m.OS)<|.cons a5 .nil⟩;rw[Ý];exact(q.put (u:=.Y<|e.map V.ref++[V.ref d])).other bm
      generalize T (T (T (T al S<|.own d) d<|.aE A.lit S [("signs",.ref h)]) j<|.Y<|e.map V.ref++[V.ref d]) ap (.Y [])=bY at aw;refine⟨.inl ⟨D,_,aN.of aw.lx.at_⟩,j,_,_,D,D,aw.lx.at_,?_,?_⟩
      .rw[Ε,Ω,ae,Ϝ];exact cK aL
      .refine⟨L a -(i+b),aL,i+b,W,ap,e++[d]++[bj],θ++[.lit lit]++[am],[],_,_,D,aL,D,aw.piece<|bk.same an,?_,?_⟩
       .rw[bl];unfold uT;rw[Ó (by rw[C];decide)]
       .rw[Ω,Ω,Ϝ,Ϝ,ŭ];lia
     .have C:lit=[]:=by simp_all
      subst C;refine⟨.inl ⟨D,_,aN.of m.lx.at_⟩,j,_,_,D,D,m.lx.at_,?_,?_⟩
      .rw[Ε,ae];exact cK aL
      .exists(L a) -(i+b),aL,i+b,bL,h,e++[bj],θ++[am],[],_,_,D,aL,D,m.piece bk,bl;rw[ŭ]at bv;rw[Ω,Ϝ,ŭ];lia
 .
  have aO:i=L a:=aL;subst aO;rw[zE,Qn]at o;exists h,_,D,.inl<|aN.of f.ly.at_;rw[bP];refine nU (λa1=>?_) λa1=>?_
  .have C:lit.isEmpty=Τ:=by
    grind
   refine⟨.inl ⟨D,_,aN.of f.lx.at_⟩,_,D,λd S z a2 a3=>?_⟩;obtain⟨W,a4,an,a5,q⟩:=f.flush z a2 a3;refine⟨j,_,_,D,D,q.at_,?_,?_⟩
   .rw[Ε,ae];exact cK aL
   have bn:=q.put (u:=.Y<|e.map V.ref++[V.ref d]);have bo:av W<|T W j<|.Y<|e.map V.ref++[V.ref d]:=aq bn.out;refine a7 (θ++[.lit lit]) ?_ _ _ j ((a4.write (u:=.Y<|e.map V.ref++[V.ref d]) q f.hx).stay bn f.hx) ⟨e++[d],aN.of ?_,Paired.app (Paired.cj (λ_ _ b=>(b.same an).same bo) f.OS)<|.cons (show cI K A _ d (.lit lit) from Bl.same a5 bo) .nil⟩
   .rw[o];unfold uT;simp_all
   .rw[af,Ý];rfl
  .have C:lit=[]:=by simp_all
   subst C;exact a7 θ (by rw[o];rfl) _ _ j (f.ex.stay f.lx f.hx) ⟨e,aN.of af,Paired.cj (λ_ _ b=>b.same<|aq f.lx.out) f.OS⟩
section
variable{tt:TT}{Q:VK}
def Ks(l:J Ν)(v:Ν->V)(p:Ν->ě)(ς:Ν->V)(A:aN K ο a<|l.map v)(I:L l<=sizeLine)
  (C:∀x∈l,∀Θ (j:ě->Hp->Prop),av ο Θ->j (p x) Θ->tt ((cE σ [i]).set i<|B<|v x) Θ j)
  (E:∀x∈l,p x=U->∀Θ (j:VK),av ο Θ->(∀f,av Θ f->j (ς x) f)->Â ((cE σ [i]).set i<|B<|v x) Θ j)
  (F:∀d Θ,ο d=g->av ο Θ->Θ d=B (.Y<|(l.filter p).map ς)->Q (.ref d) Θ):
  ∀d,ο d=g->∃o:M->M->Hp->Prop,(∃m,o 0 m<|T ο d<|.Y [])/\∀n m H,o n m H->
   ((xW K a).stop n H/\Q (.ref d) H)\/((xW K a).go n H/\∃q:Hp->Prop,(∀R,q R->∃t,t<m/\o (n+1) t R)/\∀x R,(xW K a).HW n H x R->c8 i x (cE σ [i]) R λr Θ=>cE r [i]=cE σ [i]/\tt r Θ λb f=> if b then Â r f λy u=>∃acc,u d=B (.Y acc)/\L acc<sizeLine/\q (T u d<|.Y<|acc++[y]) else q f):=by
 intro d s;refine zH (λn H=>av ο H/\H d=B (.Y<|((l.take n).filter p).map ς)) ⟨aq s,af⟩ (λn H _ e=>av.seq e.1 A) (λn x H w e=>?_) λH e=>?_
 .rw[Ë]at w;obtain⟨y,k,rfl⟩:=Ü.mp w;have N:=(Ð.mp k).1;have h:l.take (n+1)=l.take n++[y]:=by rw[Ĝ,k];rfl
  refine⟨HU σ i _,C y (υ k) H _ e.1 ?_⟩;refine gC (λz=>?_) λz=>?_
  .refine E y (υ k) z H _ e.1 λf s3=>⟨_,s3 _ _ e.2,?_,λb G h=>?_,?_⟩
   .grind
   .rw[au<|ao h s];exact s3 _ _<|e.1 b G h
   simp_all[af,jB,iC,à,Ci,Ý]
  simp_all
 .have h:=e.2;rw[Ε,č]at h;exact F d H s e.1 h
end
def ZQ:aB ["row","pieces"] ["row"]<|ay<|bU 44:=by decide+kernel
inductive I7(K:Ζ)(A:Ad)(vs:J V)(H:Hp)(Q:VK)(b:XK):Prop
 |mk(G a t:_)(_:vs=[.ref a])(_:av G H)(_:Tx K G a t)(_:L t<=30000)(_:(wL t=g->∀R,av H R->Q .b_ R))(_:∀l,wL t=B l->∀Κ R x,Ex G H Κ R->mW K A Κ x l->Q (.ref x) R)
theorem Vq:xJ ("@else":S)=Jr:=by decide+kernel
theorem abc:xJ ("@fi":S)=OI:=by decide+kernel
theorem aae:xJ ("@if ":S)=EW:=by decide+kernel
def CO(e:Wk K η A):Kn P w K η Ξ c9 8 "parse_line" ["row"]<|I7 K A:=by
 have t:=e.md;refine e.kn 17 ZQ λak aM O aO f al=>?_;obtain⟨am,m,a,rfl,l,r,Q,an,u⟩:=al;have b:=DN a;refine⟨_,ah (aJ (aF (ow f.units) (pv 0) (aR (vj e) f D aG<|aa rR aj)<|aK _) (ai<|aA<|gR (kr e) f D<|aa (aW t.F5)<|aa (mO aj) aj) aD)<|ah (aJ (aF (ow f.units) (pv 0) (aR (vj e) f D aG<|aa rR aj)<|aK _) (ai<|aA<|gR (kr e) f D<|aa (aW t.GL)<|aa (mO aj) aj) aD)<|ah (aJ (PW.pt<|w_ (bQ<|aR (oW e) f D aG<|aa (pv 0)<|aa rR aj)<|vY<|bQ<|aR (g_ e) f D aG<|aa (bF bZ (pv 0) (bD az) dz) aj) (ai<|aA<|gR (kr e) f D<|aa (aW t.QV)<|aa (iO t.iV<|bF bZ (pv 0) (bD az) dz) aj) aD)<|ah (aH 1 ZQ<|aR (zw e) f D aG<|aa (pv 0) aj)<|ah (aJ (fy<|oz<|pv 1) (ai<|aA f9) aD)<|ai<|aA<|gR (Ih e) f D<|aa (pv 1) aj,?_⟩
 refine⟨"@else",D,by decide+kernel,λao aP aQ s1 R=>?_⟩;rw[Fc<|by decide+kernel,Vq]at R;refine⟨m,ao,a,Jr,D,D,(r.same l).same s1,aN.of R,nU (λz=>?_) λz=>?_⟩
 .rw[à z]at b;refine⟨Ò _,λd s=>⟨_,D,λn p h i j=>?_⟩⟩;have k:=((Ex.refl l).more s1).made (o:=.bO []) s;exact u .otherwise b _ _ n (k.inst (C:=A.cond) (fs:=[("kind",.int 2),("setting",.ref d)]) h i j) ⟨p,d,2,[],D,af,(cN (C:=A.cond) (fs:=[("kind",.int 2),("setting",.ref d)]) (av.free k.sub h) (av.free k.sub i) j) _ _ af⟩
 rw[Ó z]at b;refine⟨"@fi",D,by decide+kernel,λap aS aT s2 S=>?_⟩;rw[Fc<|by decide+kernel,abc]at S;have v:=s1.trans s2;refine⟨m,ap,a,OI,D,D,(r.same l).same v,aN.of S,nU (λE=>?_) λE=>?_⟩
 .rw[à E]at b;refine⟨Ò _,λd s=>⟨_,D,λn p h i j=>?_⟩⟩;have k:=((Ex.refl l).more v).made (o:=.bO []) s;exact u .done b _ _ n (k.inst (C:=A.cond) (fs:=[("kind",.int 3),("setting",.ref d)]) h i j) ⟨p,d,3,[],D,af,(cN (C:=A.cond) (fs:=[("kind",.int 3),("setting",.ref d)]) (av.free k.sub h) (av.free k.sub i) j) _ _ af⟩
 rw[Ó E]at b;have V:∀q,av ak q->wL a=(g5 a).map .code->
   qM (Hj (xZ (tU K A) [] E0<|bg (aV 0) cB)<|c8 1) (qM (Lm (tB<|ZK<|aV 1) (tF<|tC .b_) HM)<|tF<|QA A.code (f1 "pieces")<|bg (aV 1) cB)
    {nx:=λ_ x=>O .b_ x,rt:=O} [B<|.ref m,g] q:=by
  intro q s3 W;refine⟨am,m,a,D,l.trans s3,r,Q,λar x au=>?_,λaw ax aU x F ay aB=>?_⟩
  .refine(bS ?_);exact an (by rw[W,ar];rfl) x<|s3.trans au
  .refine(dJ ?_);refine⟨_,D,λn p h i j=>?_⟩;have k:=(Ex.heap l s3).trans ay;exact u (.code aw) (by rw[W,ax];rfl) _ _ n (k.inst (C:=A.code) (fs:=[("pieces",.ref F)]) h i j) ⟨p,F,af,aB.same<|cN (C:=A.code) (fs:=[("pieces",.ref F)]) (av.free k.sub h) (av.free k.sub i) j⟩
 refine⟨m,a,"@if ",D,(r.same l).same v,Q,by decide+kernel,by decide+kernel,λq s3=>(?_)⟩;rw[aae];have G:=v.trans s3;refine gC (λH=>?_) λH=>?_
 .refine⟨m,_,D,(r.same l).same G,λd s=>?_⟩;have X:br (tV a) (B 4) g=tV (a.drop 4):=by have Y:=o9 (tV a) 4;rw[kW]at Y;exact Y
  have s4:=aq (o:=.Y<|br (tV a) (B 4) g) s;have Z:Tx K (T q d<|.Y<|br (tV a) (B 4) g) d<|a.drop 4:=aN.of<|af.trans<|Ğ (λI=>B<|HO.Y I) X;generalize T q d (.Y<|br (tV a) (B 4) g)=aX at s4 Z;refine⟨d,_,D,Z,by rw[Ϸ];omega,λJ aC=>(?_)⟩;have L:=G.trans<|s4.trans aC;rw[H,Ϟ]at b;refine gC (λab=>?_) λab=>?_
  .rw[à ab]at b;refine⟨m,_,D,(r.same l).same L,λy aE=>?_⟩;have ad:=aq (o:=.Y<|br (tV a) (B 4) g) aE;have ae:Tx K (T J y<|.Y<|br (tV a) (B 4) g) y<|a.drop 4:=aN.of<|af.trans<|Ğ (λI=>B<|HO.Y I) X;have ag:=((Ex.refl l).more L).more ad;generalize T J y (.Y<|br (tV a) (B 4) g)=aY at ad ae ag;refine⟨y,_,D,.inl ⟨ae,λM aI=>⟨_,D,λn p h i j=>?_⟩⟩⟩;have N:=ag.made (o:=.bO<|tV<|a.drop 4) aI;exact u (.when<|a.drop 4) b _ _ n (N.inst (C:=A.cond) (fs:=[("kind",.int 1),("setting",.ref M)]) h i j) ⟨p,M,1,a.drop 4,D,af,Nm.of<|(cN (C:=A.cond) (fs:=[("kind",.int 1),("setting",.ref M)]) (av.free N.sub h) (av.free N.sub i) j) _ _ af⟩
  .rw[Ó aL]at b;exact V J L b
 .rw[H,Ϫ,Ó bM]at b;refine dJ ?_;exact V q G b
def Wi:aB ["pieces","piece"] ["pieces"]<|ay<|bU 49:=by decide+kernel
theorem Paired.zip{Ν b:Type}{e:Ν->b->Prop}:∀{l:J Ν} {m:J b},ď e l m->∃Ô:J<|Ν×b,l=Ô.map (·.1)/\m=Ô.map (·.2)/\∀a∈Ô,e a.1 a.2
 |_,_,.nil=>⟨[],D,D,(λa d=>(nomatch d))⟩
 |_,_,.cons (a:=f) (b:=h) o i=>by
  obtain⟨Ô,j,k,d⟩:=Paired.zip i;refine⟨(f,h)::Ô,by rw[j];rfl,by rw[k];rfl,λa n=>?_⟩;rcases ç.mp n with q|q
  .rwa [q]
  .exact d a q
noncomputable def EG:Ť->ě
 |.use _ _=>U
 |_=>Τ
noncomputable def Xi:Ť->ě
 |.lit _=>U
 |_=>Τ
noncomputable def uU:Ť->ě
 |.param _=>U
 |_=>Τ
def Kl.rE(k:Kl K η A){a:O}{p:Ť}(h:cI K A H a p):∃t,qp K H (.ref a) t/\Ģ K t (.ref A.use)=B (EG p):=by
 cases p with
 |lit t=>obtain⟨d,f,b,_⟩:=h;exact⟨_,k.lit.ty b,k.lu⟩
 |use e i=>obtain⟨d,p,j,b,_⟩:=h;exact⟨_,k.use.ty b,k.uu⟩
 |param e=>obtain⟨d,p,b,_⟩:=h;exact⟨_,k.par.ty b,k.pu⟩
def Kl.Hg(k:Kl K η A){a:O}{p:Ť}(h:cI K A H a p):∃t,qp K H (.ref a) t/\Ģ K t (.ref A.lit)=B (Xi p):=by
 cases p with
 |lit t=>obtain⟨d,f,b,_⟩:=h;exact⟨_,k.lit.ty b,k.ll⟩
 |use e i=>obtain⟨d,p,j,b,_⟩:=h;exact⟨_,k.use.ty b,k.ul⟩
 |param e=>obtain⟨d,p,b,_⟩:=h;exact⟨_,k.par.ty b,k.pl⟩
def Kl.Bk(k:Kl K η A){a:O}{p:Ť}(h:cI K A H a p):∃t,qp K H (.ref a) t/\Ģ K t (.ref A.par)=B (uU p):=by
 cases p with
 |lit t=>obtain⟨d,f,b,_⟩:=h;exact⟨_,k.lit.ty b,k.lp⟩
 |use e i=>obtain⟨d,p,j,b,_⟩:=h;exact⟨_,k.use.ty b,k.up⟩
 |param e=>obtain⟨d,p,b,_⟩:=h;exact⟨_,k.par.ty b,k.pp⟩
noncomputable def lS:oO->ě
 |.code _=>U
 |_=>Τ
def Kl.o_(k:Kl K η A){a:O}{l:oO}(h:mW K A H a l):∃t,qp K H (.ref a) t/\Ģ K t (.ref A.code)=B (lS l):=by
 cases l with
 |code f=>obtain⟨d,l,b,_⟩:=h;exact⟨_,k.code.ty b,k.cc⟩
 |when i=>obtain⟨d,e,_,_,_,b,_⟩:=h;exact⟨_,k.cond.ty b,k.dc⟩
 |otherwise=>obtain⟨d,e,_,_,_,b,_⟩:=h;exact⟨_,k.cond.ty b,k.dc⟩
 |done=>obtain⟨d,e,_,_,_,b,_⟩:=h;exact⟨_,k.cond.ty b,k.dc⟩
def Kl.NF(k:Kl K η A){a:O}{l:oO}(h:mW K A H a l):∃t,qp K H (.ref a) t/\Ģ K t (.ref A.cond)=B (!lS l):=by
 cases l with
 |code f=>obtain⟨d,l,b,_⟩:=h;exact⟨_,k.code.ty b,k.cd⟩
 |when i=>obtain⟨d,e,_,_,_,b,_⟩:=h;exact⟨_,k.cond.ty b,k.dd⟩
 |otherwise=>obtain⟨d,e,_,_,_,b,_⟩:=h;exact⟨_,k.cond.ty b,k.dd⟩
 |done=>obtain⟨d,e,_,_,_,b,_⟩:=h;exact⟨_,k.cond.ty b,k.dd⟩
theorem MD{G:Hp}:∀{as:J O} {θ:J Ť},ď (cI K A G) as θ->∃Ô:J<|O×Ť×O,as=Ô.map (·.1)/\θ=Ô.map (·.2.1)/\(∀a∈Ô,cI K A G a.1 a.2.1)/\
  (∀a∈Ô,EG a.2.1=U->∃ξ l,G a.1=B (.aE A.use ξ [("name",.ref a.2.2),("arguments",.ref l)]))/\ď (Nm G) ((Ô.filter λa=>EG a.2.1).map λa=>a.2.2) (ŷ θ)
 |_,_,.nil=>⟨[],D,D,(λa f=>(nomatch f)),(λa f=>(nomatch f)),.nil⟩
 |_,_,.cons (a:=h) (b:=p) q r=>by
  obtain⟨Ô,i,j,k,m,n⟩:=MD r;cases p with
  |use s t=>
   obtain⟨ξ,u,l,g1,g2,g3⟩:=id q;refine⟨(h,.use s t,u)::Ô,by rw[i];rfl,by rw[j];rfl,λa b=>?_,λa b e=>?_,?_⟩
   .rcases ç.mp b with d|b
    .rwa [d]
    .exact k a b
   .rcases ç.mp b with d|b
    .rw[d];exact⟨ξ,l,g1⟩
    .exact m a b e
   .exact .cons g2 n
  |lit o=>
   refine⟨(h,.lit o,0)::Ô,by rw[i];rfl,by rw[j];rfl,λa b=>?_,λa b e=>?_,?_⟩
   .rcases ç.mp b with d|b
    .rwa [d]
    .exact k a b
   .rcases ç.mp b with d|b
    .rw[d]at e;cases e
    .exact m a b e
   .exact n
  |param o=>
   refine⟨(h,.param o,0)::Ô,by rw[i];rfl,by rw[j];rfl,λa b=>?_,λa b e=>?_,?_⟩
   .rcases ç.mp b with d|b
    .rwa [d]
    .exact k a b
   .rcases ç.mp b with d|b
    .rw[d]at e;cases e
    .exact m a b e
   .exact n
inductive yx(K:Ζ)(A:Ad)(vs:J V)(H:Hp)(Q:VK)(b:XK):Prop
 |mk(G l θ:_)(_:vs=[.ref l])(_:av G H)(_:jF K A G l θ)(_:L θ<=30000)(_:∀D R a,H D=g->av H R->R D=B (.Y<|a.map V.ref)->ď (Nm G) a (ŷ θ)->Q (.ref D) R)
def ue(b:Wk K η A):Kn P w K η Ξ c9 1 "names_used" ["pieces"]<|yx K A:=by
 refine b.kn 22 Wi λn J M N O o=>?_;refine bx λQ p=>?_;obtain⟨R,j,S,rfl,e,⟨T,q,k⟩,l,r⟩:=o;obtain⟨f,s,t,u,v,x⟩:=MD k;apply p;have m:aN K n j<|f.map λa=>V.ref a.1:=by have:=av.seq e q;rw[s,Ħ]at this;exact this
 have X:L f<=30000:=by rw[t,Ε]at l;exact l
 refine⟨_,ai<|aA<|gV (tt:=tB<|Ek (Eb K)<|bg (aV 1)<|bg (tC<|.ref A.use) cB) (Â:=i9 K (aV 1) "name") D Wi.nd (bu<|pv 0) (bL (own:=[("piece",1)])<|by kernel_rfl) (λ_ _ _ _ _=>bC 1 Wi) (λ_ _ _ _ _=>vt<|bQ<|f_ b.md.bH (pv 1) b.kl.use.mg) λ_ _ _ _ _=>W (pv 1) D,?_⟩
 exists j,D,⟨_,m⟩;refine Ks f (λa=>V.ref a.1) (λa=>EG a.2.1) (λa=>V.ref a.2.2) m (š<|cK aL) (λa h d y s2 i=>?_) (λa h z d y s2 i=>?_) λC d E s2 k=>r C d _ E s2 ?_ x
 .obtain⟨F,G,H⟩:=b.kl.rE<|(u a h).same<|e.trans s2;exact⟨_,_,F,_,D,G,H,i⟩
 .obtain⟨Y,Z,I⟩:=v a h z;exact⟨D,(e.trans s2) _ _ I,b.kl.use.fo,Zi,i d<|av.refl _⟩
 .rwa [Ħ]
def VH:aB ["pieces","sign"] ["pieces"]<|ay<|bU 50:=by decide+kernel
inductive Sz(K:Ζ)(A:Ad)(vs:J V)(H:Hp)(Q:VK)(a:XK):Prop
 |mk(l θ:_)(_:vs=[.ref l])(_:jF K A H l θ)(_:L θ<=30000)(_:(∀t,Ť.lit t∈θ->L t<=30000))(_:∀R,av H R->Q (.bl (oG θ).isSome) R)
def Hz(v:Wk K η A):Kn P w K η Ξ c9 1 "is_alone_with_use" ["pieces"]<|Sz K A:=by
 have l:=v.md;have m:=v.kl;refine v.kn 23 VH λn T X Y Z H=>?_;obtain⟨q,i,rfl,⟨F,r,x⟩,aa,I,u⟩:=H;have G:=Paired.len x;refine⟨_,ah (aJ (aF ee (aQ l.a_<|pv 0) az<|aK _) (ai<|aA<|f_ l.bH (aY aM (pv 0) az λ_ _=>D) m.use.mg) aD)<|ah (aJ (PW.pt<|lz (aF I1 (aQ l.a_<|pv 0) az<|aK _)<|iu<|cG<|bQ<|f_ l.bH (aY aM (pv 0) az λ_ _=>D) m.use.mg) (ai<|aA lg) aD)<|ai<|aA<|An (f_ l.bH (aY aM (pv 0) az λ_ _=>D) m.lit.mg)<|p9<|lQ D l.qF<|gV D VH.nd (bu<|W (aY aM (pv 0) az λ_ _=>D) D) (bL (own:=[("sign",1)])<|by kernel_rfl) (λ_ _ _ _ _=>bC 1 VH) (λ_ _ _ _ _=>cY) λ_ _ _ _ _=>l9 ee (pv 1) (aW l.sN)<|aK _,?_⟩
 refine⟨q,_,D,.inl r,D,?_⟩;rw[cz,Ε,G];refine gC (λo=>?_) λo=>?_
 .obtain⟨b,rfl⟩:=List.length_eq_one_iff.mp (aL:L i=1);obtain⟨f,rfl,p⟩:∃f,F=[f]/\cI K A n f b:=by
   cases x with
   |cons p j=>simp_all
  .obtain⟨j,y,z⟩:=m.rE p;refine⟨q,_,_,V.ref f,D,D,r,D,_,_,j,_,D,y,z,?_⟩;have:=u n<|av.refl _;cases b with
   |lit _=>exact this
   |use _ _=>exact this
   |param _=>exact this
 .have o:L i≠1:=λa=>by rw[a]at o;exact absurd o bM
  refine⟨q,_,D,.inl r,D,?_⟩;rw[cz,Ε,G];refine gC (λd=>?_) λd=>?_
  .have d:L i≠2:=λa=>by rw[a]at d;exact absurd d bM
   refine bS ?_;have:=u n<|av.refl _;have C:oG i=g:=by
    match i,o,d with
    |[],_,_=>rfl
    |[_],o,_=>exact absurd D o
    |[_,_],_,d=>exact absurd D d
    |b::a::ab::ad,_,_=>cases b<;>cases a<;>rfl
   rw[C]at this;exact this
  .have d:L i=2:=by lia
   obtain⟨b,a,rfl⟩:∃b a,i=[b,a]:=by
    match i,d with
    |[b,a],_=>exact⟨b,a,D⟩
   obtain⟨f,e,rfl,p,E⟩:∃f e,F=[f,e]/\cI K A n f b/\cI K A n e a:=by
    cases x with
    |cons p j=>
     cases j with
     |cons E j=>cases j;exact⟨_,_,D,p,E⟩
   .obtain⟨j,y,z⟩:=m.rE E;refine⟨q,_,_,V.ref e,D,D,r,D,_,_,j,_,D,y,z,?_⟩;refine gC (λk=>?_) λk=>?_
    .have k:EG a=Τ:=by simpa using k
     have:=u n<|av.refl _;cases a with
     |use _ _=>cases k
     |lit _=>cases b<;>exact this
     |param _=>cases b<;>exact this
    .have k:EG a=U:=by simpa using k
     obtain⟨s,t,rfl⟩:∃s t,a=.use s t:=by
      cases a with
      |use s t=>exact⟨s,t,D⟩
      |lit _=>cases k
      |param _=>cases k
     obtain⟨J,M,N⟩:=m.Hg p;refine⟨q,_,_,V.ref f,D,D,r,D,_,_,J,_,D,M,N,Am (λd=>?_) λd=>?_⟩
     .obtain⟨h,rfl⟩:∃h,b=.lit h:=by
       cases b with
       |lit h=>exact⟨h,D⟩
       |use _ _=>cases d
       |param _=>cases d
      obtain⟨ae,sg,g1,g2⟩:=p;refine⟨q,_,_,V.ref f,D,D,r,D,D,g1,m.lit.fo,Zi,sg,D,⟨_,g2⟩,?_⟩;have af:=I h bh;refine r9 h bV (λe=>e==32) g2 (š<|cK aL) (λe _ O ag s2 Q=>⟨D,?_⟩) λR S=>?_
      .have:=Q O<|av.refl _;rw[<-D9]at this;exact this
      .have:=u R S;have C:(oG [.lit h,.use s t]).isSome=h.all λe=>e==32:=by
        show(if h.all (λe=>e==32) then B (⟨h,1,s,t⟩:GB) else g).isSome=_
        grind
       rw[C]at this;exact this
     .have:=u n<|av.refl _;cases b with
      |lit _=>cases d
      |use _ _=>exact this
      |param _=>exact this
section
open Builtin Builtin.ObjectAttr
structure OC(h:ό)(C Δ:O)(Ī:S->É z):Prop where
 ob:∃nm q å a sub b d dd e f i j k,h.get? C=B (excClassObj nm q C Δ å U8 U a sub b d dd e f i j k "Exception.__new__")
 ns:h.Ns Δ Ī
def Uk{Δ:O}{m:S->É z}{n:S}(X:K.In h)(G:h.Ns Δ m)(e:϶ K Δ n=B (B v)):m n=B v:=by
 obtain⟨k,l,o,b,d,_,f⟩:=G;unfold ϶ at e;split at e
 .rename_i i;have a:=X _ _ i;rw[b]at a;cases a;cases d;split at e
  .rename_i p j;cases e;rw[<-f];unfold nsFind findBy;rw[<-MT,j];rfl
  lia
 .cases e
def Xc.cl{x:S}{Δ Ķ:O}{fs:J S}(X:Xc K η x C Δ Ķ fs)(k:K.In h):OC h C Δ<|h.nsMap Δ:=by obtain⟨a,b,d,e,f,i,j,l,m,n,o,p,q,r⟩:=X.ob;exact⟨⟨a,b,d,e,f,i,j,l,m,n,o,p,q,k _ _ r⟩,.of_isNs<|JM k X.ns⟩
theorem Xc.none{x:S}{Δ Ķ:O}{fs:J S}(X:Xc K η x C Δ Ķ fs)(k:K.In h){f:S}(a:f∈RD fs):h.nsMap Δ f=g:=
 PySem.W.nsMap_none_of_in k X.ns (X.no f a)
theorem Xc.some{x:S}{Δ Ķ:O}{fs:J S}(X:Xc K η x C Δ Ķ fs)(k:K.In h):h.nsMap Δ "__init__"=B (.ref Ķ):=by exact Uk k (.of_isNs<|JM k X.ns) X.init
section
variable{A:ź}{ς:ŕ sY}{d:Drawn}{t:M}{os:j6}{Δ:O}{f:S}
def Oi{tk:Xy}{Q:Fin->Í->Prop}(X:OC h C Δ Ī)(e:Ī f=g)(i:dR (.type "Exception") f=pure g)(Ο:h.get? p=B o)(j:o.cls=.ref C)
  (k:ô (ă prog w) A (ux p U>>=λr=>match r with|some ξ=>Gi ξ (.str f tk) f v|none=>OL (.ref p) (.ref C) f Τ) Q E ⟨h,ς,d,t,os⟩):
  ô (ă prog w) A (qU.«object.__setattr__» ⟨[.ref p,.str f tk,v],[]⟩) Q E ⟨h,ς,d,t,os⟩:=by
 refine bx λm l=>?_;obtain⟨n,q,s,u,x,y,z,F,G,H,I,J,K,a⟩:=X.ob;apply l;rw[PySem.W.osa_eq,refuse_eq];have b:tT (ă prog w) h (O2<|.ref p)<|.ref C:=j▸(mF Ο).andThen .now;refine Λ<|Λ<|b.at (Λ<|wpAny_mroOf_exc a ?_);rw[refuseLoop_ref,cX.passes<|.ref p];refine Ê<|Λ<|b.at (Λ<|i8 a X.ns cX.mro i ?_);rw[e];refine Λ<|Ê ?_;refine Λ<|Ê ?_;exact k
def QJ{tk:Xy}{b é:jC}(a:StoreFacts "Exception" U8 b é)(X:OC h C Δ Ī)(k:Ī f=g)(l:dR (.type "Exception") f=pure g)(Ο:h.get? p=B o)(i:o.cls=.ref C)
  (m:ô (ă prog w) A.in1 (ux p U>>=λr=>match r with|some ξ=>Gi ξ (.str f tk) f v|none=>OL (.ref p) (.ref C) f Τ) (λjk s'=>match jk with|.done f=>Χ (.ok f) s'|.again j=>j.quiet=U/\j4 (ă prog w) A j Χ s') (λe s'=>Χ (.error e) s') ⟨h,ς,d,t,os⟩):
  j4 (ă prog w) A (.call (.builtin b) ⟨[.ref p,.str f tk,v],[]⟩) Χ ⟨h,ς,d,t,os⟩:=by
 refine bx λs n=>?_;obtain⟨u,x,y,z,E,F,G,H,I,J,K,L,M,q⟩:=id X.ob;apply n;exact nF a.slot.plain a.entry<|wpAny_check_sa a q Ο i<|Oi X k l Ο i m
def Z2{i é:jC}(a:StoreFacts "Exception" U8 i é)(X:OC h C Δ Ī)(j:Ī "__setattr__"=g)(k:Ī f=g)(l:dR (.type "Exception") f=pure g)(Ο:h.get? p=B o)(e:o.cls=.ref C)
  (m:ô (ă prog w) A.in1 (ux p U>>=λr=>match r with|some ξ=>Gi ξ (.str f t) f v|none=>OL (.ref p) (.ref C) f Τ) (λjk s'=>match jk with|.done (.ret _)=>Q () s'|_=>Ϡ) E ⟨h,ς,d,t+1,os⟩):
  ô (ă prog w) A (xN (.ref p) f v) Q E ⟨h,ς,d,t,os⟩:=by
 refine bx λu n=>?_;obtain⟨x,y,z,F,G,H,I,J,K,L,M,N,O,q⟩:=id X.ob;apply n;refine Λ<|wpAny_mkText<|Λ<|Λ<|Λ<|(e▸(mF Ο).andThen .now:tT (ă prog w) h (O2<|.ref p)<|.ref C) _ _ _ _ (λ_ _ s=>s)<|i8 q X.ns a.mro a.slot.lookup ?_;rw[j];refine Ũ ?_;rw[a.slot.bind];refine Λ<|Ê<|Λ<|mC<|QJ a X k l Ο e<|Ż m (λjk s' b=>?_) λ_ _ b=>b;rcases jk with(P|_|_|_)|_<;>first|exact b.elim|exact Ê<|Ê b
def xsa(X:OC h C Δ Ī)(a:Ī "__setattr__"=g)(b:Ī f=g)(e:dR (.type "Exception") f=pure g)(Ο:h.get? p=B o)(i:o.cls=.ref C)
 (j:ô (ă prog w) A.in1 (ux p U>>=λr=>match r with|some ξ=>Gi ξ (.str f t) f v|none=>OL (.ref p) (.ref C) f Τ) (λjk s'=>match jk with|.done (.ret _)=>Q () s'|_=>Ϡ) E ⟨h,ς,d,t+1,os⟩):
 ô (ă prog w) A (xN (.ref p) f v) Q E ⟨h,ς,d,t,os⟩:=Z2 cX X a b e Ο i j
def VI{o:gf}{a:ě}{Q:É O->Í->Prop}(X:OC h C Δ Ī)(Ο:h.get? p=B o)(e:o.cls=.ref C)
  (b:ô (ă prog w) A (match o.dict with
   |some d=>pure (B d)
   |none=>if !a|| !typeHasDict o.cls then pure g else match o.data with
    |.cls _=>pure g
    |_=>do let d <-alloc {cls:=.type "dict",data:=.dict #[]};update p (λo=>{o with dict:=B d});dictMade o.cls p d) Q E ⟨h,ς,d,t,os⟩):
  ô (ă prog w) A (ux p a) Q E ⟨h,ς,d,t,os⟩:=by
 refine bx λl f=>?_;obtain⟨m,n,q,r,s,u,v,x,y,z,F,G,H,i⟩:=id X.ob;obtain⟨I,j,k,J⟩:=o;apply f;subst e;refine Λ<|JC Ο<|Λ<|Λ<|wpAny_load i<|Ê ?_;cases j with
 |some K=>exact b
 |none=>cases a<;>cases k<;>exact b
def PF(X:OC h C Δ Ī)(m:Ī "__setattr__"=g)(n:Ī f=g)(q:dR (.type "Exception") f=pure g)(Ο:h.get? p=B o)(a:o.cls=.ref C)
  (r:o.dict=g) (s:o.data=.fields vs)
  (u:∀h' x,(∀b ob,b≠p->h.get? b=B ob->h'.get? b=B ob)->h'.get? p=B {o with dict:=B h.objs.size}->h'.Ns1 h.objs.size (λy=>if y=f then B v else g)->Q () ⟨h',ς,d,x,os⟩):
  ô (ă prog w) A (xN (.ref p) f v) Q E ⟨h,ς,d,t,os⟩:=by
 refine xsa X m n q Ο a<|Λ<|VI X Ο a ?_;obtain⟨M,N,O,z⟩:=o;subst a r s;have i:=ė<|û Ο;have j:(h.push {cls:=.type "dict",data:=.dict #[]}).get? p=B {cls:=.ref C,dict:=g,data:=.fields vs,slots:=z}:=ß _ Ο;refine Λ<|wpAny_alloc'<|Λ<|wpAny_update' j<|Ê ?_;have F:((h.push {cls:=.type "dict",data:=.dict #[]}).update p λo=>{o with dict:=B h.objs.size}).get? h.objs.size=B {cls:=.type "dict",data:=.dict #[]}:=
  (iR _ _ _ _ i.symm).trans (Heap.get?_push_at D D)
 refine Λ<|Ê<|Λ<|OZ (JD ⟨_,#[],_,F,D,λe G=>absurd G bh,λ_=>D⟩) λh' k l=>?_;refine bx λP H=>?_;obtain⟨R,S,T,I,J,K⟩:=k.count<|Ca f v Within.nil;apply H;refine Λ (EJ I (J▸EK (Ć K<|by simp))<|Ê ?_);refine u h' _ (λb ob L e=>?_) ?_ k
 .exact(l.2 b<|ė<|û e).trans<|(iR _ _ _ _ L).trans<|ß _ e
 .exact(l.2 p i).trans<|Ū _ j D
def aav{ns:J S}(X:OC h C Δ Ī)(e:Ī "__setattr__"=g)(i:Ī f=g)(j:dR (.type "Exception") f=pure g)(Ο:h.get? p=B o)(a:o.cls=.ref C)
  (k:o.dict=B ξ) (l:h.Ns1 ξ Č) (m:vc Č ns) (F:L ns<=1000)
  (n:∀h' q,ϡ ξ h h'->h'.Ns1 ξ (λy=>if y=f then B v else Č y)->Q () ⟨h',ς,d,q,os⟩):
  ô (ă prog w) A (xN (.ref p) f v) Q E ⟨h,ς,d,t,os⟩:=by
 refine xsa X e i j Ο a<|Λ<|VI X Ο a ?_;rw[k];refine Ê<|Λ<|Ê<|Λ<|OZ l λh' b r=>?_;refine bx λG s=>?_;obtain⟨H,I,K,u,x,z⟩:=b.count<|Ca f v m;apply s;refine Λ (EJ u (x▸EK (Ć z (by rw[Ñ,Î];lia)))<|Ê ?_);exact n h' _ r b
def KU{tk:Xy}{Q:Fin->Í->Prop}(X:OC h C Δ Ī)(e:Ī f=g)(i:dR (.type "Exception") f=pure g)(Ο:h.get? p=B o)(b:o.cls=.ref C)
  (j:o.dict=B ξ) (a:∃vs,o.data=.fields vs) (k:h.Ns1 ξ Č) (l:Č f=B v) (m:Q (.done<|.ret v) ⟨h,ς,d,t,os⟩):
  ô (ă prog w) A (qU.«object.__getattribute__» ⟨[.ref p,.str f tk],[]⟩) Q E ⟨h,ς,d,t,os⟩:=by
 refine bx λs n=>?_;obtain⟨u,x,y,z,F,G,H,I,J,K,L,M,N,q⟩:=id X.ob;have r:tT (ă prog w) h (O2<|.ref p)<|.ref C:=b▸(mF Ο).andThen .now;obtain⟨vs,a⟩:=a;obtain⟨O,P,R,S⟩:=o;apply n;subst b j a;refine Λ<|Ê<|Λ<|Ê<|Λ<|r.at (Λ ?_);refine Λ<|i8 q X.ns cX.mro i ?_;rw[e];refine Λ<|Ê<|Λ<|Ê<|Λ<|Λ<|Λ<|JC Ο ?_;refine VI X Ο D<|Ê ?_;refine wpAny_nsGet k.ns ?_;rw[l];exact Λ<|z8<|Ê<|Ê m
def NH{tk:Xy}(X:OC h C Δ Ī)(b:Ī f=g)(e:dR (.type "Exception") f=pure g)(Ο:h.get? p=B o)(a:o.cls=.ref C)
  (i:o.dict=B ξ) (j:∃vs,o.data=.fields vs) (k:h.Ns1 ξ Č) (l:Č f=B v) (m:Χ (.ok<|.ret v) ⟨h,ς,d,t,os⟩):
  j4 (ă prog w) A (.call (.builtin "BaseException.__getattribute__") ⟨[.ref p,.str f tk],[]⟩) Χ ⟨h,ς,d,t,os⟩:=by
 refine bx λr n=>?_;obtain⟨s,u,x,y,z,E,F,G,H,I,J,K,L,q⟩:=id X.ob;apply n;exact nF dS.ga.plain PySem.F.entry_bexc_ga<|wpAny_check_ga_own dS q .base Ο a<|KU X b e Ο a i j k l m
def aaB{a:ě}{Q:z->Í->Prop}(X:OC h C Δ Ī)(i:Ī "__getattribute__"=g)(hk:Ī "__getattr__"=g)(j:Ī f=g)(k:dR (.type "Exception") f=pure g)(Ο:h.get? p=B o)(b:o.cls=.ref C)
  (l:o.dict=B ξ) (m:∃vs,o.data=.fields vs) (n:h.Ns1 ξ Č) (q:Č f=B v) (r:handedOut v=pure v) (s:Q v ⟨h,ς,d,t+1,os⟩):
  ô (ă prog w) A (Jh (.ref p) f a) Q E ⟨h,ς,d,t,os⟩:=by
 refine bx λy u=>?_;obtain⟨F,G,H,I,J,K,L,M,N,O,P,R,S,e⟩:=id X.ob;apply u;have x:(YF (æ C)&&u6 "BaseException.__getattribute__"==u6 "object.__getattribute__")=Τ:=by rfl
 unfold Jh getAttrBy;refine Λ<|wpAny_mkText<|Ũ<|Λ<|(b▸(mF Ο).andThen .now:tT (ă prog w) h (O2<|.ref p)<|.ref C).at (Λ<|i8 e X.ns cX.mro dS.ga.lookup ?_);rw[i];dsimp only;rw[x,Ó bM];unfold getAttrByItsOwn hookBefore;rw[à<|show YF (æ C)=U from D];refine Λ<|i8 e X.ns cX.mro dS.noGetattr ?_;rw[hk];refine Λ<|MX<|Ũ ?_;unfold callGetattribute boundAndCalled;rw[(by cases a<;>rfl:(a&&YF (u6 "BaseException.__getattribute__"))=false),Ó bM,dS.ga.bind<|.ref p];refine Λ<|Ê<|mC<|NH X j k Ο b l m n q ?_;show ô _ _ (handedOut v) _ _ _;rw[r];exact Ê s
end
end
section
open Builtin Builtin.ObjectAttr
section
variable{A:ź}{ς:ŕ sY}{d:Drawn}{t:M}{os:j6}{Δ:O}{f:S}
def SJ{e:O}{f b:jC}{Q:z->Í->Prop}(a:ExcBaseFacts "Exception" f b U8)(X:OC h C Δ Ī)(Ο:h.get? p=B o)(i:o.cls=.ref C)(j:o.data=.fields vs)(k:vs[0]?=B (.ref e))
  (l:Q .none ⟨(h.push {cls:=.type "tuple",data:=.seq #[]}).update p (fK (·.setIfInBounds 0 (.ref h.objs.size))),ς,d,t,os⟩):
  ô (ă prog w) A (jS (.builtin b) [.ref p]) Q E ⟨h,ς,d,t,os⟩:=by
 refine bx λq m=>?_;obtain⟨r,s,u,v,x,y,F,G,H,I,J,K,L,n⟩:=id X.ob;apply m;exact mC<|nF a.init.plain a.initEntry<|wpAny_check_init_subU a .base n Ο i<|PySem.W.owsi_base Ο j k l
end
noncomputable abbrev YM (t:O):Data:=.fields #[.ref t,.none,.none,.none,.bool Τ,.none]
noncomputable def XP (C p:O) (ξ:É O):HO:=.ext λh=>∃t,h.get? p=B {cls:=.ref C,dict:=ξ,data:=YM t}
noncomputable def XD (ξ:O) (fs:J<|S×V):HO:=.ext λh=>∃Č,h.Ns1 ξ Č/\(∀f,l_ (fs.lookup f)<|Č f)/\vc Č (fs.map (·.1))/\L fs<=900
theorem XP.ok{t:O}{ξ:É O}(e:h.get? p=B {cls:=.ref C,dict:=ξ,data:=YM t}):cL P w H h p<|XP C p ξ:=
 ⟨⟨t,e⟩,⟨_,e⟩,λ_ _ ⟨t,e⟩ a=>⟨t,a _ e⟩⟩
theorem XD.ok{fs:J<|S×V}(e:h.Ns1 ξ Č)(r:∀f,l_ (fs.lookup f)<|Č f)(a:vc Č (fs.map (·.1)))(l:L fs<=900):cL P w H h ξ<|XD ξ fs:=
 ⟨⟨Č,e,r,a,l⟩,let⟨b,_,_,d,_⟩:=e;⟨b,d⟩,λ_ _ ⟨i,e,r⟩ j=>⟨i,e.at j,r⟩⟩
def Xn(K:Ζ)(η:S->É z)(Â:TE):TE:=λσ H Q=>Â σ H λx ο=>∃p C Δ Ķ Ÿ fs,x=.ref p/\ο p=B (XP C p g)/\Xc K η Ÿ C Δ Ķ fs/\Q .b_ ο
def ZM(K:Ζ)(η:S->É z)(È ň:TE)(f:S):TS:=λa σ H=>ň σ H λy ο=>È σ ο λx Θ=>∃p C Δ Ķ Ÿ fs,x=.ref p/\Θ p=B (XP C p g)/\Xc K η Ÿ C Δ Ķ fs/\f∈fs/\
 ∀ξ,Θ ξ=g->ξ≠p->a.nx σ (T (T Θ p<|XP C p<|B ξ) ξ<|XD ξ [(f,y)])
def Zy(K:Ζ)(η:S->É z)(È ň:TE)(f:S):TS:=λa σ H=>ň σ H λy ο=>È σ ο λx Θ=>∃p C Δ Ķ Ÿ fs ξ ŝ,x=.ref p/\Θ p=B (XP C p<|B ξ)/\Θ ξ=B (XD ξ ŝ)/\Xc K η Ÿ C Δ Ķ fs/\f∈fs/\L ŝ<900/\
 a.nx σ (T Θ ξ<|XD ξ<|bf f y ŝ)
theorem Pq{o:HO}(e:H a=B o):T H a o=H:=by funext b;unfold T;simp_all
section
variable{s:Í}{Δ Ķ:O}{Ÿ f:S}{fs:J S}{A:ź}
def Fd{f:S}{fs:J S}(h:f∈fs):f∈RD fs:=Ç _<|Ç _<|Ç _ h
def IM{y:V}{u:z}(I:Inv X aC σ H s)(e:H p=B (XP C p g))(c:Xc K X.mg Ÿ C Δ Ķ fs)(l:f∈fs)(G:bE y u)
  (h:∀ξ s',H ξ=g->ξ≠p->Inv X aC σ (T (T H p<|XP C p<|B ξ) ξ<|XD ξ [(f,y)]) s'->Q () s'):ô (ă X.prog X.w) A (xN (.ref p) f u) Q E s:=by
 obtain⟨⟨r,m⟩,_,_⟩:=I.hok p _ e;have fresh:=I.hok.fresh<|Õ s.heap.objs.size;obtain⟨a,d,t,n,os⟩:=s;refine PF (c.cl I.lV) (c.none I.lV<|by simp[RD]) (c.none I.lV<|Fd l) (c.bl f l) m D D D λh' v w J x=>h a.objs.size _ fresh (ao e fresh).symm ?_;have o:(a.update p λi=>{i with dict:=B a.objs.size}).get? p=B {cls:=.ref C,dict:=B a.objs.size,data:=YM r}:=Ū _ m D;have F:Inv X aC σ (T H p<|XP C p<|B a.objs.size) ⟨a.update p λi=>{i with dict:=B a.objs.size},d,t,n,os⟩:=
  I.write (h':=a.update p λi=>{i with dict:=B a.objs.size}) (t':=n) (e▸Ϗ) (.inl D) (λk q j b=>(iR _ _ _ _ j).trans b) ⟨_,o⟩ (XP.ok o)
 refine F.laid (h':=h') (t':=v) (λk q b=>?_) (iF (RV ..))<|XD.ok x (λd=>?_) (λd L=>?_) bh
 .by_cases j:k=p
  .simp_all
  .exact w k q j<|(iR _ _ _ _ j).symm.trans b
 .show l_ (tM d [(f,y)]) (if d=f then B u else g);by_cases b:d=f
  .subst b;rwa [à D,Zi]
  .rw[Ó b,lkN b];exact Ϗ
 simp_all
end
end
section
open Builtin Builtin.ObjectAttr
section
variable{s:Í}{Δ Ķ:O}{Ÿ f:S}{fs:J S}{ŝ:J<|S×V}{A:ź}
def Up{y:V}{u:z}(I:Inv X aC σ H s)(e:H p=B (XP C p<|B ξ))(d:H ξ=B (XD ξ ŝ))(c:Xc K X.mg Ÿ C Δ Ķ fs)(i:f∈fs)(F:L ŝ<900)(G:bE y u)
  (h:∀s',Inv X aC σ (T H ξ<|XD ξ<|bf f y ŝ) s'->Q () s'):ô (ă X.prog X.w) A (xN (.ref p) f u) Q E s:=by
 obtain⟨⟨J,m⟩,_,_⟩:=I.hok p _ e;obtain⟨⟨n,o,M,j,_⟩,_,_⟩:=I.hok ξ _ d;obtain⟨N,a,O,P,os⟩:=s;refine aav (c.cl I.lV) (c.none I.lV<|by simp[RD]) (c.none I.lV<|Fd i) (c.bl f i) m D D o j (by rw[Ε];lia) λh' q r k=>h _ ?_;refine I.write (h':=h') (t':=q) (d▸Ϗ) (.inl D) (λt R v b=>(r.2 t v).trans b) (let⟨w,_,_,l,_⟩:=k;⟨w,l⟩)<|XD.ok k (λa=>?_) (λa x=>?_) ?_
 .show l_ ((bf f y ŝ).lookup a) (if a=f then B u else n a);rw[q9];by_cases b:a=f
  .rwa [à b,à b]
  simp_all[Ó]
 .by_cases b:a=f
  .rw[b];exact(oZ f y ŝ).1
  .exact(oZ f y ŝ).2 a<|j a λl=>x fX
 .have:=rX f y ŝ;lia
def SG{b:ě}{v:V}{Q:z->Í->Prop}(I:Inv X aC σ H s)(ï:s.heap.get? p=B o)(e:o.cls=.ref C)(i:o.dict=B ξ)(j:∃vs,o.data=.fields vs)(k:H ξ=B (XD ξ ŝ))(c:Xc K X.mg Ÿ C Δ Ķ fs)(a:f∈fs)(l:ŝ.lookup f=B v)
  (h:∀u s',s'.heap=s.heap->Inv X aC σ H s'->bE v u->Q u s'):ô (ă X.prog X.w) A (Jh (.ref p) f b) Q E s:=by
 obtain⟨⟨t,m,n,w,_⟩,_,_⟩:=I.hok ξ _ k;obtain⟨u,q,d⟩:=l_.some_of<|l▸n f;have r:=I.tok<|s.toks+1;obtain⟨x,y,F,G,os⟩:=s;exact aaB (c.cl I.lV) (c.none I.lV<|by simp[RD]) (c.none I.lV<|by simp[RD]) (c.none I.lV<|Fd a) (c.bl f a) ï e i j m q (PySem.W.handedOut_of<|EA d)<|h u _ D r d
def PJ{Q:z->Í->Prop}(I:Inv X aC σ H s)(e:H p=B (XP C p g))(c:Xc K X.mg Ÿ C Δ Ķ fs)(h:∀s',Inv X aC σ H s'->Q .none s'):
  ô (ă X.prog X.w) A (jS (.builtin "Exception.__init__") [.ref p]) Q E s:=by
 obtain⟨⟨n,d⟩,_,_⟩:=I.hok p _ e;have fresh:=I.hok.fresh<|Õ s.heap.objs.size;obtain⟨a,o,q,f,os⟩:=s;refine SJ Cj (c.cl I.lV) d D D D<|h _ ?_;have i:((a.push {cls:=.type "tuple",data:=.seq #[]}).update p (fK (·.setIfInBounds 0 (.ref a.objs.size)))).get? p=B {cls:=.ref C,dict:=g,data:=YM a.objs.size}:=by rw[Ū _ (ß {cls:=.type "tuple",data:=.seq #[]} d) D];rfl
 have j:=(I.kept (h':=a.push {cls:=.type "tuple",data:=.seq #[]}) (t':=f) λk l b=>ß _ b).write (h':=(a.push {cls:=.type "tuple",data:=.seq #[]}).update p (fK (·.setIfInBounds 0 (.ref a.objs.size)))) (t':=f) (e▸Ϗ) (.inl D)
  (λk l m b=>(iR _ _ _ _ m).trans b) ⟨_,i⟩ (XP.ok i)
 rw[Pq e]at j;exact j
end
section
variable{f:S}{È ň:TE}{o value:Ž}{pos Ň eW:kX}
def LU(d:PE X o È)(e:PE X value ň)(h:kL value (B<|.Attribute o f Ň) pos.line X.env=pure Τ):PS X (.Assign [.Attribute o f Ň] value pos)<|ZM K X.mg È ň f:=by intro b i a j H k l;refine lX (cH (e b i a j _ k l) λI s1 ⟨J,m,n,p,q⟩=>cH (d b s1 a m _ n q) λr s2 s=>?_) h;obtain⟨L,M,t,u,v,N,O,P,Q,R,w,x,y,z,A⟩:=s;subst w;obtain rfl:r=æ v:=u;exact IM t x y z p λC s3 E F G=>⟨a,_,G,A C E F⟩
def MK(d:PE X o È)(e:PE X value ň)(h:kL value (B<|.Attribute o f Ň) pos.line X.env=pure Τ):PS X (.Assign [.Attribute o f Ň] value pos)<|Zy K X.mg È ň f:=by intro b i a j G k l;refine lX (cH (e b i a j _ k l) λH s1 ⟨I,m,n,p,q⟩=>cH (d b s1 a m _ n q) λr s2 s=>?_) h;obtain⟨J,L,t,u,v,M,N,O,P,Q,R,S,w,x,y,z,A,C,E⟩:=s;subst w;obtain rfl:r=æ v:=u;exact Up t x y z A C p λs3 F=>⟨a,_,F,E⟩
def H_{ù:Yd ě}(s:X.mg "Exception"=g)(t:PE X e Â)(u:Gl X "Exception":=by rfl)(l:ë [e] X.env=(Τ,Ŧ e X.env)::ë [] X.env:=by rfl)
  (v:Ŧ (.Call (.Attribute (.Name "Exception" eW) "__init__" ĝ) [e] [] pos) X.env=(do
   let m <-Ŧ (.Name "Exception" eW) X.env
   Co ĝ.atName
   let(f,w) <-ni [m] (s7 m "__init__" ù)
   Cq pos f w (ϴ pos<|ë [e] X.env) (jT pos<|er [] X.env)):=by rfl):
  PE X (.Call (.Attribute (.Name "Exception" eW) "__init__" ĝ) [e] [] pos) (Xn K X.mg Â):=by
 intro x y z A C b E;refine qJ (BP b u s PyProof.Rows.Boot.«Exception» ?_) v;obtain⟨P,F⟩:=b.fr;refine PySem.W.method_type (v:=.builtin "Exception.__init__") F b.ok.mod.QW (by kernel_rfl) (by decide+kernel) (by kernel_rfl) (by decide+kernel) ?_;refine tO (cH ((aa t aj l) pos x _ z A (λh d=>match h with|[n]=>∃a i o p q r,n=.ref a/\d a=B (XP i a g)/\Xc K X.mg q i o p r/\C .b_ d|_=>Ϡ) (b.tok<|y.toks+1) E) λQ s1 G=>?_) l D;obtain⟨h,d,H,j,k⟩:=G
 match h,j,k with
 |[n],j,⟨a,i,o,p,q,r,I,J,L,k⟩=>
  obtain⟨M,rfl,N⟩:=rO j;subst I;obtain rfl:M=æ a:=N;exact PJ H J L λs2 O=>⟨.b_,d,O,D,k⟩
end
end
def Fl(h:ό)(p C ξ:O)(Æ:É O)(ı:z):Prop:=
 ∃a vs,h.get? p=B a/\a.cls=.ref C/\a.dict=B ξ/\a.data=.fields vs/\match Æ with
  |none=>vs[1]?=B .none
  |some Æ=>vs[1]?=B (.ref Æ)/\Æ≠p/\∃b Ø,h.get? Æ=B b/\b.data=.fields Ø/\Ø[3]?=B ı
structure Go(a:J O)(p:O)(Æ:É O)(h h':ό):Prop where
 keep:∀b o,b≠p->b∉a->Æ≠B b->h.get? b=B o->h'.get? b=B o
 slot:∀b o,b≠p->Æ≠B b->h.get? b=B o->∃Ė,h'.get? b=B {o with slots:=Ė}
theorem Go.trans{f:J O}{Æ T':É O}{á í:ό}(a:Go f p Æ h á)(b:Go f p T' á í)(q:∀c,T'=B c->Æ=B c\/h.get? c=g):Go f p Æ h í:=
 ⟨λc e d k i j=>b.keep c e d k (λl=>fX)<|a.keep c e d k i j,λc e d i j=>by obtain⟨r,m⟩:=a.slot c e d i j;obtain⟨n,o⟩:=b.slot c _ d (λl=>fX) m;exact⟨n,o⟩⟩
section
variable{è:Model}{A:ź}{s:Í}{env:sG}{outer:J sG}{Þ:O}{ı:z}
def G0{f:gf}{n:z}{nx:ě}(y:A.frames=B (env::outer))(o:s.heap.FunFrames Ξ<|env::outer)(F:env.frame=B Þ)
  (G:s.heap.get? p=B f) (H:f.cls=.ref C) (Ο:f.dict=B ξ) (j:f.data=.fields vs) (q:1<vs.size)
  (h:∀h' Æ,s.heap.objs.size<=Æ->Fl h' p C ξ (B Æ) (mz Þ)->Go (Gp<|env::outer) p g s.heap h'->s.heap.objs.size<=h'.objs.size->Q () {s with heap:=h'}):
  ô è A (do let a <-frameOf env;let ù <-entryPlaceOf Þ nx;let b <-EntryCells.newEntry n a .none (mz Þ) .none ù;setField (.ref p) 1 b) Q E s:=by
 have I:p∉Gp (env::outer):=λJ=>by obtain⟨_,e,W,X⟩:=o.mem J;simp_all
 refine Λ<|wpAny_frameOf_fun y o F λd ⟨K,r,L⟩=>Λ<|wpAny_entryPlaceOf λù M=>?_;refine Λ<|lJ ?_ (M.sizeOk5 _ _ _ _ _);generalize N:({cls:=.type "traceback",dict:=g,data:=.fields ([n,.ref Þ,.none,mz Þ,.none]++(if ù.isEmpty then UA 6 ž else ù)).toArray}:gf)=k;have t:d.get? p=B f:=(r p I).trans G;have u:=ß (h:=d) k t;refine lN u j q ?_;have v:=gr j (·.setIfInBounds 1 (æ d.objs.size));have w:d.objs.size≠p:=ki<|û t;obtain⟨l,O,P⟩:=(by subst N;exact⟨_,D,by rfl⟩:∃l:ŕ z,k.data=.fields l/\l[3]?=some (mz Þ));have x:∀b e,b≠p->d.get? b=B e->((d.push k).update p (fK (·.setIfInBounds 1 (æ d.objs.size)))).get? b=B e:=λb e R i=>by rw[ϫ _ _<|Ϛ R];exact ß _ i
 refine h _ d.objs.size (iF K.symm) ⟨_,_,Ū (fK (·.setIfInBounds 1 (æ d.objs.size))) u<|gO v,?_,?_,v,by simp[q],w,k,l,?_,O,P⟩ ⟨λb e m S _ i=>x b e m<|(r b S).trans i,λb e m _ i=>?_⟩ ?_
 .rw[RO];exact H
 .obtain⟨Y,Z,aa,ab⟩:=f;dsimp only at j Ο;subst j Ο;rfl
 .rw[ϫ _ _<|Ϛ w];exact Ą _<|by simp_all[RU,absurd,gO]
 .obtain⟨T,V⟩:=L b e i;exact⟨T,x b _ m V⟩
 .simp_all
def Uj{Æ:O}(x:Fl s.heap p C ξ (B Æ) ı)
  (h:∀h',Fl h' p C ξ (B Æ) .none->Go [] p (B Æ) s.heap h'->h'.objs.size=s.heap.objs.size->(∃b,s.heap.get? p=B b/\h'.get? p=B b)->Q () {s with heap:=h'}):ô è A (xS (.ref p) g) Q E s:=by
 obtain⟨b,v,e,w,y,m,n,i,F,G,o,q,z⟩:=x;refine Λ<|wM e m n ?_;rw[à<|by rfl];have r:=(Ĵ.mp z).1;have t:=gr q (·.setIfInBounds 3 ((g:É O).elim ž λj=>mz j));have f:∀a,a≠Æ->(s.heap.update Æ (fK (·.setIfInBounds 3 ((g:É O).elim ž λj=>mz j)))).get? a=s.heap.get? a:=λa d=>ϫ _ _<|Ϛ d;refine lN o q r<|h _ ⟨b,v,(f p<|Ϛ i).trans e,w,y,m,n,i,_,_,Ū _ o<|gO t,t,by simp[r]⟩ ⟨λa u _ _ d k=>?_,λa u _ d k=>?_⟩ (RV ..) ⟨b,e,(f p<|Ϛ i).trans e⟩
 .exact(f a λl=>d<|by rw[l]).trans k
 .exact⟨u.slots,(f a λl=>d<|by rw[l]).trans k⟩
def Tu{Æ:É O}{Q:Vc->Í->Prop}(q:A.frames=B (env::outer))(r:s.heap.FunFrames Ξ<|env::outer)(l:env.frame=B Þ)(x:Fl s.heap p C ξ Æ .none)
  (h:∀h' T',s.heap.objs.size<=T'->Fl h' p C ξ (B T') (mz Þ)->Go (Gp<|env::outer) p Æ s.heap h'->s.heap.objs.size<=h'.objs.size->Q () {s with heap:=h'}):ô è A (s9 (.ref p) env) Q E s:=by
 obtain⟨J,K,f,t,u,i,b⟩:=x;unfold s9;simp only[l];cases Æ with
 |none=>
  refine Λ<|wM f i b ?_;rw[Ó bM];exact G0 q r l f t u i (Ĵ.mp b).1 h
 |some Æ=>
  refine bx λL z=>?_;obtain⟨b,F,M,N,v,m,w⟩:=b;apply z;refine Λ<|wM f i b ?_;rw[à<|by rfl];refine Λ<|wM v m w ?_;rw[Ó<|by simp[mz]];refine Λ<|lN v m (Ĵ.mp w).1 ?_;have P:=gr m (·.setIfInBounds 3 ž);have j:∀a,a≠Æ->(s.heap.update Æ (fK (·.setIfInBounds 3 ž))).get? a=s.heap.get? a:=λa G=>ϫ _ _<|Ϛ G;refine G0 q (r.of_keeps λa d e R=>⟨d,(j a λk=>fX).trans e,D⟩) l ((j p<|Ϛ F).trans f) t u i (Ĵ.mp b).1 λh' T' S H y T=>?_;refine h h' T' fX H ⟨λa d n I o e=>?_,λa d n o e=>?_⟩ fX
  .exact y.keep a d n I bh<|(j a λk=>o<|by rw[k]).trans e
  .exact y.slot a d n bh<|(j a λk=>o<|by rw[k]).trans e
def Rb{Æ:É O}(d:A.frames=B (env::outer))(e:s.heap.FunFrames Ξ<|env::outer)(f:env.frame=B Þ)(x:Fl s.heap p C ξ Æ .none)
  (h:∀h' T',s.heap.objs.size<=T'->Fl h' p C ξ (B T') .none->Go (Gp<|env::outer) p Æ s.heap h'->s.heap.objs.size<=h'.objs.size->Q () {s with heap:=h'}):ô è A (s9 (.ref p) env) (λ_ s2=>ô è A (xS (.ref p) g) Q E s2) E s:=by
 refine Tu d e f x λv T' a i j w=>Uj i λk l b m _=>h k T' a l ?_ (by rwa [m]);refine j.trans (T':=B T') ⟨λn o q _ r t=>b.keep n o q bh r t,b.slot⟩ λy u=>.inr ?_;cases u;exact Ly a
end
noncomputable def XL (C p ξ:O):HO:=.ext λh=>∃o vs,h.get? p=B o/\o.cls=.ref C/\o.dict=B ξ/\o.data=.fields vs
theorem XL.ok(e:h.get? p=B o)(a:o.cls=.ref C)(b:o.dict=B ξ)(d:o.data=.fields vs):cL P w H h p<|XL C p ξ:=
 ⟨⟨o,vs,e,a,b,d⟩,⟨_,e⟩,λ_ _ ⟨o,vs,e,f⟩ i=>⟨o,vs,i _ e,f⟩⟩
def rG(P:Ŝ)(w:ś):E5:=λouter H s E e s'=>∃p C ξ Æ R,e=.ref p/\s'.os=s.os/\xM s'.gens/\Un (Gp outer) [] H R s.heap s'.heap/\qN P w R s'.heap/\Fl s'.heap p C ξ (B Æ) .none/\s.heap.objs.size<=Æ/\R Æ=g/\
 R p=B (XL C p ξ)/\E (.ref p) (B ξ) R
section
variable{s s':Í}{è:Model}{outer:J sG}
def land{Æ:É O}(I:Inv X aC σ H s)(l:X.stack=X.env::outer)(G:X.env.frame=B X.env.locals)(x:Fl s.heap p C ξ Æ .none)(o:H p=B (XL C p ξ))
  (r:∀t,Æ=B t->H t=g/\X.CJ.heap.objs.size<=t/\t≠X.env.locals/\(∀y c,X.env.cells.lookup y=B c->c≠t)/\∀q∈X.pn++aC,q.1≠t)
  (k:∀h' T',s.heap.objs.size<=T'->Fl h' p C ξ (B T') .none->Inv X aC σ H {s with heap:=h'}->H T'=g->Q () {s with heap:=h'}):
  ô è X.A (s9 (.ref p) X.env) (λ_ s2=>ô è X.A (xS (.ref p) g) Q E s2) E s:=by
 refine Rb (by rw[I.ok.frames,l]) (l▸I.stack) G x λh' T' u v f S=>k h' T' u v ?_ (I.hok.fresh u);rw[<-l]at f;have w:∀a d,H a=B d->a∉Gp X.stack:=λa d b e=>by rw[I.EZ a e]at b;cases b
 have z:∀a d,H a=B d->Æ≠B a:=λa d b e=>by rw[(r a e).1]at b;cases b
 obtain⟨T,V,f1,f2,f3,f4,W⟩:=v;have J:qN X.prog X.w H h':=λa d b=>by
  by_cases i:a=p
  .subst i;rw[o]at b;cases b;exact XL.ok f1 f2 f3 f4
  .refine(I.hok a d b).stay (λc A h q=>?_) (λ_ q=>q) λ_ _ q=>q;rcases h with rfl|h
   .exact f.keep c A i (w c d b) (z c d b) q
   .refine f.keep c A (λe=>?_) (w c _ h) (z c _ h) q;rw[e,o]at h;cases h
 have K:Un (Gp X.stack) Æ.toList H H s.heap h':=by
  have m:∀a,a∉Æ.toList->Æ≠B a:=λa L e=>L (by rw[e];simp);refine⟨λa d b n F j=>f.keep a d (λe=>aL) F (m a j) b,λa d b n F j=>f.slot a d (λe=>aL) (m a j) b,λ_ _ _ n _=>n,λa d b j=>?_,λ_ _ q=>q,λ_ _ _ q=>q,λ_ Y q=>⟨#[],by rwa [Array.append_empty]⟩⟩;by_cases i:a=p
  .simp_all
  .obtain⟨Z,q⟩:=f.slot a d i (m a j) b;exact⟨_,q⟩
 refine I.Qe (s':={s with heap:=h'}) D K J I.bare λa i=>?_;obtain⟨_,M,N,P,R⟩:=r a fX;exact⟨.inr M,N,P,R⟩
theorem rG.land{fZ:XK}{e:z}(I:Inv X aC σ H s)(h:X.stack=X.env::outer)(i:X.env.frame=B X.env.locals)(x:rG X.prog X.w X.stack H s fZ e s')
  (k:∀p C ξ Æ R h',e=.ref p->X.CJ.heap.objs.size<=Æ->Fl h' p C ξ (B Æ) .none->Inv X aC σ R {s' with heap:=h'}->R Æ=g->R p=B (XL C p ξ)->fZ (.ref p) (B ξ) R->Q () {s' with heap:=h'}):
  ô è X.A (s9 e X.env) (λ_ s2=>ô è X.A (xS e g) Q E s2) E s':=by
 refine bx λM j=>?_;obtain⟨p,C,ξ,Æ,R,rfl,os,l,m,n,o,b,q,d,r⟩:=x;apply j;have f:=I.Qe os m n l λN t=>absurd t bh;refine Tf.land f h i o d (λO a=>?_) λh' u v w y A=>k p C ξ u R h' D ?_ w y A d r
 .cases a;refine⟨q,Ć I.sz b,λa=>?_,λF G e a=>?_,λJ K a=>?_⟩
  .exact absurd I.lt<|a▸EU.mpr b
  .obtain⟨P,L⟩:=I.cell F G e;subst a;exact absurd (L.lt)<|EU.mpr b
  .have:=(I.pin J K).1;exact absurd (û this)<|a▸EU.mpr b
 .exact Ć f.sz v
end
section
variable{ì:S}{ü:kK}{õ:z}{A:ź}{outer:J sG}{s:Í}{E fZ:XK}
def Aj(b:∀v d H,E v d H->fZ v d H):jb (rG P w) (o8 (rG P w) P w K η Ξ Δ ì ü f õ A outer s H fZ) E:=by intro y z C s1 e h i j;show ô _ _ (leaving _ e) _ _ h;refine Λ<|rG.land i D D j λk l m n o F p q r a t u x=>?_;subst p;exact⟨k,l,m,n,o,D,a.os,a.bare,a.base,a.hok,r,q,t,u,b _ _ _ x⟩
def PK(X:Cx K)(E:XK):Prop:=∀(aC:J<|O×gf) (σ:L2.St) (H:Hp) (s:Í) (p C ξ:O),Inv X aC σ H s->Fl s.heap p C ξ g .none->H p=B (XL C p ξ)->E (.ref p) (B ξ) H->X.xe (.ref p) s
def xh(h:∀v d H,E v d H->fZ v d H):PK (o8 (rG P w) P w K η Ξ Δ ì ü f õ A outer s H fZ) E:=by intro u x i s1 j k l b m e n;show ô _ _ (leaving _ _) _ _ s1;refine Λ (land b D D m e (λy o=>by cases o) λz p q r a t=>?_);exact⟨j,k,l,p,i,D,a.os,a.bare,a.base,a.hok,r,Ć b.sz q,t,e,h _ _ _ n⟩
def Ar:Yi (ă P w) (A.deeper<|gK ì ü s.heap.objs.size f õ) (gK ì ü s.heap.objs.size f õ) (o8 (rG P w) P w K η Ξ Δ ì ü f õ A outer s H fZ).xe:=PassesOwn.leaving
end
inductive Rn(C:O)(f1 f2:S)(vs:J V)(H:Hp)(Q:VK)(d:XK):Prop
 |mk(p a b:_)(_:vs=[.ref p,a,b])(_:H p=B (XP C p g))(_:∀ξ,H ξ=g->ξ≠p->Q .b_ (T (T H p<|XP C p<|B ξ) ξ<|XD ξ [(f1,a),(f2,b)]))
structure X8(P:Ŝ)(w:ś)(K:Ζ)(η:S->É z)(Ξ:ό)(k:M)(x:S)(C:O)(f1 f2:S):Prop where
 ex:∃Δ Ķ Ä θ,Xc K η x C Δ Ķ [f1,f2]/\lZ P w K η Ξ c9 k Ķ Ä θ (Rn C f1 f2)/\jl K Ä θ []
inductive Ue(C:O)(f1:S)(f2:S)(Q:VK)(vs:J V)(ο:Hp):Prop
 |mk(a b:_)(_:vs=[a,b])(_:∀p ξ,ο p=g->ο ξ=g->ξ≠p->Q (.ref p) (T (T ο p<|XP C p<|B ξ) ξ<|XD ξ [(f1,a),(f2,b)]))
def Pp(C:O)(f1 f2:S)(t:TA):TE:=λσ H Q=>t σ H λvs ο=>Ue C f1 f2 Q vs ο
def Ro{P:Ŝ}{w:ś}{H:Hp}{h:ό}{a:O}{o:HO}(x:cL P w H h a o):∃ob,h.get? a=B ob:=by
 cases o with
 |Y d=>obtain⟨_,_,_,_,b⟩:=x;exact⟨_,b⟩
 |bO d=>obtain⟨_,_,_,ob,b,_⟩:=x;exact⟨ob,b⟩
 |dK e=>obtain⟨_,_,_,_,ob,_,_,b,_⟩:=x;exact⟨ob,b⟩
 |dT e=>obtain⟨_,_,_,_,ob,_,_,b,_⟩:=x;exact⟨ob,b⟩
 |set j k=>obtain⟨ob,_,_,_,b,_⟩:=x;exact⟨ob,b⟩
 |aE l m f=>obtain⟨_,_,_,b,_⟩:=x;exact⟨_,b⟩
 |own i=>exact x
 |xd f=>obtain⟨_,⟨ob,_,_,b,_⟩,_⟩:=x;exact⟨ob,b⟩
 |rng lo n=>obtain⟨_,_,_,b⟩:=x;exact⟨_,b⟩
 |jZ ob p=>obtain⟨b,_⟩:=x;exact⟨_,b⟩
 |UU q=>exact⟨_,x⟩
 |met r i=>exact⟨_,x⟩
 |ext s=>obtain⟨_,b,_⟩:=x;exact b
section
variable{s:Í}{x f1 f2:S}{k:M}{p pos:kX}{Α:J Ž}{t:TA}
def II{a:O}(I:Inv X aC σ H s)(e:s.heap.get? a=g):H a=g:=by
 cases b:H a with
 |none=>rfl
 |some d=>obtain⟨f,h⟩:=Ro<|I.hok a d b;lia
def NO{o:HO}{t':M}(I:Inv X aC σ H s)(k:∀b u,s.heap.get? b=B u->h'.get? b=B u)(j:s.heap.get? a=g)(n:cL X.prog X.w (T H a o) h' a o):
  Inv X aC σ (T H a o) {s with heap:=h',toks:=t'}:=by
 have e:=II I j;refine I.un ⟨λb u d _ _ _=>k b u d,λb u d _ _ _=>⟨u.slots,k b u d⟩,λb u d p _=>by rwa [au<|(λb u d q=>aL) b u d],λb u d _=>⟨u,k b u d⟩,λb h d=>by rwa [au<|ao d e],
  λb u h d=>by rwa [au<|ao d e],λb r d=>⟨#[],by rw[au<|ao d e,d];rfl⟩⟩ λb u i=>?_
 by_cases l:b=a
 .grind[af]
 .rw[au l]at i;exact(I.hok b u i).stay (λf m _ d=>k f m d) (λf d=>by rwa [au<|ao d e]) λf h d=>by rwa [au<|ao d e]
def NY{Μ:J z}{vs:J V}{a b:V}{Q:VK}(e:X8 X.prog X.w K X.mg X.base k x C f1 f2)(v:c6 (k+1) X.A)(I:Inv X aC σ H s)(r:bz [a,b] Μ)
  (h:∀p ξ,H p=g->H ξ=g->ξ≠p->Q (.ref p) (T (T H p<|XP C p<|B ξ) ξ<|XD ξ [(f1,a),(f2,b)])):ô (ă X.prog X.w) X.A (jS (.ref C) Μ) (EP X aC σ Q) X.xe s:=by
 refine bx λZ w=>?_;obtain⟨aa,ab,ad,ae,i,e,y⟩:=e.ex;have l:=i.cl I.lV;obtain⟨ag,ah,ai,aj,ak,al,am,an,ao,ap,aq,ar,av,A⟩:=id l.ob;obtain⟨aw,E,F⟩:=i.fn;apply w;rw[(by rfl:s=⟨s.heap,s.gens,s.drawn,s.toks,s.os⟩)];refine wpAny_call_exc_init Cj A l.ns (i.some I.lV) (I.lV _ _ E) F (λG p f=>?_) (by rw[<-r.length];show 2<=sizeLine;decide);obtain⟨ax,L,ay,az⟩:=f.there;have j:=NO (t':=s.toks) I f.keeps f.new<|XP.ok L;have m:bz [V.ref p,a,b]<|æ p::Μ:=.cons D r;have n:Rn C f1 f2 [V.ref p,a,b] (T H p<|XP C p g) (λo M=>o=.b_/\Q (.ref p) M) E0:=⟨p,a,b,D,af,λξ q t=>⟨D,by rw[au t]at q;rw[cy];exact h p ξ (II I f.new) q t⟩⟩;have u:=y {s with heap:=G} (æ p::Μ) j.lV (by rw[ö,<-m.length];exact e.len _ _ _ _ n);rw[ö]at u;refine mC<|gJ (e.run _ X.stack _ _ ⟨æ p::Μ,[]⟩ (æ p::Μ) _ _ E0 (v.make C Μ []) (j.TY.make C Μ []) u m n) λN aA d=>?_;cases N with
 |error aB=>exact ŏ d
 |ok O=>
  cases O with
  |ret aD=>
   obtain⟨o,P,R,S,W,Y⟩:=j.after d;subst W;exact⟨S,⟨V.ref p,P,R,D,Y⟩⟩
  |next=>exact ŏ d
  |brk=>exact ŏ d
  |cont=>exact ŏ d
def QI(b:X8 X.prog X.w K X.mg X.base k x C f1 f2)(h:c6 j X.A)(i:Gl X x)(l:PA X (e::Α) t)(hk:k+1<=j:=by decide)(m:(x==("__debug__":S))=Τ:=by decide)
  (n:ë (e::Α) X.env=(Τ,Ŧ e X.env)::ë Α X.env:=by rfl) (o:(ϴ pos<|ë Α X.env).any (·.1)=Τ:=by rfl):PE X (.Call (.Name x p) (e::Α) [] pos)<|Pp C f1 f2 t:=by
 obtain⟨F,G,H,I,d,_,_⟩:=id b.ex;intro q r s u J a v;refine c5<|n9 a i d.mg ?_ m;refine dQ a.ok.mod.QW d.kp (cH (l pos q r s u _ a v) λL s1 ⟨vs,M,f,w,y,z,A,E⟩=>⟨f.lV,?_⟩) n o;subst A;exact NY (vs:=[y,z]) b (h.mono hk) f w E
end
def Wz{è:Model}{A:ź}{env:sG}{s:Í}{x:Yd z}{Q:Flow->Í->Prop}(d:A.handled=g)
  (h:ô è A x (λv s1=>∃p C Δ ξ t Ī,v=.ref p/\OC s1.heap C Δ Ī/\s1.heap.get? p=B {cls:=.ref C,dict:=B ξ,data:=YM t}/\E (.ref p) s1) E s):ô è A (raiseStmt env (B x) g) Q E s:=by
 refine Λ<|Ż h (λv s1 a=>?_) λ_ _ a=>a;refine bx λl e=>?_;obtain⟨p,C,Δ,ξ,t,Ī,rfl,f,i,j⟩:=a;obtain⟨m,n,o,q,r,u,w,y,F,G,H,I,J,b⟩:=id f.ob;have k:(æ C::U8).contains (.type "BaseException")=U:=by rfl
 obtain⟨K,L,M,N,os⟩:=s1;apply e
 repeat(first|with_reducible refine XT i ?_|with_reducible refine XT b ?_|(with_reducible refine wpAny_isSubtype_exc b ?_;rw[k])|wp_step)
 exact wpAny_raiseNew_none d j
def XR(C:O)(f1 f2:S)(E:XK):VK:=λv Θ=>∃p ξ a b ο,v=.ref p/\Θ=T (T ο p<|XP C p<|B ξ) ξ (XD ξ [(f1,a),(f2,b)])/\ξ≠p/\E (.ref p) (B ξ) (T (T ο p<|XL C p ξ) ξ<|XD ξ [(f1,a),(f2,b)])
def Vw(C:O)(f1 f2:S)(E:XK)(t:TA):TS:=λa σ H=>Pp C f1 f2 t σ H<|XR C f1 f2 E
def xr{f1 f2:S}{E:XK}{a b:V}(h:∀p ξ,ο p=g->ο ξ=g->ξ≠p->E (.ref p) (B ξ) (T (T ο p<|XL C p ξ) ξ<|XD ξ [(f1,a),(f2,b)])):
 ∀p ξ,ο p=g->ο ξ=g->ξ≠p->XR C f1 f2 E (.ref p) (T (T ο p<|XP C p<|B ξ) ξ<|XD ξ [(f1,a),(f2,b)]):=λp ξ e f d=>⟨p,ξ,a,b,ο,D,D,d,h p ξ e f d⟩
section
variable{x f1 f2:S}{k:M}{eW Ď pos:kX}{Α:J Ž}{t:TA}{E:XK}
def lD(m:X8 X.prog X.w K X.mg X.base k x C f1 f2)(n:c6 j X.A)(v:Gl X x)(tk:PK X E)(w:PA X (e::Α) t)(hk:k+1<=j:=by decide)(y:(x==("__debug__":S))=Τ:=by decide)
  (z:ë (e::Α) X.env=(Τ,Ŧ e X.env)::ë Α X.env:=by rfl) (A:(ϴ Ď<|ë Α X.env).any (·.1)=Τ:=by rfl):PS X (.Raise (B<|.Call (.Name x eW) (e::Α) [] Ď) g pos)<|Vw C f1 f2 E t:=by
 obtain⟨F,W,Y,Z,G,_,_⟩:=id m.ex;intro o H q I aa J L;rw[arm_exec_Raise];refine Λ<|nj<|Wz n.hd<|Λ<|Ż (QI (p:=eW) m n v w hk y z A o H q I (XR C f1 f2 E) J L) (λM s1 ⟨ab,ad,f,N,p,a,h,b,i,O,l,r,P⟩=>Λ<|nj<|Ê ?_) λ_ _ Q=>Q
 .subst O l;obtain rfl:M=æ p:=N;have s:(T (T i p<|XP C p<|B a) a<|XD a [(f1,h),(f2,b)]) p=B (XP C p<|B a):=by rw[au<|Ϛ r,af]
  obtain⟨⟨R,d⟩,_,_⟩:=f.hok p _ s;exists p,C,F,a,R,_,D,G.cl f.lV,d;have u:=f.write (h':=s1.heap) (t':=s1.toks) (s▸Ϗ) (.inl D) (λb ae _ V=>V) ⟨_,d⟩<|XL.ok d D D D;have l:T (T (T i p<|XP C p<|B a) a<|XD a [(f1,h),(f2,b)]) p (XL C p a)=T (T i p<|XL C p a) a (XD a [(f1,h),(f2,b)]):=by funext b';unfold T;lia
  rw[l]at u;exact tk o q _ _ p C a u ⟨_,_,d,D,D,D,D⟩ (by rw[au<|Ϛ r,af]) P
end
section
variable{nJ pn:J<|O×gf}{s:Í}{Ϥ:z->Í->Prop}
noncomputable abbrev EE (X:Cx K) (Ϥ:z->Í->Prop) (pn:J<|O×gf):Cx K:={X with xe:=Ϥ,pn:=pn}
noncomputable abbrev zW (X:Cx K) (e:z):Cx K:={X with A:=X.A.mark<|B e,calm:=Τ,xe:=λ_ _=>Ϡ}
def Inv.toX(I:Inv X aC σ H s)(Ϥ:z->Í->Prop):Inv (EE X Ϥ<|X.pn++aC) [] σ H s:=
 ⟨⟨I.ok.mod,I.ok.kind,I.ok.glob,I.ok.blt,I.ok.above,I.ok.inj,I.ok.has,I.ok.R0,I.ok.hd,I.ok.frames,I.ok.stk,I.ok.SD,I.ok.bs,I.ok.Jw,I.ok.CW,I.ok.C0,I.ok.qR,I.ok.Ow⟩,I.os,I.bare,I.base,I.loc,I.cell,I.free,I.jL,λa b=>I.pin a<|by simpa using b,I.hok,I.len⟩
def Inv.Zk(I:Inv (EE X Ϥ<|X.pn++aC) nJ σ H s):Inv X aC σ H s:=
 ⟨⟨I.ok.mod,I.ok.kind,I.ok.glob,I.ok.blt,I.ok.above,I.ok.inj,I.ok.has,I.ok.R0,I.ok.hd,I.ok.frames,I.ok.stk,I.ok.SD,I.ok.bs,I.ok.Jw,I.ok.CW,I.ok.C0,I.ok.qR,I.ok.Ow⟩,I.os,I.bare,I.base,I.loc,I.cell,I.free,I.jL,λa b=>I.pin a<|Ĭ _ b,I.hok,I.len⟩
def Inv.toS(I:Inv X aC σ H s)(e:z):Inv (zW X e) aC σ H s:=
 ⟨⟨I.ok.mod,I.ok.kind,I.ok.glob,I.ok.blt,I.ok.above,I.ok.inj,I.ok.has,I.ok.R0,λa=>(by cases a),I.ok.frames,I.ok.stk,I.ok.SD,I.ok.bs,I.ok.Jw,I.ok.CW,I.ok.C0,I.ok.qR,I.ok.Ow⟩,I.os,I.bare,I.base,I.loc,I.cell,I.free,I.jL,I.pin,I.hok,I.len⟩
def Inv.ofS{e:z}(a:X.calm=U->X.A.handled=g)(I:Inv (zW X e) aC σ H s):Inv X aC σ H s:=
 ⟨⟨I.ok.mod,I.ok.kind,I.ok.glob,I.ok.blt,I.ok.above,I.ok.inj,I.ok.has,I.ok.R0,a,I.ok.frames,I.ok.stk,I.ok.SD,I.ok.bs,I.ok.Jw,I.ok.CW,I.ok.C0,I.ok.qR,I.ok.Ow⟩,I.os,I.bare,I.base,I.loc,I.cell,I.free,I.jL,I.pin,I.hok,I.len⟩
def Inv.forget{m:S->É z}{t':M}(I:Inv X aC σ H s)(u:h'.Ns X.env.locals m)(f:ϡ X.env.locals s.heap h'):Inv X aC (σ.map λ_=>g) H {s with heap:=h',toks:=t'}:=by
 obtain⟨K,v,_⟩:=id I.loc;obtain⟨L,_,_,N,O,_⟩:=id v;have o:∀a d,X.CJ.heap.get? a=B d->a≠X.env.locals:=λa d b=>ė<|ĭ (û b) I.ok.above;refine⟨I.ok,I.os,I.bare,⟨λa d b p q i=>(f.2 a<|o a d b).trans<|I.base.keep a d b p q i,λa d b p q i=>?_,I.base.free,λa d b i=>?_,I.base.tups,I.base.Dj,I.base.G1⟩,⟨m,u,λP Q r h k _=>?_⟩,λw l b=>?_,I.free,I.jL,λx y=>?_,λa A b=>?_,by rw[Ε];exact I.len⟩
 .obtain⟨C,h⟩:=I.base.slot a d b p q i;exact⟨C,(f.2 a<|o a d b).trans h⟩
 .obtain⟨E,h⟩:=I.base.there a d b i;exact⟨E,(f.2 a<|o a d b).trans h⟩
 .rw[Ë]at k;obtain⟨_,_,n⟩:=Ü.mp k;cases n
 .obtain⟨r,d,h,k⟩:=I.cell w l b;refine⟨r,d,(f.2 l λn=>?_).trans h,k⟩;simp_all
 .obtain⟨F,G,t,J⟩:=I.pin x y;exact⟨(f.2 _ t).trans F,G,t,J⟩
 .refine(I.hok a A b).stay (λl r e j=>(f.2 l λn=>?_).trans j) (λ_ j=>j) λ_ _ j=>j;rw[n]at e;rcases e with e|e
  .rw[<-e,I.free]at b;cases b
  .rw[I.free]at e;cases e
end
section
variable{è:Model}{A:ź}{s:Í}{Æ:O}
def Pw(x:Fl s.heap p C ξ (B Æ) .none)(h:∀h',(∀b o,s.heap.get? b=B o->h'.get? b=B o)->Q () {s with heap:=h'}):ô è A (xS (.ref p) g) Q E s:=by
 obtain⟨w,y,i,z,F,j,k,G,l,a,d,e,m⟩:=x;refine Λ<|wM i j k ?_;rw[à<|by rfl];refine lN d e ((Ĵ.mp m).1)<|h _ λb o n=>?_;by_cases f:b=Æ
 .subst f;rw[Ū _ d (gO (gr e (·.setIfInBounds 3 ((g:É O).elim ž λq=>mz q)))),<-n,d];obtain⟨r,t,H,u⟩:=l;subst e;have v:a.setIfInBounds 3 ž=a:=by
   grind
  show B ({cls:=r,dict:=t,data:=Yj<|a.setIfInBounds 3 ž,slots:=u}:gf)=_;rw[v]
 .rwa [ϫ _ _<|Ϛ f]
end
def aas(C:O)(i:M)(tb:XK->TS)(th:TS):TS:=λa σ H=>tb (λv d R=>∃p ξ,v=.ref p/\d=B ξ/\R p=B (XL C p ξ)/\∀b:L2.St,L b=L σ->th {nx:=λ_ _=>Ϡ,rt:=a.rt} (b.set i<|B<|.ref p) R) a σ H
section
variable{outer:J sG}{Δ Ķ:O}{x n:S}{fs:J S}{tb:XK->TS}{th:TS}{ť rA:J dP}{q_:dP}{eW yh pos:kX}
def QF(c:Xc K X.mg x C Δ Ķ fs)(H:X.stack=X.env::outer)(I:X.env.frame=B X.env.locals)(J:Gl X x)(M:X.N.Nodup)(Á:X.N[i]?=B n)(q:X.env.kindOf n=B .local)
  (N:∀Ϥ pn w,jb (rG X.prog X.w) (EE X Ϥ pn) w->zq (EE X Ϥ pn) ť (tb w)) (O:∀e,zq (zW X e) (q_::rA) th) (P:(x==("__debug__":S))=Τ:=by decide):
  PS X (.Try ť [.ExceptHandler (B<|.Name x eW) (B n) (q_::rA) yh] [] [] pos) (aas C i tb th):=by
 intro k Q y R l m T;rw[arm_exec_Try]
 let Ϥ:z->Í->Prop:=λe s1=>ô (ă X.prog X.w) X.A (s9 e X.env) (λ_ s2=>ô (ă X.prog X.w) X.A (xS e g) (λ_ s3=>ô (ă X.prog X.w) X.A (handleBy e X.env [.ExceptHandler (B<|.Name x eW) (B n) (q_::rA) yh]) (SP X k l) X.xe s3) X.xe s2) X.xe s1
 have V:jb (rG X.prog X.w) (EE X Ϥ<|X.pn++k) (λv W o=>∃b r,v=.ref b/\W=B r/\o b=B (XL C b r)/\∀A:L2.St,L A=L y->th {nx:=λ_ _=>Ϡ,rt:=l.rt} (A.set i<|B<|.ref b) o):=by
  intro ay d h s1 e s2 f Y;refine rG.land (X:=EE X Ϥ<|X.pn++k) (è:=ă X.prog X.w) (E:=X.xe) f (outer:=outer) H I Y λb az r aA o h' Z aB aa ab aC aD ad=>?_;subst Z;obtain⟨aE,aF,ae,af,ag,ah⟩:=ad;cases ae;cases af;have p:=Tf.Inv.Zk ab;have F:=Tf.Inv.toS p<|.ref b;refine bx λai s=>?_;obtain⟨⟨aG,aH,aj,ak,aI,aJ⟩,_,_⟩:=p.hok b _ ag;obtain⟨aK,a,aL,aM,aN,aO,aP,aQ,aR,aS,aT,aU,aV,al⟩:=id (c.cl p.lV).ob;apply s;refine wpAny_handleBy_cons (codeAny_handlers_test<|n9 F J c.mg ?_ P) (by intro a;cases a);refine wpAny_excMatches_sub_self al aj ak (by decide+kernel)<|codeAny_handlers_suite_as ?_;refine Pw aa λam an=>?_;refine xB (X:=zW X<|.ref b) (v:=.ref b) (F.kept (h':=am) (t':=s2.toks) an) M Á (nv q) D (λs3 ao _=>?_)<|RP q;refine Ż (O (.ref b) k s3 _ o {nx:=λ_ _=>Ϡ,rt:=l.rt} ao (ah d<|by rw[p.len,m.len])) (λt s4 a=>?_) λ_ _ j=>j.elim;cases t with
  |next=>obtain⟨_,_,_,j⟩:=a;exact j.elim
  |brk=>obtain⟨_,_,_,j⟩:=a;exact j.elim
  |cont=>obtain⟨_,_,_,j⟩:=a;exact j.elim
  |ret ap=>
   refine bx λai s=>?_;obtain⟨v,aW,aq,ar,u,au⟩:=a;have G:=Tf.Inv.ofS m.ok.hd ar;obtain⟨aX,av,_⟩:=id G.loc;apply s;refine wpAny_nameGoes q av (by rw[m.ok.kind];rfl) λaY aZ aw ax=>?_;exact⟨v,_,aq,Tf.Inv.forget G aw ax,u,au⟩
 refine Λ<|nj<|wpAny_tryStmt_except<|Ż (N Ϥ (X.pn++k) _ V [] Q y R l (Tf.Inv.toX m Ϥ) T) (λt s1 a=>?_) λe s1 a=>a;cases t with
 |next=>
  obtain⟨d,h,f,a⟩:=a;exact n_ ⟨d,h,Tf.Inv.Zk f,a⟩
 |brk=>obtain⟨d,h,f,a⟩:=a;exact⟨d,h,Tf.Inv.Zk f,a⟩
 |cont=>obtain⟨d,h,f,a⟩:=a;exact⟨d,h,Tf.Inv.Zk f,a⟩
 |ret ap=>obtain⟨v,d,h,f,u,a⟩:=a;exact⟨v,d,h,Tf.Inv.Zk f,u,a⟩
end
inductive Xm(K:Ζ)(η:S->É z)(f:S)(Q:VK)(x:V)(ο:Hp):Prop
 |mk(p C ξ Δ Ķ Ÿ fs ŝ v:_)(_:x=.ref p)(_:ο p=B (XL C p ξ))(_:ο ξ=B (XD ξ ŝ))(_:Xc K η Ÿ C Δ Ķ fs)(_:f∈fs)(_:ŝ.lookup f=B v)(_:Q v ο)
def IX(K:Ζ)(η:S->É z)(È:TE)(f:S):TE:=λσ H Q=>È σ H λx ο=>Xm K η f Q x ο
section
variable{È:TE}{f:S}{pos:kX}
def zX(d:PE X e È)(h:eo e f X.env (Ŧ e X.env)=Ŧ e X.env):PE X (.Attribute e f pos)<|IX K X.mg È f:=by intro i j k l J m n;refine ME h<|cH (d i j k l _ m n) λo s1 p=>?_;obtain⟨L,q,a,r,b,M,N,O,P,Q,R,S,s,t,u,v,w,x,y,z⟩:=p;subst t;obtain rfl:o=æ b:=r;obtain⟨⟨T,A,C,E,F,G⟩,_,_⟩:=a.hok b _ u;exact SG a C E F ⟨A,G⟩ v w x y λV s2 _ H I=>⟨s,q,H,I,z⟩
end
section
variable{Δ:O}{Ÿ:S}
def PM{f1 f2:S}(a:lZ P w K η Ξ c9 1 f Ä ["self",f1,f2]<|Rn C f1 f2)(Η:jl K Ä ["self",f1,f2] [])(c:Xc K η Ÿ C Δ f [f1,f2]):X8 P w K η Ξ 1 Ÿ C f1 f2:=⟨Δ,f,Ä,_,c,a,Η⟩
def aaI:aB ["self","line","reason"] ["self","line","reason"]<|ay sTf:=by decide+kernel
def qc(h:Wk K η A):X8 P w K η Ξ 1 "TextFault" A.tf "line" "reason":=by obtain⟨b,d,t,i,a⟩:=h.tf;refine PM (i.fn.ok aaI (λm n o p e=>by obtain⟨_,_,_,q,_⟩:=e;rw[q];rfl) λu v x y n m o p z e=>?_) i.bd a;obtain⟨f,C,E,rfl,j,r⟩:=e;exists _,ah (aT<|H_ h.md.yk<|pv 0)<|ah (LU (pv 0) (pv 1) D)<|ai<|MK (pv 0) (pv 2) D;refine⟨f,A.tf,b,d,_,_,D,j,a,f,A.tf,b,d,_,_,D,j,a,bM,λk s l=>⟨f,A.tf,b,d,_,_,k,_,D,by rw[au<|Ϛ l,af],af,a,bM,bh,?_⟩⟩;rw[cy,cM<|by decide+kernel,m_];exact r k s l
def aan:aB ["self","reason","place"] ["self","reason","place"]<|ay sMf:=by decide+kernel
def gX(h:Wk K η A):X8 P w K η Ξ 1 "MakingFault" A.mf "reason" "place":=by obtain⟨b,d,t,i,a⟩:=h.mf;refine PM (i.fn.ok aan (λm n o p e=>by obtain⟨_,_,_,q,_⟩:=e;rw[q];rfl) λu v x y n m o p z e=>?_) i.bd a;obtain⟨f,C,E,rfl,j,r⟩:=e;exists _,ah (aT<|H_ h.md.yk<|pv 0)<|ah (LU (pv 0) (pv 1) D)<|ai<|MK (pv 0) (pv 2) D;refine⟨f,A.mf,b,d,_,_,D,j,a,f,A.mf,b,d,_,_,D,j,a,bM,λk s l=>⟨f,A.mf,b,d,_,_,k,_,D,by rw[au<|Ϛ l,af],af,a,bM,bh,?_⟩⟩;rw[cy,cM<|by decide+kernel,m_];exact r k s l
end
structure Rr(k:M)(A:ź):Prop where
 dp:A.depth+3*k+5<JE
 un:A.units+16*k+200<d_
theorem c6.s{k:M}{A:ź}(r:c6 k A)(e:z):Rr k<|A.mark<|B e:=⟨r.dp,r.un⟩
structure UX(P:Ŝ)(w:ś)(K:Ζ)(η:S->É z)(Ξ:ό)(k:M)(f:O)(Ä:jR)(θ:J S)(Ã:Sp):Prop where
 len:∀vs H Q E,Ã vs H Q E->L vs=L θ
 run:∀(A:ź) (outer:J sG) (s:Í) (H:Hp) (args:Args) (Μ:J z) (vs:J V) (Q:VK) (E:XK),Rr k A->HK P w K η Ξ A outer s H->Cp s Ä args (θ.zip Μ)->bz vs Μ->Ã vs H Q E->
  j4 (ă P w) A (.call (.ref f) args) (CR c9 outer P w H s Q E) s
noncomputable abbrev cxS (P:Ŝ) (w:ś) (K:Ζ) (η:S->É z) (Ξ:ό) (Δ:J S) (ì:S) (Ρ:kK) (f:O) (õ:z) (A:ź) (outer:J sG) (s:Í) (H:Hp):Cx K:=
 {o8 c9 P w K η Ξ Δ ì Ρ f õ A outer s H E0 with calm:=Τ,xe:=λ_ _=>Ϡ}
def Xv{P:Ŝ}{w:ś}{K:Ζ}{η:S->É z}{Ξ:ό}{k:M}{f:O}{name ì:S}{params:OF}{ť:J dP}{Ρ:kK}{n kV o p e ct oc:z}{q C:É O}
  {F:ŕ<|É z} {Δ θ:J S} {Ã:Sp} (G:K.lookup f=B ⟨oc,C,.func<|eB name ì params ť Ρ n kV o p q e ct,F⟩) (I:mD K e ì=U) (χ:aB Δ θ Ρ)
  (r:∀vs H Q E,Ã vs H Q E->L vs=L θ)
  (N:∀(A:ź) (outer:J sG) (s:Í) (H:Hp) (vs:J V) (Q:VK) (E:XK),Ã vs H Q E->∃t,zq (cxS P w K η Ξ Δ ì Ρ f e A outer s H) ť t/\t {nx:=λ_ R=>Q .b_ R,rt:=Q} (start Δ vs) H):
  UX P w K η Ξ (k+1) f (eB name ì params ť Ρ n kV o p q e ct) θ Ã:=by
 refine⟨r,λA outer s H an T vs Q E W b X Y u=>?_⟩;have v:=b.mod.QW.keeps λj l i=>(b.bs j l i).1;have Z:∀m∈θ.zip T,Ρ.names.lookup m.1=B .local\/(Ρ.names.lookup m.1=B .cell/\((ϑ (s.heap.objs.size+1) Ρ.names []).lookup m.1).isSome=U):=λ⟨aa,x⟩ ab=>
  (χ.par aa (q3 ab).1).elim .inl λd=>.inr ⟨d,pV _ _ _<|.inl d⟩
 refine RL (by have:=W.dp;lia) (v _ _ G) D χ.co χ.gen D (JF v I)<|X _ _ _ _ ?_;refine JG χ.kind Z λao ad s1 y=>?_;subst ad;refine⟨(b.mod.nolimit.keeps λj l i=>(b.bs j l i).1).keeps y.toInCall.keep,codeAny_func ?_⟩;refine bx λap ae=>?_;obtain⟨t,af,ag⟩:=N A outer s H vs Q E u;apply ae;have a:Inv (o8 c9 P w K η Ξ Δ ì Ρ f e {A with handled:=g} outer s H E0) [] (start Δ vs) H s1:=D8 χ D ⟨b.frames,b.mod,b.bs,b.Jw,b.qR,b.Ow,b.hok,b.bare⟩ (r _ _ _ _ u) Y y;have ah:Inv (cxS P w K η Ξ Δ ì Ρ f e A outer s H) [] (start Δ vs) H s1:=
  ⟨⟨a.ok.mod,a.ok.kind,a.ok.glob,a.ok.blt,a.ok.above,a.ok.inj,a.ok.has,a.ok.R0,λai=>(by cases ai),Jk b.frames,a.ok.stk,a.ok.SD,a.ok.bs,a.ok.Jw,a.ok.CW,a.ok.C0,a.ok.qR,a.ok.Ow⟩,a.os,a.bare,a.base,a.loc,a.cell,a.free,a.jL,a.pin,a.hok,a.len⟩
 refine Ż (af [] s1 (start Δ vs) H _ ah ag) (λaj ak h=>?_) λi ak h=>ŏ h;cases aj with
 |ret aq=>
  obtain⟨x,al,R,a,am,d⟩:=h;exact⟨x,R,a.os,a.bare,a.base,a.hok,am,d⟩
 |next=>
  obtain⟨al,R,a,d⟩:=h;exact⟨V.b_,R,a.os,a.bare,a.base,a.hok,D,d⟩
 |brk=>obtain⟨_,_,_,d⟩:=h;exact ŏ d
 |cont=>obtain⟨_,_,_,d⟩:=h;exact ŏ d
structure Zo(P:Ŝ)(w:ś)(K:Ζ)(η:S->É z)(Ξ:ό)(k:M)(x:S)(C:O)(θ:J S)(Ã:Sp):Prop where
 ex:∃f Ä,Mk K C f/\UX P w K η Ξ k f Ä θ Ã/\η x=B (.ref C)/\jl K Ä θ []
section
variable{k:M}{x:S}{p pos:kX}{Α:J Ž}{t:TA}
def T5(f:Zo X.prog X.w K X.mg X.base k x C θ<|gx C ς)(n:Rr j X.A)(u:Gl X x)(v:PA X (e::Α) t)(hk:k+1<=j:=by decide)(w:(x==("__debug__":S))=Τ:=by decide)
  (y:ë (e::Α) X.env=(Τ,Ŧ e X.env)::ë Α X.env:=by rfl) (z:(ϴ pos<|ë Α X.env).any (·.1)=Τ:=by rfl):PE X (.Call (.Name x p) (e::Α) [] pos)<|QA C ς t:=by
 obtain⟨ag,ah,h,f,A,E⟩:=f.ex;intro F G H I J i L;refine c5<|n9 i u A ?_ w;refine dQ i.ok.mod.QW h.kp (cH (v pos F G H I _ i L) λa s1 ⟨l,M,b,N,O,P,Q⟩=>⟨b.lV,?_⟩) y z;have m:=Inv.made (C:=C) b;have o:bz (V.ref (s1.heap.objs.size+1)::l)<|æ (s1.heap.objs.size+1)::a:=.cons D N;have q:gx C ς (V.ref (s1.heap.objs.size+1)::l) (T (T M s1.heap.objs.size<|.own<|s1.heap.objs.size+1) (s1.heap.objs.size+1)<|.aE C s1.heap.objs.size []) (λr R=>r=.b_/\J (.ref<|s1.heap.objs.size+1) R) E0:=
  ⟨_,_,l,O,D,P,af,D,by rw[cy];exact Q _ _ (b.hok.fresh<|Cb _) (b.hok.fresh<|Õ _)<|ė<|d9 _⟩
 have s:=E {s1 with heap:=(s1.heap.push ϧ).push<|cZ C s1.heap.objs.size} (æ (s1.heap.objs.size+1)::a) m.lV (by rw[ö,<-o.length];exact f.len _ _ _ _ q);rw[ö]at s;refine mC (IY b.lV h.makes h.init (gI.mp h.fn)<|gJ (f.run _ X.stack _ _ ⟨æ (s1.heap.objs.size+1)::a,[]⟩ (æ (s1.heap.objs.size+1)::a) _ _ E0 ⟨by have:=n.dp;rw[B4];lia,by have:=n.un;rw[BS];lia⟩ (m.TY.make C a []) s o q) λW ai d=>?_);cases W with
 |error e=>exact ŏ d
 |ok Y=>
  cases Y with
  |ret aj=>
   obtain⟨r,Z,aa,ab,ad,ae⟩:=m.after d;subst ad;exact⟨ab,⟨V.ref<|s1.heap.objs.size+1,Z,aa,D,ae⟩⟩
  |next=>exact ŏ d
  |brk=>exact ŏ d
  |cont=>exact ŏ d
end
def ZC:aB ["self","rows","reason","place"] ["self","rows","reason","place"]<|ay UQ:=by decide+kernel
def Mj(b:Wk K η A):Gn P w K η Ξ 1 "Made" A.made ["self","rows","reason","place"]<|gx A.made<|f3 "rows" "reason" "place":=by
 have a:=b.kl.made;refine b.Ms 10 16 ZC s3 λh i j k l d=>?_;obtain⟨m,n,o,p,rfl,e,f,q⟩:=d;obtain⟨r,s,t,rfl,rfl⟩:=g3 e;exists _,ah (aX (pv 0) (pv 1) D)<|ah (aX (pv 0) (pv 2) D)<|ai<|aX (pv 0) (pv 3) D;exists D,f,a.fo,bh,D,af,a.fo,(by show 1<1000;decide),D,af,a.fo,(by show 2<1000;decide)
 rwa [cy,cy,m_,cM<|by decide+kernel,m_,cM<|by decide+kernel,cM<|by decide+kernel,m_]
def Qy(b:Wk K η A):Zo P w K η Ξ 1 "Made" A.made ["self","rows","reason","place"]<|gx A.made<|f3 "rows" "reason" "place":=by have a:=b.kl.made;refine bx λp e=>?_;obtain⟨f,q,d,h,_⟩:=b.ini _ _ _ _ ["self","rows","reason","place"] (υ (i:=10) D) (υ (i:=16) D)<|b4 λ_ _ _ _ _ _ _ _ _ _=>D;obtain⟨r,s,kV,t,u,v,x,y,z,i,j,k⟩:=d.fn.ex;apply e;subst i;refine⟨f,_,h,Xv j k ZC s3 λC E F G H I J l=>?_,a.mg,d.bd⟩;obtain⟨L,M,N,O,rfl,m,n,o⟩:=l;obtain⟨Q,R,S,rfl,rfl⟩:=g3 m;refine⟨_,ah (aX (pv 0) (pv 1) D)<|ah (aX (pv 0) (pv 2) D)<|ai<|aX (pv 0) (pv 3) D,?_⟩;refine⟨D,n,a.fo,bh,D,af,a.fo,(by show 1<1000;decide),D,af,a.fo,(by show 2<1000;decide),?_⟩;rw[cy,cy,m_,cM<|by decide+kernel,m_,cM<|by decide+kernel,cM<|by decide+kernel,m_];exact o
section
variable{KT:Type}[iW KT]
theorem su(ks:M->J KT)(k:J KT):∀n,k∈uniq ks n↔∃i,i<n/\ks i=k
 |0=>⟨λa=>(by cases a),λ⟨i,a,_⟩=>absurd a<|ϳ _⟩
 |n+1=>by
  by_cases a:ks n∈uniq ks n
  .rw[zK a,su ks k n];refine⟨λ⟨i,d,b⟩=>⟨i,aL,b⟩,λe=>?_⟩;obtain⟨i,d,b⟩:=e;by_cases f:i=n
   .subst f;rw[su]at a;obtain⟨h,j,l⟩:=a;exact⟨h,j,l.trans b⟩
   .exact⟨i,aL,b⟩
  .rw[vp a,î,đ,su ks k n]
   grind
theorem DL(ks:M->J KT):∀n,(L<|uniq ks n)=n↔∀i j,i<j->j<n->ks i≠ks j
 |0=>⟨λ_ i j _ a=>absurd a<|ϳ _,λ_=>D⟩
 |n+1=>by
  have e:=DL ks n;have o:=zN ks n;by_cases a:ks n∈uniq ks n
  .rw[zK a];refine⟨λf=>aL,λb=>?_⟩;rw[su]at a;obtain⟨i,d,h⟩:=a;exact absurd h<|b i n d<|d9 _
  .rw[vp a,Ω];constructor
   .intro f i j k p;by_cases l:j=n
    .subst l;intro m;exact a<|(su ks _ _).mpr ⟨i,k,m⟩
    .exact e.mp (by simpa using f) i j k aL
   .intro b;rw[e.mpr λi j d h=>b i j d aL];rfl
end
noncomputable def cnt (Ø:J ê):M:=(L<|uniq (λi=>kT<|Ø.getD i [])<|L Ø)
theorem wo:∀Ø:J ê,ų Ø=U↔∀i j:M,i<j->j<L Ø->Ø.getD i []≠Ø.getD j []
 |[]=>⟨λ_ i j _ k=>absurd k<|ϳ _,λ_=>D⟩
 |a::b=>by
  show(!b.contains a&&ų b)=U↔_;rw[ø,wo b,O_];constructor
  .rintro⟨n,o⟩ i j l e;rw[Ñ]at e;cases i with
   |zero=>
    grind
   |succ i=>
    obtain⟨j,rfl⟩:∃d,j=d+1:=⟨j -1,aL⟩;simp_all
  .intro f;refine⟨?_,λi j l e=>f (i+1) (j+1) fX (by rw[Ñ];simp_all)⟩;cases m:b.contains a with
   |false=>rfl
   |true=>
    obtain⟨d,h⟩:=ŵ<|ē.mp m;have p:=(Ð.mp h).1;refine absurd ?_ (f 0 (d+1) bh (by rw[Ñ];simp_all));show a=b.getD d [];rw[nH,h];rfl
def Lc(Ø:J ê):cnt Ø<=L Ø:=zN _ _
theorem Q9(Ø:J ê):ã (((cnt Ø:M):Z)<((L Ø:M):Z))= !ų Ø:=by
 have i:cnt Ø=L Ø↔ų Ø=U:=by unfold cnt;rw[DL,wo];exact⟨λa b d e f h=>a b d e f<|by rw[h],λa b d e f h=>a b d e f<|u0 h⟩
 have j:=Lc Ø;lia
def m5{Ν e:Type}{f:Ν->e->Prop}:∀{l:J Ν} {m:J e} {i:M} {a:Ν},ď f l m->l[i]?=B a->∃b,m[i]?=B b/\f a b
 |_,_,_,_,.nil,d=>by simp at d
 |_,_,0,_,.cons h _,d=>by simp at d;subst d;exact⟨_,D,h⟩
 |_,_,i+1,_,.cons _ j,d=>by rw[fV]at d;obtain⟨b,n,k⟩:=m5 j d;exact⟨b,by rwa [fV],k⟩
noncomputable def Pr (a:O) (n:M):HO:=.ext λh=>∃o Α ï t,h.get? a=B o/\o.ExactSet/\o.data=.set Α ï t/\t.fits Α.size=U/\Α.size=n
def wF(K:Ζ)(H:Hp)(l:O)(Ø:J ê):Prop:=∃as:J O,aN K H l (as.map V.ref)/\ď (λa t=>Nm H a t) as Ø
inductive Va(K:Ζ)(N:J V)(H:Hp)(Q:VK):Prop
 |mk(l Ø:_)(_:N=[.ref l])(_:wF K H l Ø)(_:L Ø<=17)(_:∀d,H d=g->Q (.ref d) (T H d<|Pr d<|cnt Ø))
inductive UZ(N:J V)(H:Hp)(Q:VK):Prop
 |mk(d n:_)(_:N=[.ref d])(_:H d=B (Pr d n))(_:n<1000)(_:Q (.int n) H)
def S0(A:X.calm=U)(aa:X.A.units+64<d_):ig X (.type "set")<|Va K:=by
 intro ab v ad C ae af ag h o E;obtain⟨F,j,rfl,⟨k,G,w⟩,ah,H⟩:=E;obtain⟨l,rfl,p⟩:=rO o;obtain rfl:l=æ F:=p;obtain⟨x,q,I,_⟩:=h.list G;have J:L x=L j:=by rw[<-q.length,Ε,w.length]
 have N:∀(a:M) f,x.toArray[a]?=B f->∃e d,f=.ref e/\j[a]?=B d/\Nm C e d:=λa f b=>by
  rw[JL]at b;have O:a<L k:=by have:=(Ð.mp b).1;have:=q.length;simp_all
  have P:(k.map V.ref)[a]?=B (.ref k[a]):=bh;obtain⟨l,y,p⟩:=q.get P;rw[b]at y;cases y;obtain⟨d,r,s⟩:=m5 w<|ą O;exact⟨k[a],d,p,r,s⟩
 refine CY (knd:=aZ X.prog X.w) (ks:=λa=>kT<|j.getD a []) (h.ok.hd A) aL I.isList (by rw[ġ];simp_all) (λa f b=>?_) (λa ai f _ Q R=>?_) λs2 S=>?_
 .obtain⟨e,d,rfl,r,s⟩:=N a f b;refine⟨e,D,?_⟩;have:=qj h.hok s;rw[nH,r];exact this
 .obtain⟨e,_,rfl⟩:=ń.mp Q;rcases cT (show pB (bK e) f=U from R) with⟨a,t,z,rfl⟩|⟨aj,t,z,rfl⟩
  .rfl
  .cases z
 .obtain⟨h',t,m,n,u,d,rfl,i,T,W⟩:=S;have Y:n.size=cnt j:=by rw[T,ġ,J];rfl
  refine⟨.ref v.heap.objs.size,_,h.laid (h':=h') (t':=t) (λe l b=>W e l (û b) b) (Õ _) ?_,D,H _<|h.hok.fresh<|Õ v.heap.objs.size⟩;exact⟨⟨m,n,u,d,i.at_,i.ex,i.da,i.lay.fits,Y⟩,⟨m,i.at_⟩,λ_ _ ⟨m,n,u,d,b,o⟩ Z=>⟨m,n,u,d,Z _ b,o⟩⟩
def TF:ig X (.builtin "len") UZ:=by intro q r s d t u v a e f;obtain⟨b,w,rfl,h,x,i⟩:=f;obtain⟨j,rfl,k⟩:=rO e;obtain rfl:j=æ b:=k;obtain⟨⟨y,l,z,A,m,n,o,p,rfl⟩,_,_⟩:=a.hok b _ h;exact call_len_set m n o p aL ⟨.int l.size,d,a.tok _,⟨_,D⟩,i⟩
def SM(K:Ζ)(Â:TE):TE:=Ek UZ<|bg (Ek (Va K)<|bg Â cB) cB
def Eo{p Ŕ pos a:kX}(b:X.calm=U)(d:X.A.units+64<d_)(f:X.mg "len"=g)(h:X.mg "set"=g)(i:PE X e Â)(j:Gl X "len":=by rfl)(k:Gl X "set":=by rfl)
  (á:ë [e] X.env=(Τ,Ŧ e X.env)::ë [] X.env:=by rfl) (í:ë [.Call (.Name "set" Ŕ) [e] [] a] X.env=(Τ,Ŧ (.Call (.Name "set" Ŕ) [e] [] a) X.env)::ë [] X.env:=by rfl):
  PE X (.Call (.Name "len" p) [.Call (.Name "set" Ŕ) [e] [] a] [] pos) (SM K Â):=
 jN TF j f tn (aa (mw (S0 b d) k h PyProof.Rows.Boot.«set» (aa i aj á) bM bM á) aj í) bM bM í
theorem Paired.rZ{Ν d:Type}{e:Ν->d->Prop}:∀{l:J Ν} {m:J d} {a:Ν} {b:d},ď e l m->e a b->ď e (l++[a]) (m++[b])
 |_,_,_,_,.nil,f=>.cons f .nil
 |_,_,_,_,.cons h i,f=>.cons h<|Paired.rZ i f
section
variable{tt:TT}{Q:VK}
def Lw{Χ:Hp->Ν->V->Prop}(N:∀G Κ x y,Χ G x y->av G Κ->Χ Κ x y)(l:J Ν)(v:Ν->V)(p:Ν->ě)(O:aN K ο a<|l.map v)(C:av G ο)(ab:L l<=sizeLine)
  (P:∀x∈l,∀d Θ (j:ě->Hp->Prop),Ex G ο d Θ->j (p x) Θ->tt ((cE σ [i]).set i<|B<|v x) Θ j)
  (S:∀x∈l,p x=U->∀d Θ (j:VK),Ex G ο d Θ->(∀o h y,Ex d Θ o h->Χ o x y->j y h)->Â ((cE σ [i]).set i<|B<|v x) Θ j)
  (W:∀e d Θ Å,ο e=g->Ex G ο d Θ->Lo d Θ e (.Y Å)->ď (Χ d) (l.filter p) Å->Q (.ref e) Θ):
  ∀e,ο e=g->∃s:M->M->Hp->Prop,(∃m,s 0 m<|T ο e<|.Y [])/\∀n m H,s n m H->
   ((xW K a).stop n H/\Q (.ref e) H)\/((xW K a).go n H/\∃t:Hp->Prop,(∀R,t R->∃E,E<m/\s (n+1) E R)/\∀x R,(xW K a).HW n H x R->c8 i x (cE σ [i]) R λu Θ=>cE u [i]=cE σ [i]/\tt u Θ λb h=> if b then Â u h λy F=>∃acc,F e=B (.Y acc)/\L acc<sizeLine/\t (T F e<|.Y<|acc++[y]) else t h):=by
 intro e q;refine zH (λn H=>∃d Å,Ex G ο d H/\Lo d H e (.Y Å)/\ď (Χ d) ((l.take n).filter p) Å) ⟨G,[],Ex.heap C<|aq q,Lo.new C q,.nil⟩ (λn H _ ⟨d,Å,f,_⟩=>av.seq f.same O) (λn x H I ⟨d,Å,f,lo,k⟩=>?_) λH ⟨d,Å,f,lo,k⟩=>?_
 .rw[Ë]at I;obtain⟨y,r,rfl⟩:=Ü.mp I;have ad:=(Ð.mp r).1;have X:l.take (n+1)=l.take n++[y]:=by rw[Ĝ,r];rfl
  refine⟨HU σ i _,P y (υ r) d H _ f ?_⟩;refine gC (λw=>?_) λw=>?_
  .refine S y (υ r) w d H _ f λo h Y z Z=>?_;have A:=lo.ex z;refine⟨Å,A.at_,?_,o,Å++[Y],(f.trans z).write A q,A.put,?_⟩
   .have:(L<|(l.take n).filter p)<=(L<|l.take n):=gH _ _;rw[ŀ]at this;have:=k.length;omega
   .rw[X,jB,iC,à w,Ci];exact Paired.rZ (Paired.cj (λx y aa=>N _ _ _ _ aa z.le) k) Z
  simp_all[lo,jB,iC,Ó,Ci,ö]
 .rw[Ε,č]at k;exact W e d H Å q f lo k
def sR{Χ:Hp->Ν->V->Prop}(t:∀G Κ x y,Χ G x y->av G Κ->Χ Κ x y)(l:J Ν)(v:Ν->V)(u:aN K ο a<|l.map v)(w:av G ο)(z:L l<=sizeLine)
  (A:∀x∈l,∀e Θ (h:VK),Ex G ο e Θ->(∀p f y,Ex e Θ p f->Χ p x y->h y f)->Â ((cE σ [i]).set i<|B<|v x) Θ h)
  (C:∀d e Θ Å,ο d=g->Ex G ο e Θ->Lo e Θ d (.Y Å)->ď (Χ e) l Å->Q (.ref d) Θ):
  ∀d,ο d=g->∃j:M->M->Hp->Prop,(∃m,j 0 m<|T ο d<|.Y [])/\∀n m H,j n m H->
   ((xW K a).stop n H/\Q (.ref d) H)\/((xW K a).go n H/\∃k:Hp->Prop,(∀R,k R->∃q,q<m/\j (n+1) q R)/\∀x R,(xW K a).HW n H x R->c8 i x (cE σ [i]) R λo Θ=>cE o [i]=cE σ [i]/\CN o Θ λb f=> if b then Â o f λy r=>∃acc,r d=B (.Y acc)/\L acc<sizeLine/\k (T r d<|.Y<|acc++[y]) else k f):=
 Lw t l v (λ_=>U) u w z (λx _ e Θ h _ E=>E) (λx F _=>A x F) λd e Θ Å I N O s=>C d e Θ Å I N O (by rw[List.filter_eq_self.mpr λ_ _=>D]at s;exact s)
end
def Dh(G:Hp)(t:O×ê)(v:V):Prop:=∃b,v=.ref b/\Nm G b t.2
def Dh.mono{t:O×ê}{v:V}(h:Dh G t v)(s:av G Κ):Dh Κ t v:=by obtain⟨a,b,d⟩:=h;exact⟨a,b,d.same s⟩
theorem wF.of{e:O}{Ô:J<|O×ê}{Å:J V}(h:G e=B (.Y Å))(p:ď (Dh G) Ô Å):wF K G e (Ô.map (·.2)):=by
 have:∃a:J O,Å=a.map V.ref/\ď (λf i=>Nm G f i) a (Ô.map (·.2)):=by
  clear h
  induction p with
  |nil=>exact⟨[],D,.nil⟩
  |cons h _ j=>
   obtain⟨k,b,l⟩:=h;obtain⟨a,m,d⟩:=j;exact⟨k::a,by rw[b,m];rfl,.cons l d⟩
 obtain⟨a,b,d⟩:=this;exact⟨a,aN.of<|by rw[h,b],d⟩
theorem wF.same(h:wF K G a Ø)(s:av G Κ):wF K Κ a Ø:=by obtain⟨b,d,e⟩:=h;exact⟨b,av.seq s d,Paired.cj (λ_ _ f=>f.same s) e⟩
theorem wF.len(h:wF K G a Ø):∃as:J O,aN K G a (as.map V.ref)/\L as=L Ø:=by obtain⟨as,b,d⟩:=h;exact⟨as,b,d.length⟩
def Om:aB ["text","rows","row"] ["text"]<|ay<|bU 30:=by decide+kernel
noncomputable def jK (t:ê):É<|J ê:=if L t=0 then B [] else if(ώ 32 t).all ħ then B (ώ 32 t) else g
inductive KW(K:Ζ)(vs:J V)(H:Hp)(Q:VK)(b:XK):Prop
 |mk(G a t:_)(_:vs=[.ref a])(_:av G H)(_:Tx K G a t)(_:L t<=30000)(_:(jK t=g->∀R,av H R->Q .b_ R))(_:∀l,jK t=B l->∀Κ R x,Ex G H Κ R->wF K Κ x l->Q (.ref x) R)
def wm(e:Wk K η A):Kn P w K η Ξ c9 3 "split_settings" ["text"]<|KW K:=by
 have f:=e.md;refine e.kn 16 Om λag ak al am p E=>?_;obtain⟨G,q,b,rfl,m,r,F,H,s⟩:=E;refine⟨_,ah (aJ (aF ee (aQ f.a_<|pv 0) az<|aK _) (ai<|aA<|aI aj) aD)<|ah (aH 1 Om<|aR (k8 e) p D aG<|aa (pv 0)<|aa (aW f.sN) aj)<|ah (aJ (cG<|bQ<|lQ D f.qF<|gV D Om.nd (bu<|pv 1) (bL (own:=[("row",2)])<|by kernel_rfl) (λ_ _ _ _ _=>bC 2 Om) (λ_ _ _ _ _=>cY) λ_ _ _ _ _=>aR (g_ e) p D aG<|aa (pv 2) aj) (ai<|aA f9) aD)<|ai<|aA<|gV (Â:=Ek (RA K)<|bg (aV 2) cB) D Om.nd (bu<|pv 1) (bL (own:=[("row",2)])<|by kernel_rfl) (λ_ _ _ _ _=>bC 2 Om) (λ_ _ _ _ _=>cY) λ_ _ _ _ _=>iO f.iV<|pv 2,?_⟩
 refine⟨q,_,D,.inl<|r.same m,D,?_⟩;rw[cz,bP];refine gC (λh=>?_) λh=>?_
 .refine⟨Ò _,λI J=>?_⟩;refine s [] (by unfold jK;rw[à<|by simpa using h]) _ _ I ((Ex.refl m).made (o:=.Y []) J) ⟨[],aN.of af,.nil⟩
 .have t:jK b=if(ώ 32 b).all ħ then B (ώ 32 b) else g:=by unfold jK;rw[Ó (λn=>by rw[n]at h;exact absurd h bM)]
  refine⟨G,q,b,32,D,m,r,F,λM an u v x=>?_⟩;refine bx λao N=>?_;obtain⟨d,i,o,y⟩:=(x.same v.sub).zip;obtain⟨ap,ar,au,aw⟩:=x.zip;apply N;have ax:=kI 32 b;have z:L d<=30001:=by
   grind
  have O:∀a∈d,a.2.length<=30000:=λa Q=>by have:=fh 32 b a.2<|o▸ō Q;lia
  refine⟨u,D,⟨_,i⟩,?_⟩;refine zS d (λa=>V.ref a.1) (λa=>ħ a.2) i (š<|cK z) (λa j C R s3 S=>⟨a.1,a.2,D,(y a j).same s3,O a j,S⟩) λC s3=>(?_);rw[(by rw[o,j5];rfl:(d.all λa=>ħ a.2)=(ώ 32 b).all ħ)];have k:=v.more s3;refine gC (λT=>?_) λT=>?_
  .exact H (by rw[t,(aL:(ώ 32 b).all ħ=Τ)];rfl) C k.same
  .refine⟨u,D,⟨_,av.seq s3 i⟩,?_⟩;refine sR (G:=M) (Χ:=Dh) (λ_ _ _ _=>Dh.mono) d (λa=>V.ref a.1) (av.seq s3 i) k.sub (š<|cK z) (λa j W X R l Y=>⟨a.1,_,D,.inl ⟨((y a j).same s3).same l.same,λZ ab=>?_⟩⟩) (λad W X ay nD l lo ae=>?_)
   .exact Y _ _ _ ((Ex.refl l.sub).made (o:=.bO<|tV a.2) ab) ⟨Z,D,Nm.of af⟩
   .refine s _ (by rw[t,à aL]) _ _ ad ((k.trans l).stay lo<|k.same.free nD) ?_;rw[o];exact wF.of af<|Paired.cj (λaB aC n=>Dh.mono n<|aq lo.out) ae
noncomputable def vg (f:ě) (n θ l:O):J<|S×V:=[("of_file",.bl f),("name",.ref n),("parameters",.ref θ),("lines",.ref l)]
section
variable(K:Ζ)(A:Ad)
def zQ(H:Hp)(l:O)(a:J oO):Prop:=∃as:J O,aN K H l (as.map V.ref)/\ď (mW K A H) as a
inductive qk(H:Hp)(a:O)(c:iz):Prop
 |mk(ξ n θ l:_)(_:H a=B (.aE A.part ξ<|vg c.isFile n θ l))(_:Nm H n c.name)(_:wF K H θ c.params)(_:zQ K A H l c.lines)
inductive yD(G H:Hp)(a l:O)(c:iz):Prop
 |mk(ξ n θ as:_)(_:G a=B (.aE A.part ξ<|vg c.isFile n θ l))(_:Nm G n c.name)(_:wF K G θ c.params)(_:Lo G H l<|.Y<|as.map V.ref)(_:ď (mW K A G) as c.lines)
def mK(H:Hp)(v:V):zF->Prop
 |.prose _=>v=.b_
 |.chunk c=>∃a,v=.ref a/\qk K A H a c
end
theorem zQ.same{l:O}{a:J oO}(h:zQ K A H l a)(e:av H R):zQ K A R l a:=by obtain⟨b,d,f⟩:=h;exact⟨b,av.seq e d,Paired.cj (λ_ _ i=>i.same e) f⟩
theorem qk.same(h:qk K A H a c)(e:av H R):qk K A R a c:=by obtain⟨b,d,f,i,j,k,l,m⟩:=h;exact⟨b,d,f,i,e _ _ j,k.same e,l.same e,m.same e⟩
theorem mK.same{v:V}{b:zF}(h:mK K A H v b)(e:av H R):mK K A R v b:=by
 cases b with
 |prose i=>exact h
 |chunk j=>obtain⟨a,d,f⟩:=h;exact⟨a,d,f.same e⟩
theorem yD.ex{l:O}(h:yD K A G H a l c)(e:Ex G H Κ R):yD K A Κ R a l c:=by obtain⟨b,d,f,i,j,k,m,n,o⟩:=h;exact⟨b,d,f,i,e.le _ _ j,k.same e.le,m.same e.le,n.ex e,Paired.cj (λ_ _ p=>p.same e.le) o⟩
inductive RE(C:O)(vs:J V)(H:Hp)(Q:VK)(a:XK):Prop
 |mk(p ξ f n θ:_)(_:vs=[.ref p,f,n,θ])(_:H p=B (.aE C ξ []))(_:∀l,H l=g->Q .b_ (T (T H l<|.Y []) p<|.aE C ξ [("of_file",f),("name",n),("parameters",θ),("lines",.ref l)]))
def aa6:aB ["self","of_file","name","parameters"] ["self","of_file","name","parameters"]<|ay US:=by decide+kernel
def LP(l:Wk K η A):Gn P w K η Ξ 1 "Part" A.part ["self","of_file","name","parameters"]<|RE A.part:=by
 have d:=l.kl.part;refine l.Ms 5 27 aa6 (λq e r s h=>by obtain⟨_,_,_,_,_,i,_⟩:=h;rw[i];rfl) λe q r s x h=>?_;obtain⟨a,y,z,C,E,rfl,t,u⟩:=h;exists _,ah (aX (pv 0) (pv 1) D)<|ah (aX (pv 0) (pv 2) D)<|ah (aX (pv 0) (pv 3) D)<|ai<|aX (pv 0) (aI aj) D;refine⟨D,t,d.fo,bh,D,af,d.fo,(by show 1<1000;decide),D,af,d.fo,(by show 2<1000;decide),Ò _,λf j=>?_⟩;have m:=(ao af j).symm;exists D,(au m.symm).trans af,d.fo,(by show 3<1000;decide);have v:e f=g:=by rw[cy,cy,au m]at j;exact j
 have:=u f v;rw[m_,cM<|by decide+kernel,m_,cM<|by decide+kernel,cM<|by decide+kernel,m_,cM<|by decide+kernel,cM<|by decide+kernel,cM<|by decide+kernel,m_];have i:∀n o p k:HO,T (T (T (T (T e a n) a o) a p) f<|.Y []) a k=T (T e f<|.Y []) a k:=λn o p k=>by funext b;unfold T;simp_all
 rwa [i]
def LV{Ú:Hp}{n θ:O}{Q:VK}(ex:Ex Ú Ι G H)(q:Nm G n c.name)(r:wF K G θ c.params)(s:c.lines=[])(k:∀Κ R x l,Ex Ú Ι Κ R->yD K A Κ R x l c->Ι l=g->Q (.ref x) R):
  ∀x ξ,H x=g->H ξ=g->ξ≠x->RE A.part (.ref x::([V.bl c.isFile,.ref n,.ref θ]++[])) (T (T H ξ<|.own x) x<|.aE A.part ξ []) (λv Θ=>v=.b_/\Q (.ref x) Θ) E0:=by
 intro x ξ e f h;refine⟨x,ξ,_,_,_,D,af,λl a=>⟨D,?_⟩⟩;have i:=(ao af a).symm;have d:(T H ξ<|.own x) l=g:=by rw[au i]at a;exact a
 have j:l≠ξ:=(ao af d).symm;have t:H l=g:=by rw[au j]at d;exact d
 have u:T (T (T (T H ξ<|.own x) x<|.aE A.part ξ []) l<|.Y []) x (.aE A.part ξ<|vg c.isFile n θ l)=T (T (T H ξ<|.own x) x<|.aE A.part ξ<|vg c.isFile n θ l) l (.Y []):=by funext b;unfold T;lia
 show Q (.ref x) (T (T (T (T H ξ<|.own x) x<|.aE A.part ξ []) l<|.Y []) x<|.aE A.part ξ<|vg c.isFile n θ l);rw[u];have m:=ex.inst (C:=A.part) (fs:=vg c.isFile n θ l) e f h;have g1:=cN (C:=A.part) (fs:=vg c.isFile n θ l) (av.free ex.sub e) (av.free ex.sub f) h;have p:(T (T H ξ<|.own x) x<|.aE A.part ξ<|vg c.isFile n θ l) l=g:=by rwa [au i,au j]
 refine k _ _ x l (m.more<|aq (o:=.Y []) p) ⟨ξ,n,θ,[],af,q.same g1,r.same g1,⟨av.free m.sub p,af⟩,s▸.nil⟩<|ex.same.free t
def K6:aB ["row","found","listed","parameters","name"] ["row"]<|ay<|bU 99:=by decide+kernel
inductive KN(K:Ζ)(A:Ad)(hd:ê->É iz)(vs:J V)(H:Hp)(Q:VK)(b:XK):Prop
 |mk(G a t:_)(_:vs=[.ref a])(_:av G H)(_:Tx K G a t)(_:L t<=30000)(_:(hd t=g->∀R,av H R->Q .b_ R))(_:∀c,hd t=B c->∀Κ R x l,Ex G H Κ R->yD K A Κ R x l c->H l=g->Q (.ref x) R)
def qP(h:Wk K η A):Kn P w K η Ξ c9 5 "parse_chunk_header" ["row"]<|KN K A gp:=by
 have d:=h.md;refine h.kn 43 K6 λa8 a9 Q a_ p ap=>?_;obtain⟨G,ar,I,rfl,au,aw,ax,q,ay⟩:=ap;refine⟨_,ah (aH 1 K6<|aR (jJ h) p D aG<|aa (pv 0) aj)<|ah (aJ (PW.pt<|lz (fy<|oz<|pv 1)<|iu<|cG<|bQ<|aR (AQ h) p D aG<|aa (aY qf (pv 1) az λ_ _=>D) aj) (ai<|aA f9) aD)<|ah (aH 2 K6<|aY qf (pv 1) az λ_ _=>D)<|ah (aJ (PW.pt<|lz (aF kg (aQ d.a_<|pv 2) (aW d.v5)<|aK _)<|iu<|cG<|bQ<|lQ D d.qF<|gV D K6.nd (bu<|pv 2) (bL (own:=[("name",4)])<|by kernel_rfl) (λ_ _ _ _ _=>bC 4 K6) (λ_ _ _ _ _=>cY) λ_ _ _ _ _=>aR (g_ h) p D aG<|aa (pv 4) aj) (ai<|aA f9) aD)<|ah (GJ (i:=3) (Â:=Ek (RA K)<|bg (aV 4) cB) D K6.nd D D (Mr D D D D) (bu<|pv 2) (bL (own:=[("name",4)])<|by kernel_rfl) (λ_ _ _ _ _=>bC 4 K6) (λ_ _ _ _ _=>cY) λ_ _ _ _ _=>iO d.iV<|pv 4)<|ah (aJ (aF iP (Eo D p.units d.a_ d.UL<|pv 3) (aQ d.a_<|pv 3)<|aK _) (ai<|aA f9) aD)<|ai<|aA<|HF (LP h) p D<|aa lg<|aa (iO d.iV<|aY qf (pv 1) az λ_ _=>D)<|aa (pv 3) aj,?_⟩
 refine⟨G,ar,I,D,au,aw,ax,λaB J aC=>?_,λe b x N ak O j y R S al aE=>?_⟩
 .refine(bS<|bS ?_);exact q (by unfold gp;rw[aB];rfl) J aC
 have r:gp I=if(cP e&&(b.all ħ&&(ų b&&ã (L b<=4)))) then B (rC Τ e b) else g:=by unfold gp;rw[x];rfl
 have a':L e<=L I:=nN x;have ba:=qo x;refine(dJ ?_);refine⟨O,_,_,V.ref j,D,D,av.x_ R.sub S,D,j,e,D,al.same R.sub,aL,λW s2=>(?_)⟩;have s:=R.more s2;refine gC (λt=>?_) λt=>?_
 .exact q (by rw[r,(by simpa using t:cP e=false)];rfl) W s.same
 have t:cP e=U:=by simpa using t
 refine⟨O,_,_,V.ref y,D,D,av.x_ s.sub S,D,?_⟩;refine bx λbb aI=>?_;obtain⟨f,u,z,am⟩:=(aE.same s.sub).zip;apply aI;have aM:L f=L b:=by rw[z,Ε]
 have bc:L f<=30000:=by lia
 refine⟨y,_,D,.inl u,?_⟩;show if ã ((4:Z)<(((L<|f.map λa=>V.ref a.1):M):Z))=U then _ else _
 rw[Ε,aM];refine gC (λaN=>bS ?_) λaN=>?_
 .exact q (by rw[r,Ņ aL,ϭ,ϭ,ϭ];rfl) W s.same
 refine⟨y,D,⟨_,u⟩,?_⟩;have aO:∀a∈f,a.2.length<=30000:=λa k=>by have:=pH x a.2<|z▸ō k;lia
 refine zS f (λa=>V.ref a.1) (λa=>ħ a.2) u (š<|cK aL) (λa k X aP s3 aS=>⟨a.1,a.2,D,(am a k).same s3,aO a k,aS⟩) λX s3=>(?_);have Y:(f.all λa=>ħ a.2)=b.all ħ:=by rw[z,j5];rfl
 rw[Y];have C:=s.more s3;refine gC (λaT=>?_) λaT=>?_
 .exact q (by rw[r,(aL:b.all ħ=Τ),Ϫ,ϭ];rfl) X C.same
 refine⟨y,D,⟨_,av.seq s3 u⟩,?_⟩;refine sR (G:=N) (Q:=λE ak=>c8 3 E _ ak _) (Â:=Ek (RA K)<|bg (aV 4) cB) (Χ:=Dh) (λ_ _ _ _=>Dh.mono) f (λa=>V.ref a.1) (av.seq s3 u) C.sub (š<|cK aL) (λa k v W aP l aU=>⟨a.1,_,D,.inl ⟨((am a k).same s3).same l.same,λan F=>?_⟩⟩) λm v aX ab nD l lo aZ=>?_
 .exact aU _ _ _ ((Ex.refl l.sub).made (o:=.bO<|tV a.2) F) ⟨an,D,Nm.of af⟩
 have ad:=(C.trans l).stay lo<|C.same.free nD;have H:wF K (T v m<|.Y ab) m b:=by rw[z];exact wF.of af<|Paired.cj (λE bd j=>Dh.mono j<|aq lo.out) aZ
 have ae:av N<|T v m<|.Y ab:=l.le.trans<|aq lo.out;generalize T v m (.Y ab)=be at ad H ae;have bf:Ex N X v aX:=l;refine⟨m,b,D,H.same ad.sub,aL,λao a0=>⟨ao,_,D,af,by have:=Lc b;lia,?_⟩⟩;have n:=ad.more<|aq (o:=Pr ao<|cnt b) a0;obtain⟨a1,a2,a3⟩:=(H.same n.sub).len;refine⟨m,_,D,.inl a2,?_⟩;show if ã (((cnt b:M):Z)<(((L<|a1.map V.ref):M):Z))=U then _ else _
 rw[Ε,a3,Q9];refine gC (λag=>?_) λag=>?_
 .exact q (by rw[r,(by simpa using ag:ų b=false),Ϫ,ϭ,ϭ];rfl) _ n.same
 refine⟨O,_,_,V.ref j,D,D,av.x_ (ae.trans n.sub) S,D,j,_,D,.inl ⟨(al.same ae).same n.sub,λan F=>(?_)⟩⟩;refine LV (K:=K) (A:=A) (c:=rC Τ e b) (n.made (o:=.bO<|tV e) F) (Nm.of af) (H.same<|aq<|av.free n.sub F) D λa4 J E a5 Y a6 a7=>?_;exact ay _ (by rw[r,t,(aL:b.all ħ=U),(by simpa using ag:ų b=true),ő (aL:L b<=4)];rfl) a4 J E a5 Y a6 a7
def aaX:aB ["row"] ["row"]<|ay<|bU 98:=by decide+kernel
theorem V8:xJ ("@file ":S)=yQ:=by decide+kernel
theorem Ut:xJ ("@chunk ":S)=qv:=by decide+kernel
theorem Ay{t:ê}(h:yQ.isPrefixOf t=U):qv.isPrefixOf t=Τ:=by obtain⟨a,rfl⟩:=mJ h;rw[(bM:yQ=[64,102,105,108,101,32]),(bM:qv=[64,99,104,117,110,107,32])];rfl
def zj(f:Wk K η A):Kn P w K η Ξ c9 6 "parse_header" ["row"]<|KN K A EV:=by
 refine f.kn 42 aaX λY an L ao l ab=>?_;obtain⟨s,k,a,rfl,h,m,n,N,O⟩:=ab;have b:=Er a;have t:∀u:M,br (tV a) (B (u:Z)) g=tV (a.drop u):=λu=>by simp[o9,tV,kW]
 refine⟨_,ah (aJ (PW.pt<|w_ (bQ<|aR (oW f) l D aG<|aa (pv 0)<|aa rR aj)<|vY<|bQ<|aR (Kd f) l D aG<|aa (bF bZ (pv 0) (bD az) dz) aj) (ai<|aA<|HF (LP f) l D<|aa lg<|aa (iO f.md.iV<|bF bZ (pv 0) (bD az) dz)<|aa (aI aj) aj) aD)<|ah (aJ (bQ<|aR (oW f) l D aG<|aa (pv 0)<|aa rR aj) (ai<|aA<|aR (qP f) l D aG<|aa (bF bZ (pv 0) (bD az) dz) aj) aD)<|ai<|aA f9,?_⟩
 have Q:∀i,av Y i->EV a=(if qv.isPrefixOf a then gp (a.drop 7) else g)->
   qM (Lm (tB<|xZ (Ia K) [] E0<|bg (aV 0)<|bg (tC<|.str "@chunk ") cB) (tF<|xZ (KN K A gp) [] E0<|bg (tSl (Wb K) (aV 0) (P8<|tC<|.int 7) F0) cB) HM) (tF<|tC .b_)
    {nx:=λ_ j=>L .b_ j,rt:=L} [B<|.ref k] i:=by
  intro i s1 b;refine⟨k,a,"@chunk ",D,(m.same h).same s1,n,by decide+kernel,by decide+kernel,λv s2=>(?_)⟩;rw[Ut];have x:=s1.trans s2;refine gC (λc=>?_) λc=>?_
  .rw[à c]at b;refine⟨k,_,D,(m.same h).same x,λe y=>?_⟩;have d:=((Ex.refl h).more x).made (o:=.Y<|br (tV a) (B 7) g) y;have p:Tx K (T s e<|.Y<|br (tV a) (B 7) g) e<|a.drop 7:=aN.of<|af.trans<|Ğ (λq=>B<|HO.Y q)<|t 7;generalize T s e (.Y<|br (tV a) (B 7) g)=R at d p;generalize T v e (.Y<|br (tV a) (B 7) g)=z at d;exact⟨R,e,a.drop 7,D,d.sub,p,by rw[Ϸ];omega,λad j ae=>N (b▸ad) j<|d.same.trans ae,λc ag C j E S F G H=>O c (b▸ag) C j E S (d.trans F) G<|d.same.free H⟩
  .rw[Ó aL]at b;exact N b v x
 refine⟨k,a,"@file ",D,m.same h,n,by decide+kernel,by decide+kernel,λi s1=>(?_)⟩;rw[V8];refine gC (λI=>?_) λI=>?_
 .rw[à I]at b;refine⟨k,_,D,(m.same h).same s1,λe y=>?_⟩;have p:Tx K (T i e<|.Y<|br (tV a) (B 6) g) e<|a.drop 6:=aN.of<|af.trans<|Ğ (λq=>B<|HO.Y q)<|t 6;have s2:=aq (o:=.Y<|br (tV a) (B 6) g) y;generalize T i e (.Y<|br (tV a) (B 6) g)=v at p s2;refine⟨e,_,D,p,by rw[Ϸ];omega,λz s3=>(?_)⟩;have J:=s1.trans<|s2.trans s3;refine gC (λV=>?_) λV=>?_
  .rw[à V]at b;refine⟨k,_,D,(m.same h).same J,λr ak=>?_⟩;have d:=((Ex.refl h).more J).made (o:=.Y<|br (tV a) (B 6) g) ak;have W:Tx K (T s r<|.Y<|br (tV a) (B 6) g) r<|a.drop 6:=aN.of<|af.trans<|Ğ (λq=>B<|HO.Y q)<|t 6;generalize T s r (.Y<|br (tV a) (B 6) g)=R at d W;generalize T z r (.Y<|br (tV a) (B 6) g)=ap at d;refine⟨r,_,D,.inl ⟨W.same d.sub,λar al=>⟨Ò _,λS n=>?_⟩⟩⟩;have X:=d.made (o:=.bO<|tV<|a.drop 6) al;refine LV (K:=K) (A:=A) (c:=rC U (a.drop 6) []) (X.made (o:=.Y []) n) (Nm.of<|(aq<|av.free X.sub n) _ _ af) ⟨[],aN.of af,.nil⟩ D λC j E am F G H=>?_;exact O _ b C j E am F G H
  .rw[Ó aL]at b;exact Q z J (by rw[b,Ay I];rfl)
 .rw[Ó aL]at b;exact Q i s1 b
noncomputable def nD (t:ê):z6:=.tuple<|(tI t).map Ŭ
def Rv{t:ê}(h:Nm H a t):Dp K H (.ref a)<|nD t:=.bO (by rw[HD];exact h.sq)<|nX _
theorem B0{K:Ζ}{H:Hp}:∀{as:J O} {Ø:J ê},ď (λa t=>Nm H a t) as Ø->yi K H (as.map V.ref) (Ø.map nD)
 |_,_,.nil=>.nil
 |_,_,.cons b t=>.cons (Rv b)<|B0 t
theorem Kr(s t:ê):jf (nD s) (nD t)=ã (s=t):=by show fz _ _=_;rw[sA,Ld]
theorem Kc(t:ê):Ce (nD t)=U:=wg _
theorem vK:∀Ø:J ê,e7 (Ø.map nD)=U
 |[]=>D
 |b::a=>by show(Ce (nD b)&&e7 (a.map nD))=U;rw[Kc,vK a];rfl
theorem VJ(t:ê):(nD t).depth=1:=by show eG _+1=1;rw[vQ]
theorem z0:∀Ø:J ê,eG (Ø.map nD)<=1
 |[]=>Ò _
 |b::a=>by show max (UC<|nD b) (eG<|a.map nD)<=1;rw[VJ];have:=z0 a;simp_all
theorem L6:∀a Ø:J ê,fz (a.map nD) (Ø.map nD)=ã (a=Ø)
 |[],[]=>D
 |[],_::_=>D
 |_::_,[]=>D
 |s::a,b::Ø=>by show(jf (nD s) (nD b)&&fz (a.map nD) (Ø.map nD))=_;rw[Kr,L6 a Ø];simp
def Bv(Ø:J ê):jV (.list<|Ø.map nD)=U:=by show(e7 (Ø.map nD)&&ã (eG (Ø.map nD)+1<=64))=U;rw[vK,ő (by have:=z0 Ø;lia)];rfl
inductive aaT(K:Ζ)(x:V)(y:V)(H:Hp)(Q:VK):Prop
 |mk(a b d Ø:_)(_:x=.ref a)(_:y=.ref b)(_:wF K H a d)(_:wF K H b Ø)(_:Q (.bl<|!ã (d=Ø)) H)
inductive ZO(K:Ζ)(x:V)(y:V)(H:Hp)(Q:VK):Prop
 |mk(a b t Ø:_)(_:x=.ref a)(_:y=.ref b)(_:Nm H a t)(_:wF K H b Ø)(_:Q (.bl<|Ø.contains t) H)
def V1(a:X.A.units+64<d_):pq X (Ų .NotEq)<|aaT K:=pq.imp (RC a) λo p b d ⟨q,r,e,f,h,i,⟨s,j,k⟩,⟨t,l,m⟩,n⟩=>by subst h i;refine⟨.list<|e.map nD,.list<|f.map nD,.Y j<|B0 k,.Y l<|B0 m,Bv _,Bv _,?_⟩;show d (.bl<|!fz _ _) b;rw[L6];exact n
def VD(s:X.A.units+64<d_):pq X (Ų .In)<|ZO K:=by
 intro t u v f w a h i x e j k l;obtain⟨y,z,b,d,rfl,rfl,m,⟨A,n,o⟩,C⟩:=l;obtain⟨E,p⟩:=Dp.reads e _ _ h (Rv m) j;obtain⟨F,q⟩:=Dp.reads e (.list<|d.map nD) _ i (.Y n<|B0 o) k;refine SeqAt.in_list_reads q p (vK _) (Kc _) (by have:=z0 d;lia) ⟨.bl _,f,e,D,?_⟩;have r:((d.map nD).any λa=>jf a<|nD b)=d.contains b:=by
  rw[XU];have:((λa=>jf a<|nD b)∘nD)=λa=>ã<|a=b:=by funext a;exact Kr a b
  rw[this]
  grind
 rwa [r]
noncomputable def OR (bl:O) (pv:V) (Ā:O) (ů Ű:Z) (Ġ:O):J<|S×V:=[("blocks",.ref bl),("part",pv),("elses",.ref Ā),("part_count",.int ů),("line_count",.int Ű),("parameters",.ref Ġ)]
def Dm.CU{x ì:S}{k:M}(a:Dm K x ì st θ f Ä)(d:GR K C x f)(χ:aB Δ θ<|ay st)(e:∀vs H Q E,Ã vs H Q E->L vs=L θ)
  (h:∀(b:z) (A:ź) (outer:J sG) (s:Í) (H:Hp) (vs:J V) (Q:VK) (E:XK),c6 k (A.deeper<|gK ì (ay st) s.heap.objs.size f b)->Ã vs H Q E-> ∃t,zq (o8 c9 P w K η Ξ Δ ì (ay st) f b A outer s H E).SI (eY st) t/\t {nx:=λ_ R=>Q .b_ R,rt:=Q} (start Δ vs) H):pR P w K η Ξ c9 (k+1) C x θ Ã:=
 ⟨f,Ä,d,a.fn.ok χ e h,a.bd⟩
section
variable{x c m:S}{k:M}
theorem Wk.CU(d:Wk K η A)(i j:M)(χ:aB Δ θ<|ay st)(e:∀{f:O} {a:z} {A:ź} {outer:J sG} {s:Í} (H:Hp) (vs:J V) (Q:VK) (E:XK),c6 k (A.deeper<|gK q (ay st) s.heap.objs.size f a)->Ã vs H Q E-> ∃t,zq (o8 c9 P w K η Ξ Δ q (ay st) f a A outer s H E).SI (eY st) t/\t {nx:=λ_ R=>Q .b_ R,rt:=Q} (start Δ vs) H)
  (l:(Oc A)[i]?=B (c,C):=by rfl) (n:wU[j]?=B (c,m,q,st):=by rfl) (b:eV m q st θ:=by first|exact b1 λ_ _ _ _ _ _ _=>rfl|exact b2 λ_ _ _ _ _ _ _ _=>rfl|exact b3 λ_ _ _ _ _ _ _ _ _=>rfl|exact b4 λ_ _ _ _ _ _ _ _ _ _=>rfl|exact b5 λ_ _ _ _ _ _ _ _ _ _ _=>rfl) (o:∀vs H Q E,Ã vs H Q E->L vs=L θ:=by intro _ _ _ _ h;first|(cases h;subst_vars;rfl)|((repeat(rcases h with⟨_,h⟩));subst_vars;rfl)):pR P w K η Ξ c9 (k+1) C m θ Ã:=by
 obtain⟨f,r,p,h⟩:=d.dm _ _ _ _ _ _ (υ l) (υ n) b;exact p.CU h χ o λ_ _ _ _=>e
end
def Wt:aB ["self"] ["self"]<|ay<|Gr 2:=by decide+kernel
inductive LO(C:O)(vs:J V)(H:Hp)(Q:VK)(a:XK):Prop
 |mk(r ξ bl pv Ā ů Ű Ġ å:_)(_:vs=[.ref r])(_:H r=B (.aE C ξ<|OR bl pv Ā ů Ű Ġ))(_:H bl=B (.Y å))(_:L å<=200)(_:(L å=200->Q (.int 6) H))(_:(L å≠200->Q (.int 0) (T H bl<|.Y<|å++[.b_])))
def C7(a:Wk K η A):pR P w K η Ξ c9 1 A.aS "take_prose" ["self"]<|LO A.aS:=by
 have e:=a.kl;refine a.CU 12 35 Wt λn o p q r j=>?_;obtain⟨s,t,f,u,v,x,y,z,h,rfl,i,b,C,k,l⟩:=j;refine⟨_,ah (aJ (aF ee (aQ a.md.a_<|W (pv 0) D) (aW a.md.tY)<|aK _) (ai<|aA az) aD)<|ah (aT<|ek (W (pv 0) D) f9)<|ai<|aA az,?_⟩
 exists D,i,e.aS.fo,D,f,h,D,.inl<|aN.of b,D;rw[cz];refine gC (λd=>k aL) λd=>?_;refine⟨D,i,e.aS.fo,D,.inl ⟨D,_,aN.of b⟩,f,h,.b_,D,D,b,by rw[Î];omega,l (λm=>by rw[m]at d;exact absurd d bM)⟩
abbrev Zd(C:O):Sp:=λvs H Q _=>∃r ξ bl pv Ā ů Ű Ġ Α,vs=[.ref r]/\H r=B (.aE C ξ<|OR bl pv Ā ů Ű Ġ)/\H Ā=B (.Y Α)/\L Α<=1000/\(Α≠[]->Q (.int 4) H)/\(Α=[]->Q (.int 0) (T H r<|.aE C ξ<|OR bl .b_ Ā ů Ű Ġ))
def Vp:aB ["self"] ["self"]<|ay<|Gr 5:=by decide+kernel
def GF(a:Wk K η A):pR P w K η Ξ c9 1 A.aS "take_end" ["self"]<|Zd A.aS:=by
 have d:=a.kl;refine a.CU 12 33 Vp λo p q r s f=>?_;refine bx λt h=>?_;obtain⟨u,v,x,y,i,z,C,E,j,rfl,e,k,F,l,m⟩:=f;apply h;refine⟨_,ah (aJ (aF kg (aQ a.md.a_<|W (pv 0) D) az<|aK _) (ai<|aA az) aD)<|ah (aX (pv 0) f9 D)<|ai<|aA az,?_⟩
 exists D,e,d.aS.fo,D,i,j,D,.inl<|aN.of k;refine nU (λb=>l λn=>by rw[n]at b;exact absurd b bM) λb=>?_;exists D,e,d.aS.fo,(by show 6<1000;decide);exact m<|Ŷ fX
noncomputable def fJ (k:Z) (nest:J ě):ě:=if k=1 then ã (L nest<6) else match nest with
 |[]=>Τ
 |b::_=>ã (k≠2)|| !b
noncomputable def sy (k:Z) (nest:J ě):J ě:=if k=1 then Τ::nest else if k=2 then U::nest.drop 1 else nest.drop 1
noncomputable def nK (nest:J ě):J V:=nest.reverse.map V.bl
inductive JU(C b:O)(vs:J V)(H:Hp)(Q:VK)(d:XK):Prop
 |mk(r ξ bl pv Ā ů Ű Ġ nest c À a st:_)(_:vs=[.ref r,.ref c])(_:H r=B (.aE C ξ<|OR bl pv Ā ů Ű Ġ))(_:H Ā=B (.Y<|nK nest))(_:H c=B (.aE b À [("kind",.int a),("setting",st)]))(_:Q (.bl<|fJ a nest) H)
def WE:aB ["self","condition"] ["self","condition"]<|ay<|Gr 7:=by decide+kernel
theorem dU(b:ě)(r:J ě):nK (b::r)=nK r++[.bl b]:=by unfold nK;simp
theorem Ip(n:M):R1 (n+1) (-1)=B n:=by
 unfold R1
 grind
theorem jj(nest:J ě):(L<|nK nest)=L nest:=by unfold nK;simp
def Fq(i:Wk K η A):pR P w K η Ξ c9 1 A.aS "is_paired" ["self","condition"]<|JU A.aS A.cond:=by
 have d:=i.md;have e:=i.kl;refine i.CU 12 29 WE λt u v x y q=>?_;obtain⟨z,C,E,F,j,G,H,I,nest,J,M,a,st,rfl,k,l,n,b⟩:=q;have N:fJ a nest=fJ a nest:=rfl;refine⟨_,ah (aJ (aF ee (W (pv 1) D) (aW d.QV)<|aK _) (ai<|aA<|l9 iP (aQ d.a_<|W (pv 0) D) (aW d.vo)<|aK _) aD)<|ah (aJ (aF ee (aQ d.a_<|W (pv 0) D) az<|aK _) (ai<|aA lg) aD)<|ai<|aA<|Bw (l9 I1 (W (pv 1) D) (aW d.F5)<|aK _)<|p9<|Rp<|aY aM (W (pv 0) D) (uc ou az) λ_ _=>D,?_⟩
 exists D,n,e.cond.fo,D,D;rw[cz];refine gC (λf=>?_) λf=>?_
 .exists D,k,e.aS.fo,D,j,_,D,.inl<|aN.of l;have r:fJ a nest=ã (((L<|nK nest):Z)<6):=by unfold fJ;rw[à<|by simpa using f,jj];lia
  rw[r]at b;exact b
 have f:¬a=1:=λo=>aL;exists D,k,e.aS.fo,D,j,_,D,.inl<|aN.of l,D;rw[cz,jj];refine gC (λh=>?_) λh=>?_
 .have:=Ŷ (by simpa using h);subst this;rw[(by unfold fJ;rw[Ó f]:fJ a []=false)]at b;exact b
 obtain⟨m,s,rfl⟩:=Dz (λo=>by rw[o]at h;exact absurd h bM:nest≠[]);rw[(by unfold fJ;rw[Ó f]:fJ a (m::s)=(decide (a≠2)|| !m))]at b;exists D,n,e.cond.fo,D,D,_,D;rw[cz];refine gC (λp=>?_) λp=>?_
 .simp_all
 .rw[Ņ<|by simpa using p,jg]at b;refine⟨D,k,e.aS.fo,D,j,_,_,V.bl m,D,D,aN.of l,?_,_,D,b⟩;simp[dU,L2.ry]
inductive WY(C b:O)(vs:J V)(H:Hp)(Q:VK)(d:XK):Prop
 |mk(r ξ bl pv Ā ů Ű Ġ nest c À a st:_)(_:vs=[.ref r,.ref c])(_:H r=B (.aE C ξ<|OR bl pv Ā ů Ű Ġ))(_:H Ā=B (.Y<|nK nest))(_:H c=B (.aE b À [("kind",.int a),("setting",st)]))(_:fJ a nest=U)(_:L nest<=1000)(_:Q .b_<|T H Ā<|.Y<|nK<|sy a nest)
def V5:aB ["self","condition"] ["self","condition"]<|ay<|Gr 8:=by decide+kernel
def Tj(f:Wk K η A):pR P w K η Ξ c9 1 A.aS "pair" ["self","condition"]<|WY A.aS A.cond:=by
 have a:=f.kl;refine f.CU 12 31 V5 λr s t u v p=>?_;obtain⟨x,y,z,C,j,E,F,G,nest,H,I,h,st,rfl,k,b,m,J,M,i⟩:=p;refine⟨_,ai<|aJ (aF ee (W (pv 1) D) (aW f.md.QV)<|aK _) (ai<|aT<|ek (W (pv 0) D) lg)<|ai<|aJ (aF ee (W (pv 1) D) (aW f.md.F5)<|aK _) (ai<|Qt lg<|Pa (W (pv 0) D) (uc ou az) I3)<|ai<|aT<|P7 ϋ ur Gj Qo<|W (pv 0) D,?_⟩
 exists D,m,a.cond.fo,D,D;rw[cz];refine gC (λd=>?_) λd=>?_
 .rw[(by unfold sy;rw[à<|by simpa using d]:sy h nest=false::nest),dU]at i;refine⟨D,k,a.aS.fo,D,.inl ⟨D,_,aN.of b⟩,j,_,_,D,D,b,by rw[jj,Î];lia,i⟩
 have d:¬h=1:=λn=>aL;have q:nest≠[]:=λn=>by simp_all[fJ,Ó]
 obtain⟨l,e,rfl⟩:=Dz q;exists D,m,a.cond.fo,D,D;rw[cz];refine gC (λo=>?_) λo=>?_
 .rw[(by unfold sy;rw[Ó d,à<|by simpa using o];rfl:sy h (l::e)=true::e),dU]at i;refine⟨D,k,a.aS.fo,D,j,_,_,(L<|nK e),D,D,b,?_,?_⟩
  .simp[jj,Ñ,Ip]
  simp_all[dU,JN,Õ,yO]
 .rw[(by unfold sy;rw[Ó d,Ó λn=>aL];rfl:sy h (l::e)=e)]at i;refine⟨D,k,a.aS.fo,D,.inl ⟨D,_,aN.of b⟩,j,_,V.bl l,D,D,b,?_,?_⟩
  .simp[dU,Ω]
  .rwa [dU,tR]
theorem MA:∀{as:J O} {θ:J Ť},ď (cI K A G) as θ->∃Ô:J<|O×Ť×O,as=Ô.map (·.1)/\θ=Ô.map (·.2.1)/\(∀a∈Ô,cI K A G a.1 a.2.1)/\
  (∀a∈Ô,uU a.2.1=U->∃ξ,G a.1=B (.aE A.par ξ [("name",.ref a.2.2)]))/\ď (Nm G) ((Ô.filter λa=>uU a.2.1).map λa=>a.2.2) (ϸ θ)
 |_,_,.nil=>⟨[],D,D,(λa i=>(nomatch i)),(λa i=>(nomatch i)),.nil⟩
 |_,_,.cons (a:=h) (b:=p) q r=>by
  obtain⟨Ô,j,k,s,l,m⟩:=MA r;have n:∀f,∀a∈(h,p,f)::Ô,cI K A G a.1 a.2.1:=λf a b=>by
   rcases ç.mp b with e|b
   .rwa [e]
   .exact s a b
  cases p with
  |param t=>
   obtain⟨ξ,f,g1,g2⟩:=id q;refine⟨(h,.param t,f)::Ô,by rw[j];rfl,by rw[k];rfl,n f,λa b d=>?_,.cons g2 m⟩;rcases ç.mp b with e|b
   .rw[e];exact⟨ξ,g1⟩
   .exact l a b d
  |lit o=>
   refine⟨(h,.lit o,0)::Ô,by rw[j];rfl,by rw[k];rfl,n 0,λa b d=>?_,m⟩;rcases ç.mp b with e|b
   .rw[e]at d;cases d
   .exact l a b d
  |use o u=>
   refine⟨(h,.use o u,0)::Ô,by rw[j];rfl,by rw[k];rfl,n 0,λa b d=>?_,m⟩;rcases ç.mp b with e|b
   .rw[e]at d;cases d
   .exact l a b d
inductive Sx(K:Ζ)(A:Ad)(vs:J V)(H:Hp)(Q:VK)(d:XK):Prop
 |mk (r ξ bl p Ā ů Ű Ġ dp b n θ l a dl ù params OS:_) (_:vs=[.ref r,.ref a]) (_:H r=B (.aE A.aS ξ<|OR bl (.ref p) Ā ů Ű Ġ)) (_:H p=B (.aE A.part dp<|vg b n θ l)) (_:wF K H θ params) (_:H a=B (.aE A.code dl [("pieces",.ref ù)])) (_:jF K A H ù OS) (_:L OS<=30000) (_:∀R,av H R->Q (.bl<|(ϸ OS).all λn=>params.contains n) R)
def Bu:aB ["self","line","names","piece","name"] ["self","line"]<|ay<|Gr 6:=by decide+kernel
def tH(j:Wk K η A):pR P w K η Ξ c9 1 A.aS "knows_parameters" ["self","line"]<|Sx K A:=by
 have e:=j.kl;refine j.CU 12 30 Bu λt au Q aw I M=>?_;refine bx λax N=>?_;obtain⟨ay,az,aB,aC,aD,aE,aF,aG,aH,aI,u,R,aJ,aK,dl,v,k,l,rfl,S,T,X,Y,⟨aM,x,m⟩,y,Z⟩:=M;obtain⟨f,aa,ab,ad,ae,z⟩:=MA m;apply N;have C:aN K t v<|f.map λa=>V.ref a.1:=by rw[aa,Ħ]at x;exact x
 have aO:L f<=30000:=by rw[ab,Ε]at y;exact y
 refine⟨_,ah (GJ (i:=2) (tt:=tB<|Ek (Eb K)<|bg (aV 3)<|bg (tC<|.ref A.par) cB) (Â:=i9 K (aV 3) "name") D Bu.nd D D (Mr D D D D) (bu<|W (pv 1) D) (bL (own:=[("piece",3)])<|by kernel_rfl) (λ_ _ _ _ _=>bC 3 Bu) (λ_ _ _ _ _=>vt<|bQ<|f_ j.md.bH (pv 3) e.par.mg) λ_ _ _ _ _=>W (pv 3) D)<|ai<|aA<|lQ D j.md.qF<|gV (Â:=OQ (ZO K) (aV 4)<|i9 K (i9 K (aV 0) "part") "parameters") D Bu.nd (bu<|pv 2) (bL (own:=[("name",4)])<|by kernel_rfl) (λ_ _ _ _ _=>bC 4 Bu) (λ_ _ _ _ _=>cY) λ_ _ _ _ _=>l9 (VD I.units) (pv 4) (W (W (pv 0) D) D)<|by with_unfolding_all rfl,?_⟩
 refine⟨D,Y,e.code.fo,Zi,v,D,⟨_,C⟩,?_⟩;refine Ks (Q:=λaf ag=>c8 2 af _ ag _) f (λa=>V.ref a.1) (λa=>uU a.2.1) (λa=>V.ref a.2.2) C (š<|cK aL) (λa n h E s2 o=>?_) (λa n aj h E s2 o=>?_) λp h aP s2 m=>?_
 .obtain⟨ak,al,am⟩:=e.Bk<|(ad a n).same s2;exact⟨_,_,ak,_,D,al,am,o⟩
 .obtain⟨aQ,an⟩:=ae a n aj;exact⟨D,s2 _ _ an,e.par.fo,Zi,o h<|av.refl _⟩
 .obtain⟨d,F,ao,ap⟩:∃d:J<|O×ê,((f.filter λa=>uU a.2.1).map λa=>a.2.2)=d.map (·.1)/\ϸ l=d.map (·.2)/\∀b∈d,Nm t b.1 b.2:=by have aR:=z.length;refine⟨(((f.filter λa=>uU a.2.1).map λa=>a.2.2)).zip<|ϸ l,by rw[zB fX],by rw[zC fX],λb q=>?_⟩;obtain⟨i,r⟩:=ŵ q;rw[List.getElem?_zip_eq_some]at r;obtain⟨aS,G,aq⟩:=m5 z r.1;rw[r.2]at G;cases G;exact aq
  have H:aN K h p<|d.map λb=>V.ref b.1:=by
   have:h p=B (.Y<|d.map λb=>V.ref b.1):=by rw[m];congr 2;rw[show(λa:O×Ť×O=>V.ref a.2.2)=V.ref∘(λa:O×Ť×O=>a.2.2) from D,<-Ħ,F,Ħ];rfl
   exact aN.of this
  have aT:L d<=30000:=by
   have aU:L d=(L<|(f.filter λa=>uU a.2.1).map λa=>a.2.2):=by rw[F,Ε]
   grind
  refine⟨p,D,⟨_,H⟩,?_⟩;refine r9 d (λb=>V.ref b.1) (λb=>k.contains b.2) H (š<|cK aL) (λb q s E s3 ar=>?_) λs s3=>?_
  .exact⟨D,s3 _ _<|s2 _ _ S,e.aS.fo,D,D,s3 _ _<|s2 _ _ T,e.part.fo,D,b.1,R,b.2,k,D,D,(ap b q).same<|s2.trans s3,X.same<|s2.trans s3,ar s<|av.refl _⟩
  .rw[(by rw[ao,j5];rfl:(d.all λb=>k.contains b.2)=(ϸ l).all λu=>k.contains u)];exact Z s<|s2.trans s3
structure PD(K:Ζ)(G:Hp)(Β:J<|J bW×V)(a:J iz):Prop where
 len:L Β<=L a
 yes:∀n v,cW Β (kT n)=B v->∃θ c,v=.ref θ/\c∈a/\c.isFile=Τ/\c.name=n/\wF K G θ c.params
 no:∀n,cW Β (kT n)=g->∀c∈a,c.isFile=Τ->c.name≠n
structure X6(A:Ad)(Ι G H:Hp)(r ξ bl Ā Ġ:O)(pv:V)(å:J V)(nest:J ě)(Β:J<|J bW×V)(ů Ű:M):Prop where
 rd:Lo G H r<|.aE A.aS ξ<|OR bl pv Ā (ů:M) (Ű:M) Ġ
 b:Lo G H bl<|.Y å
 e:Lo G H Ā<|.Y<|nK nest
 p:Lo G H Ġ<|.dT Β
 ne:bl≠Ā
 zr:Ι r=g
 zb:Ι bl=g
 ze:Ι Ā=g
 zp:Ι Ġ=g
def q7(K:Ζ)(A:Ad)(Ι G H:Hp)(bl Ā:O)(pv:V)(å:J V)(nest:J ě)(x:Š):Prop:=match x.now with
 |none=>pv=.b_/\nest=[]/\ď (mK K A G) å x.blocks
 |some (c,n)=>nest=n/\∃a l b,pv=.ref a/\å=b++[.ref a]/\ď (mK K A G) b x.blocks/\yD K A G H a l c/\l≠bl/\l≠Ā/\Ι l=g
inductive K5(K:Ζ)(A:Ad)(Ι G H:Hp)(r:O)(x:Š):Prop
 |mk(ξ bl Ā Ġ pv å nest Β:_)(_:X6 A Ι G H r ξ bl Ā Ġ pv å nest Β (L<|ć<|aP x)<|į<|aP x)(_:PD K G Β<|ć<|aP x)(_:q7 K A Ι G H bl Ā pv å nest x)
section
variable{r bl Ā Ġ:O}{pv:V}{å:J V}{ů Ű:M}{x:Š}
theorem X6.ex(s:X6 A Ι G H r ξ bl Ā Ġ pv å nest Β ů Ű)(e:Ex G H Κ R):X6 A Ι Κ R r ξ bl Ā Ġ pv å nest Β ů Ű:=⟨s.rd.ex e,s.b.ex e,s.e.ex e,s.p.ex e,s.ne,s.zr,s.zb,s.ze,s.zp⟩
theorem PD.same{a:J iz}(p:PD K G Β a)(e:av G Κ):PD K Κ Β a:=⟨p.len,λb d f=>let⟨h,i,j,k,l,m,n⟩:=p.yes b d f;⟨h,i,j,k,l,m,n.same e⟩,p.no⟩
theorem q7.ex(h:q7 K A Ι G H bl Ā pv å nest x)(e:Ex G H Κ R):q7 K A Ι Κ R bl Ā pv å nest x:=by
 unfold q7 at h⊢;cases d:x.now with
 |none=>rw[d]at h;obtain⟨a,f,i⟩:=h;exact⟨a,f,Paired.cj (λ_ _ b=>b.same e.le) i⟩
 |some r=>rw[d]at h;obtain⟨j,a,k,l,m,n,o,p,q⟩:=h;exact⟨j,a,k,l,m,n,Paired.cj (λ_ _ b=>b.same e.le) o,p.ex e,q⟩
theorem K5.ex(h:K5 K A Ι G H r x)(e:Ex G H Κ R):K5 K A Ι Κ R r x:=by obtain⟨a,b,d,f,pv,i,nest,j,k,l,m⟩:=h;exact⟨a,b,d,f,pv,i,nest,j,k.ex e,l.same e.le,m.ex e⟩
end
inductive WQ(K:Ζ)(A:Ad)(d:M)(step:Š->ê->di M Š)(pre:Š->Prop)(vs:J V)(H:Hp)(Q:VK)(e:XK):Prop
 |mk(Ú Ι G r x a t:_)(_:vs=[.ref r,.ref a])(_:Ex Ú Ι G H)(_:K5 K A Ι G H r x)(_:vW x)(_:pre x)(_:Tx K G a t)(_:L t<=d)(_:(∀b,step x t=.ok b->∀Κ R,Ex Ú Ι Κ R->av G Κ->K5 K A Ι Κ R r b->Q (.int 0) R))(_:(∀n:M,step x t=.error n->∀Κ R,Ex Ú Ι Κ R->Q (.int (n:M)) R))
noncomputable def mS (x:Š) (t:ê):di M Š:=match EV t with
 |none=>.error 2
 |some c=>if(ã (200<=L x.blocks)||decide (60<=(L<|ć x.blocks))) then .error 6
  else if(ć x.blocks).all (λe=> !Ō e c||e.params==c.params) then .ok {x with now:=B (c,[])} else .error 7
theorem K1{x:Š}(ok:vW x)(Ο:x.now=g){c:iz}(d:c.isFile=U)(a:c.params=[]):(ć x.blocks).all (λe=> !Ō e c||e.params==c.params)=U:=by
 rw[Ě];intro e f;cases h:Ō e c with
 |false=>rfl
 |true=>
  have b:e.isFile=U:=by
   grind[Ō]
  have:=(ok.chunk e<|by rwa [b8 Ο]).file b;rw[this,a];rfl
def KR{x:Š}{c:iz}(d:c.isFile=Τ)(h:∀e∈ć x.blocks,e.isFile=Τ->e.name≠c.name):(ć x.blocks).all (λe=> !Ō e c||e.params==c.params)=U:=by
 rw[Ě];intro e b;cases a:Ō e c with
 |false=>rfl
 |true=>
  unfold Ō at a;rw[ø,gI,gI]at a;exact absurd a.2<|h e b<|by rwa [a.1]
def N7{x:Š}(ok:vW x)(Ο:x.now=g){a:iz}(d:c.isFile=Τ)(j:a∈ć x.blocks)(f:a.isFile=Τ)(h:a.name=c.name):(ć x.blocks).all (λe=> !Ō e c||e.params==c.params)=ã (a.params=c.params):=by
 have k:Ō a c=U:=by unfold Ō;rw[f,d,h];simp
 by_cases b:a.params=c.params
 .rw[ő b,Ě];intro e l;cases m:Ō e c with
  |false=>rfl
  |true=>
   have i:Ō e a=U:=by
    grind[Ō]
   have:=ok.same e (by rwa [b8 Ο]) a (by rwa [b8 Ο]) i;rw[this,b];simp
 grind
def Q0:aB ["self","row","part"] ["self","row"]<|ay<|Gr 3:=by decide+kernel
def AY(s:Wk K η A):pR P w K η Ξ c9 7 A.aS "take_header" ["self","row"]<|WQ K A 30000 mS λx=>x.now=g:=by
 have i:=s.kl;refine s.CU 12 34 Q0 λbM bN N bO O ba=>?_;obtain⟨bb,aS,aU,al,x,am,an,rfl,Q,⟨R,o,S,C,bP,j,nest,E,V,aY,now⟩,ok,X,bc,bd,be,Y⟩:=ba;have ao:=now;refine⟨_,ah (aH 2 Q0<|aR (zj s) O D aG<|aa (pv 1) aj)<|ah (aJ (fy<|oz<|pv 2) (ai<|aA az) aD)<|ah (aJ (PW.pt<|lz (aF ee (aQ s.md.a_<|W (pv 0) D) (aW s.md.tY)<|aK _)<|iu<|aF ee (W (pv 0) D) (aW s.md.Fp)<|aK _) (ai<|aA az) aD)<|ah (aJ (cG<|bQ<|W (pv 2) D) (ah (aJ (aF (V1 O.units) (HE (fP O) (W (pv 0) D) (W (pv 2) D) (W (pv 2) D) ⟨D,D,D,D⟩) (W (pv 2) D)<|aK _) (ai<|aA az) aD)<|ai<|p5 (fP O) (W (pv 0) D) (W (pv 2) D) (W (pv 2) D) D) aD)<|ah (aT<|ek (W (pv 0) D)<|pv 2)<|ah (aX (pv 0) (pv 2) D)<|ah (xC (pv 0) az Ka)<|ai<|aA az,?_⟩
 unfold q7 at ao;rw[X]at ao;refine bx λbf ap=>?_;obtain⟨bi,bj,aZ⟩:=ao;apply ap;subst bi bj;have bk:=aZ.length;have aq:=b8 X;rw[aq]at V aY;have bR:L x.blocks<=200:=by have:=ok.blocks;rw[aq]at this;exact this
 have bU:(L<|ć x.blocks)<=60:=by have:=ok.chunks;rw[aq]at this;exact this
 refine⟨aU,am,an,D,Q.sub,bc,bd,λbl p s1=>?_,λd a0 m p h ab k a1 F=>?_⟩
 .exact(bS<|Y 2 (by unfold mS;rw[bl]) aU p<|Q.more s1)
 have G:=Q.trans k;have a:=V.ex k;have n:=aY.same k.le;obtain⟨bm,H,q,bn,g1,g2,g3,g4,bo⟩:=id a1;have a2:=vn a0;have t:=k.sub _ _ g1;have ad:mS x an=if(ã (200<=L x.blocks)||decide (60<=(L<|ć x.blocks))) then .error 6
   else if(ć x.blocks).all (λe=> !Ō e d||e.params==d.params) then .ok {x with now:=B (d,[])} else .error 7:=by unfold mS;rw[a0]
 refine(dJ ?_);exists D,a.rd.at_,i.aS.fo,D,o,j,D,.inl<|aN.of a.b.at_,D;rw[cz,bk];refine gC (λar=>bS ?_) λar=>?_
 .have ar:L x.blocks=200:=aL;exact Y 6 fX m p G
 have ar:L x.blocks<200:=by lia
 exists D,a.rd.at_,i.aS.fo,D,D;rw[cz];refine gC (λau=>?_) λau=>?_
 .have au:(L<|ć x.blocks)=60:=aL;exact Y 6 fX m p G
 have au:(L<|ć x.blocks)<60:=by lia
 rw[Ņ<|show¬200<=L x.blocks by simp_all,Ņ<|show¬60<=(L<|ć x.blocks) by simp_all,Bool.or_false,Ó<|by decide]at ad;have a3:ab≠o:=λz=>by rw[z,V.b.at_]at F;cases F
 have bp:ab≠S:=λz=>by rw[z,V.e.at_]at F;cases F
 have bq:=Q.same.free F;have jk:∀v ae,Ex bb aS m v->X6 A aS m v al R o S C .b_ j [] ae (L<|ć x.blocks) (į x.blocks)->yD K A m v h ab d->PD K m ae (ć x.blocks++[d])->mS x an=.ok {x with now:=B (d,[])}->
   qM (Mq<|SR K "list" vU (i9 K (aV 0) "blocks")<|bg (aV 2) cB) (qM (VF K (aV 0) (aV 2) "part")<|qM (zU K (aV 0) (tC<|.int 1) To "part_count")<|tF<|tC<|.int 0) {nx:=λ_ av=>N .b_ av,rt:=N} [B<|.ref al,B<|.ref am,B<|.ref h] v:=by
  intro v ae br b bs bV bt;exists D,b.rd.at_,i.aS.fo,D,.inl ⟨D,_,aN.of b.b.at_⟩,o,j,_,D,D,b.b.at_,by rw[Î];lia
  have a4:=bB b.rd.at_ b.b.at_ (by intro z;cases z);have a5:=br.write (u:=.Y<|j++[.ref h]) b.b b.zb;have ag:=b.rd.other (u:=.Y<|j++[.ref h]) a4;have b3:Lo m _ o _:=b.b.put (u:=.Y<|j++[.ref h]);have a6:=b.e.other (u:=.Y<|j++[.ref h]) b.ne.symm;have a7:=b.p.other (u:=.Y<|j++[.ref h])<|bB b.p.at_ b.b.at_ bh;obtain⟨bu,bv,bw,bz,bA,bC,bD,a8,bE⟩:=bs;have a9:=a8.other (u:=.Y<|j++[.ref h]) a3;generalize T v o (.Y<|j++[.ref h])=bW at a5 ag b3 a6 a7 a9;exists D,ag.at_,i.aS.fo,(by show 6<1000;decide),D,af,i.aS.fo,D,_,_,D,D,R,_,af,(by show 6<1000;decide);rw[cy];have a_:aP {x with now:=B (d,[])}=x.blocks++[.chunk d]:=rfl;refine be _ bt m _ (a5.write (u:=.aE A.aS R<|OR o (.ref h) S ((((L<|ć x.blocks):M):Z)+1) (į x.blocks:M) C) ag b.zr) k.le ⟨R,o,S,C,.ref h,j++[.ref h],[],ae,⟨?_,b3.other a4.symm,a6.other (bB b.rd.at_ b.e.at_ (by intro z;cases z)).symm,a7.other (bB b.rd.at_ b.p.at_ (by intro z;cases z)).symm,b.ne,b.zr,b.zb,b.ze,b.zp⟩,?_,?_⟩
  .rw[a_,aO,bT,b9,a2.1,Ω];exact ag.put
  .rwa [a_,aO]
  .exact⟨D,h,ab,j,D,D,Paired.cj (λ_ _ bF=>bF.same k.le) aZ,⟨bu,bv,bw,bz,bA,bC,bD,a9.other<|bB a8.at_ b.rd.at_ (by intro z;cases z),bE⟩,a3,bp,bq⟩
 exists D,t,i.part.fo,D;refine gC (λl=>?_) λl=>?_
 .have l:d.isFile=Τ:=by simpa using l
  exists D,a.rd.at_,i.aS.fo,D,C,D,.inr ⟨E,.inl a.p.at_⟩,D,t,i.part.fo,D,D,t,i.part.fo,D,_,jx.t a.p.at_<|k.sub _ _ g2,D,t,i.part.fo,D;have aw:=g3.same k.sub;have a':(ć x.blocks).all (λe=> !Ō e d||e.params==d.params)=U->
    qM (Hs (i9 K (aV 0) "parameters") (i9 K (aV 2) "name")<|i9 K (aV 2) "parameters") (qM (Mq<|SR K "list" vU (i9 K (aV 0) "blocks")<|bg (aV 2) cB)<|qM (VF K (aV 0) (aV 2) "part")<|qM (zU K (aV 0) (tC<|.int 1) To "part_count")<|tF<|tC<|.int 0) {nx:=λ_ av=>N .b_ av,rt:=N} [B<|.ref al,B<|.ref am,B<|.ref h] p:=by
   intro ak;exists D,t,i.part.fo,D,D,a.rd.at_,i.aS.fo,D,D,t,i.part.fo,D,C,_,D,B_.t a.p.at_ (k.sub _ _ g2) (by have:=n.len;rw[Î];lia);refine jk _ (c7 E (kT d.name)<|.ref q) (G.write a.p a.zp) ⟨a.rd.other<|bB a.rd.at_ a.p.at_ (by intro z;cases z),a.b.other<|bB a.b.at_ a.p.at_ bh,a.e.other<|bB a.e.at_ a.p.at_ bh,a.p.put,a.ne,a.zr,a.zb,a.ze,a.zp⟩ ⟨bm,H,q,bn,g1,g2,g3,g4.other<|bB g4.at_ a.p.at_ bh,bo⟩ ⟨?_,λI J f=>?_,λI f r ax ay=>?_⟩<|by rw[ad,ak,à D]
   .have:=jo E (kT d.name)<|.ref q;have:=n.len
    grind
   .rw[mL]at f;by_cases z:kT I=kT d.name
    .rw[à z]at f;cases f;exact⟨q,d,D,ò _<|đ.mpr D,l,(u0 z).symm,g3⟩
    .rw[Ó z]at f;obtain⟨aB,r,aC,aE,aI⟩:=n.yes I J f;exact⟨aB,r,aC,Ĭ _ aE,aI⟩
   .rw[mL]at f;by_cases z:kT I=kT d.name
    .rw[à z]at f;cases f
    .rw[Ó z]at f;rcases î.mp ax with y|y
     .exact n.no I f r y ay
     grind
  cases f:cW E (kT d.name) with
  |none=>
   exists q,q,d.params,d.params,D,D,aw,aw;rw[ő D];exact a'<|KR l<|n.no d.name f
  |some J=>
   refine bx λbf ap=>?_;obtain⟨bG,bH,rfl,bI,bJ,bK,bL⟩:=n.yes d.name J f;apply ap;have ak:=N7 ok X l bI bJ bK;exists bG,q,bH.params,d.params,D,D,bL.same k.sub,aw;refine gC (λaM=>?_) λaM=>?_
   .exact Y 7 (by rw[ad,ak,Ņ<|by simpa using aM];rfl) m p G
   .exact a'<|by rw[ak,ő<|by simpa using aM]
 .have l:d.isFile=U:=by simpa using l
  refine jk p E G a a1 ⟨Ω▸g6 n.len,λH J f=>?_,λH f r ax ay=>?_⟩<|by rw[ad,K1 ok X l<|a2.2.1 l,à D]
  .obtain⟨aB,r,aC,aE,aI⟩:=n.yes H J f;exact⟨aB,r,aC,Ĭ _ aE,aI⟩
  .rcases î.mp ax with z|z
   .exact n.no H f r z ay
   simp_all
noncomputable def r5 (x:Š) (t:ê):di M Š:=match x.now with
 |some a=>jt x a.1 a.2 t
 |none=>.error 0
def J5{x:Š}{c:iz}{nest:J ě}{t:ê}{l:oO}{k:Z}{s:ê}(d:t≠LI)(e:wL t=B l)(hk:Fb l=B (k,s)):
  jt x c nest t=if fJ k nest then lP x c l (sy k nest) else .error 4:=by
 unfold jt;rw[Ó d,e];cases l with
 |code h=>cases hk
 |when i=>
  cases hk;show(if yR<=L nest then _ else _)=_;unfold fJ sy;rw[à D,à D];by_cases b:L nest<6
  .rw[Ó (show¬yR<=L nest from by show¬6<=L nest;simp_all),ő b,à D]
  .rw[à (show yR<=L nest from by show 6<=L nest;simp_all),Ņ b,Ó bM]
 |otherwise=>
  cases hk;cases nest with
  |nil=>rfl
  |cons a f=>cases a<;>rfl
 |done=>
  cases hk;cases nest with
  |nil=>rfl
  |cons a f=>cases a<;>rfl
def PD.swap{f:J iz}{a:iz}(p:PD K G Β<|f++[c])(á:a.isFile=c.isFile)(í:a.name=c.name)(r:a.params=c.params):PD K G Β<|f++[a]:=by
 refine⟨by have:=p.len;rw[Ω]at this⊢;exact this,λb h d=>?_,λb d e i j=>?_⟩
 .obtain⟨k,e,l,m,n,o,q⟩:=p.yes b h d;rcases î.mp m with z|z
  .exact⟨k,e,l,Ĭ _ z,n,o,q⟩
  simp_all
 .rcases î.mp i with z|z
  .exact p.no b d e (Ĭ _ z) j
  .rw[đ]at z;subst z;rw[í];exact p.no b d c (ò _<|đ.mpr D) aL
def I2{t:ê}{l:J Ť}(h:wL t=B (.code l)):g5 t=B l:=by
 unfold wL at h;split at h
 .cases h
 .split at h
  .cases h
  .split at h
   .simp_all
   simp_all
theorem k7:∀(e:J oO) (st a:J ě),cJ st e=B a->L a<=L st+L e
 |[],st,a,b=>by
  have:st=a:=by simpa[cJ] using b
  subst this;exact Õ _
 |.code f::d,st,a,b=>by
  have:=k7 d st a<|by simpa[cJ] using b
  grind
 |.when h::d,st,a,b=>by
  have:=k7 d (Τ::st) a<|by simpa[cJ] using b
  grind
 |.otherwise::d,[],a,b=>by simp[cJ]at b
 |.otherwise::d,U::st,a,b=>by simp[cJ]at b
 |.otherwise::d,Τ::st,a,b=>by
  have:=k7 d (U::st) a<|by simpa[cJ] using b
  grind
 |.done::d,[],a,b=>by simp[cJ]at b
 |.done::d,_::st,a,b=>by
  have:=k7 d st a<|by simpa[cJ] using b
  grind
theorem ZW:xJ ("@end":S)=LI:=by decide+kernel
def Rh:aB ["self","row","line"] ["self","row"]<|ay<|Gr 4:=by decide+kernel
def BU(m:Wk K η A):pR P w K η Ξ c9 9 A.aS "take_within" ["self","row"]<|WQ K A 200 r5 λx=>x.now≠g:=by
 have j:=m.kl;refine m.CU 12 36 Rh λb' ca a' cb N bC=>?_;obtain⟨bD,ba,am,o,x,aY,an,rfl,aZ,⟨h,y,z,C,cc,cd,nest,a0,b,bb,now⟩,ok,Y,bc,bE,bd,ab⟩:=bC;obtain⟨⟨a,ce⟩,Y⟩:∃k,x.now=B k:=by cases d:x.now with|none=>exact absurd d Y|some k=>exact⟨k,D⟩
 refine⟨_,ah (aJ (aF (ow N.units) (pv 1) (aR (vj m) N D aG<|aa rR aj)<|aK _) (ai<|aA<|Rz (GF m) j.aS.cl N aG<|pv 0) aD)<|ah (aH 2 Rh<|aR (CO m) N D aG<|aa (pv 1) aj)<|ah (aJ (fy<|oz<|pv 2) (ai<|aA az) aD)<|ah (aJ (bQ<|f_ m.md.bH (pv 2) j.code.mg) (ai<|aJ (cG<|bQ<|bY (tH m) j.aS.cl N aG (pv 0)<|aa (pv 2) aj) (ai<|aA az) aD)<|ai<|aJ (cG<|bQ<|bY (Fq m) j.aS.cl N aG (pv 0)<|aa (pv 2) aj) (ai<|aA az) aD)<|ah (aJ (aF ee (W (pv 0) D) (aW m.md.FZ)<|aK _) (ai<|aA az) aD)<|ah (aJ (cG<|bQ<|f_ m.md.bH (pv 2) j.code.mg) (ai<|aT<|bY (Tj m) j.aS.cl N aG (pv 0)<|aa (pv 2) aj) aD)<|ah (aT<|ek (W (W (pv 0) D) D)<|pv 2)<|ah (xC (pv 0) az Ka)<|ai<|aA az,?_⟩
 unfold q7 at now;rw[Y]at now;refine bx λa1 O=>?_;obtain⟨bF,p,H,aB,q,Q,be,bf,a2,aC,a3⟩:=now;apply O;subst bF q Q;have ao:=mV Y;have ap:∀u,r5 x u=jt x a nest u:=λu=>by unfold r5;rw[Y]
 have aE:į (aP x)=į x.blocks+L a.lines:=by rw[ao,bT,b9]
 have cf:į x.blocks+L a.lines<=400:=aE▸ok.IP;have bi:=bB b.rd.at_ b.b.at_ (by intro k;cases k);have a4:=bB b.rd.at_ b.e.at_ (by intro k;cases k);have bj:=bB b.rd.at_ b.p.at_ (by intro k;cases k);have cg:=bB b.p.at_ b.b.at_ (by intro k;cases k);obtain⟨aI,r,aM,ar,g1,g2,g3,g4,a5⟩:=id bf;have a6:=bB g4.at_ b.rd.at_ (by intro k;cases k);have bk:=bB g4.at_ b.p.at_ bh;have ch:L nest<=400:=by have aQ:=k7 _ _ _<|ok.now a nest Y;simp at aQ;lia
 refine⟨"@end",D,by decide+kernel,λbG bH ci s1 aQ=>?_⟩;rw[Fc<|by decide+kernel,ZW]at aQ;have ad:=aZ.more s1;refine⟨aY,bG,an,LI,D,D,bc.same ad.sub,aN.of aQ,nU (λau=>?_) λau=>?_⟩
 .subst au;refine⟨o,h,_,D,s1 _ _ b.rd.at_,D,o,h,y,_,z,_,_,C,nK nest,D,s1 _ _ b.rd.at_,s1 _ _ b.e.at_,by rw[jj];lia,λbI=>?_,λbJ=>?_⟩
  .have:nest≠[]:=λd=>bI (by rw[d];rfl);exact ab 4 (by rw[ap];unfold jt;simp_all) am bH ad
  .have bK:nest=[]:=by have:=Ğ L bJ;rw[jj]at this;exact Ŷ this
   subst bK;have bl:=g4.same s1;have bm:=(b.rd.same s1).apart (u:=.Y<|ar.map V.ref) a6.symm;have R:av am<|T am H<|.Y<|ar.map V.ref:=aq bl.out;refine bd {blocks:=x.blocks++[.chunk a],now:=g} (by rw[ap];rfl) _ _ ((ad.stay bl a3).write (u:=.aE A.aS h<|OR y .b_ z (L<|ć<|aP x) (į<|aP x) C) bm b.zr) R ⟨h,y,z,C,.b_,aB++[.ref p],[],a0,⟨?_,((b.b.same s1).apart a2.symm).other bi.symm,((b.e.same s1).apart aC.symm).other a4.symm,((b.p.same s1).apart bk.symm).other bj.symm,b.ne,b.zr,b.zb,b.ze,b.zp⟩,?_,?_⟩
   .rw[show aP {blocks:=x.blocks++[.chunk a],now:=g}=aP x from by rw[ao];rfl];exact bm.put
   .rw[show aP {blocks:=x.blocks++[.chunk a],now:=g}=aP x from by rw[ao];rfl];exact bb.same R
   .exact⟨D,D,Paired.rZ (Paired.cj (λ_ _ d=>d.same R) be) ⟨p,D,aI,r,aM,H,R _ _ g1,g2.same R,g3.same R,ar,aN.of af,Paired.cj (λ_ _ d=>d.same R) a5⟩⟩
 refine⟨am,aY,an,D,ad.sub,bc,aL,λbL aw s2=>?_,λf a7 E aw l ae bn=>?_⟩
 .refine(bS<|ab 3 ?_ am aw (ad.more s2));rw[ap];unfold jt;rw[Ó au,bL]
 have F:=ad.trans ae;have e:=(b.ex<|Ex.heap aZ.sub s1).ex ae;have bo:=(bf.ex<|Ex.heap aZ.sub s1).ex ae;refine bx λa1 O=>?_;obtain⟨aI,r,aM,ar,g1,g2,g3,g4,a5⟩:=id bo;have bp:=bb.same ae.le;have ag:=bn.same F.sub;obtain⟨a8,a9,ax⟩:=j.o_ ag;apply O;have bM:∀n,lP x a f n=if 400<=į x.blocks+L a.lines then .error 6 else .ok {x with now:=B ({a with lines:=a.lines++[f]},n)}:=λ_=>D
 have jk:∀s n,Ex bD ba E s->X6 A ba E s o h y z C (.ref p) (aB++[.ref p]) n a0 (L<|ć<|aP x) (į<|aP x)->yD K A E s p H a->r5 x an=lP x a f n->¬400<=į x.blocks+L a.lines->
   qM (Mq<|SR K "list" vU (i9 K (i9 K (aV 0) "part") "lines")<|bg (aV 2) cB) (qM (zU K (aV 0) (tC<|.int 1) To "line_count")<|tF<|tC<|.int 0) {nx:=λ_ bN=>a' .b_ bN,rt:=a'} [B<|.ref o,B<|.ref aY,B<|.ref l] s:=by
  intro s n ak i bO bP bR;obtain⟨bU,bV,bW,I,bq,bX,bZ,aS,br⟩:=id bO;have cj:=br.length;exists D,i.rd.at_,j.aS.fo,D,D,ak.sub _ _ bq,j.part.fo,D,.inl ⟨D,_,aN.of aS.at_⟩,H,_,_,D,D,aS.at_,by rw[Ε,Î];lia
  have bs:=ak.write (u:=.Y<|I.map V.ref++[.ref l]) aS a3;have ay:=i.rd.other (u:=.Y<|I.map V.ref++[.ref l]) a6.symm;have b4:=i.b.other (u:=.Y<|I.map V.ref++[.ref l]) a2.symm;have bt:=i.e.other (u:=.Y<|I.map V.ref++[.ref l]) aC.symm;have bu:=i.p.other (u:=.Y<|I.map V.ref++[.ref l]) bk.symm;have bv:Lo E _ H _:=aS.put (u:=.Y<|I.map V.ref++[.ref l]);generalize T s H (.Y<|I.map V.ref++[.ref l])=ck at bs ay b4 bt bu bv;exists D,ay.at_,j.aS.fo,D,_,_,D,D,h,_,ay.at_,(by show 6<1000;decide);have a_:aP {x with now:=B ({a with lines:=a.lines++[f]},n)}=x.blocks++[.chunk {a with lines:=a.lines++[f]}]:=rfl;refine bd {x with now:=B ({a with lines:=a.lines++[f]},n)} (by rw[bP,bM,Ó bR]) E _ (bs.write (u:=.aE A.aS h<|OR y (.ref p) z ((L<|ć<|aP x):M) (((į (aP x):M):Z)+1) C) ay i.zr) ae.le ⟨h,y,z,C,.ref p,aB++[.ref p],n,a0,⟨?_,b4.other bi.symm,bt.other a4.symm,bu.other bj.symm,i.ne,i.zr,i.zb,i.ze,i.zp⟩,?_,?_⟩
  .have b0:į (aP {x with now:=B ({a with lines:=a.lines++[f]},n)})=į (aP x)+1:=by rw[a_,bT,b9,aE];rw[Ω];rfl
   rw[(by rw[a_,ao,aO,aO,Ω,Ω];rfl:(ć<|aP {x with now:=some ({a with lines:=a.lines++[f]},n)}).length=(ć<|aP x).length),b0];exact ay.put
  .rw[a_,aO];rw[ao,aO]at bp;exact PD.swap bp D D D
  .refine⟨D,p,H,aB,D,D,Paired.cj (λ_ _ d=>d.same ae.le) be,⟨bU,bV,bW,I++[l],bq,bX,bZ,?_,Paired.rZ br bn⟩,a2,aC,a3⟩;rw[Ý];exact bv.other a6
 cases al:lS f with
 |true=>
  rw[al]at ax;obtain⟨S,rfl⟩:∃S,f=.code S:=by cases f with|code d=>lia|_=>cases al
  obtain⟨dl,b6,aU,b7⟩:=id ag;have X:r5 x an=if(ϸ S).all (λr=>a.params.contains r) then lP x a (.code S) nest else .error 5:=by rw[ap];unfold jt;rw[Ó au,a7]
  refine(dJ ⟨_,_,a8,_,D,a9,ax,bS ?_⟩);refine⟨o,h,_,D,e.rd.at_,D,o,h,y,p,z,_,_,C,aI,_,r,aM,H,l,dl,b6,a.params,S,D,e.rd.at_,F.sub _ _ g1,g3.same F.sub,aU,b7,?_,λs s3=>(?_)⟩
  .have:=(yt bE<|I2 a7).1;lia
  have ak:=F.more s3;have i:=e.ex<|Ex.heap F.sub s3;refine bx λa1 O=>?_;obtain⟨b8,b_,bw⟩:=j.o_<|ag.same s3;apply O;rw[al]at bw;refine gC (λJ=>?_) λJ=>?_
  .exact ab 5 (by rw[X,(aL:((ϸ S).all λr=>a.params.contains r)=Τ)];rfl) E s ak
  rw[(aL:((ϸ S).all λr=>a.params.contains r)=U),à D]at X;exists D,i.rd.at_,j.aS.fo,D,D;rw[cz,aE];refine gC (λG=>?_) λG=>?_
  .have G:į x.blocks+L a.lines=400:=aL;exact ab 6 fX E s ak
  have G:¬400<=į x.blocks+L a.lines:=by lia
  refine⟨_,_,b8,_,D,b_,bw,dJ ?_⟩;exact jk s nest ak i (bo.ex<|Ex.heap F.sub s3) X G
 |false=>
  rw[al]at ax;refine bx λa1 O=>?_;obtain⟨t,st,aX⟩:∃t st,Fb f=B (t,st):=by cases f with|code d=>cases al|when d=>exact⟨_,_,D⟩|otherwise=>exact⟨_,_,D⟩|done=>exact⟨_,_,D⟩
  obtain⟨v,d,aU⟩:∃v d,aw l=B (.aE A.cond v [("kind",.int t),("setting",.ref d)]):=by
   cases f with
   |code d=>cases al
   |when d=>obtain⟨v,d,bz,bA,q,Q,_⟩:=ag;rw[aX]at q;cases q;exact⟨v,d,Q⟩
   |otherwise=>obtain⟨v,d,bz,bA,q,Q,_⟩:=ag;rw[aX]at q;cases q;exact⟨v,d,Q⟩
   |done=>obtain⟨v,d,bz,bA,q,Q,_⟩:=ag;rw[aX]at q;cases q;exact⟨v,d,Q⟩
  apply O;have X:r5 x an=if fJ t nest=U then lP x a f (sy t nest) else .error 4:=by rw[ap];exact J5 au a7 aX
  refine(dJ ⟨_,_,a8,_,D,a9,ax,dJ ?_⟩);exists o,h,_,D,e.rd.at_,D,o,h,y,_,z,_,_,C,nest,l,v,t,_,D,e.rd.at_,e.e.at_,aU;refine gC (λJ=>?_) λJ=>?_
  .exact ab 4 (by rw[X,(by simpa using J:fJ t nest=false)];rfl) E aw F
  have J:fJ t nest=U:=by simpa using J
  rw[J,à D]at X;exists D,e.rd.at_,j.aS.fo,D,D;rw[cz,aE];refine gC (λG=>?_) λG=>?_
  .have G:į x.blocks+L a.lines=400:=aL;exact ab 6 fX E aw F
  have G:¬400<=į x.blocks+L a.lines:=by lia
  refine⟨_,_,a8,_,D,a9,ax,bS ?_⟩;exists o,h,_,D,e.rd.at_,D,o,h,y,_,z,_,_,C,nest,l,v,t,_,D,e.rd.at_,e.e.at_,aU,J,aL;exact jk _ (sy t nest) (F.write e.e e.ze) ⟨e.rd.other a4,e.b.other e.ne,e.e.put,e.p.other<|bB b.p.at_ b.e.at_ bh,e.ne,e.zr,e.zb,e.ze,e.zp⟩ ⟨aI,r,aM,ar,g1,g2,g3,g4.other aC,a5⟩ X G
noncomputable def l8 (x:Š) (t:ê):di M Š:=gu x (t,U)
def Iw{x:Š}{t:ê}(h:(t.all ϒ&&ã (L t<=200))=Τ):l8 x t=.error 1:=by unfold l8 gu;rw[à];show(U&&(t.all ϒ&&ã (L t<=200)))=Τ;rw[h];rfl
def Uq{x:Š}{t:ê}(h:(t.all ϒ&&ã (L t<=200))=U)(Ο:x.now≠g):l8 x t=r5 x t:=by
 unfold l8 gu r5;rw[Ó]
 .lia
 .show¬(U&&(t.all ϒ&&ã (L t<=200)))=Τ;rw[h];decide
def Ph{x:Š}{t:ê}(h:(t.all ϒ&&ã (L t<=200))=U)(Ο:x.now=g):l8 x t=mE x t:=by
 unfold l8 gu;rw[Ó]
 .rw[Ο]
 .show¬(U&&(t.all ϒ&&ã (L t<=200)))=Τ;rw[h];decide
theorem Sv(t:ê):([64]:ê).isPrefixOf t=(t.head?==B 64):=by
 cases t with
 |nil=>rfl
 |cons a b=>
  grind
theorem ZV:xJ ("@":S)=[64]:=by decide+kernel
theorem Za:xJ ("@@":S)=[64,64]:=by decide+kernel
def KQ:aB ["self","row","byte"] ["self","row"]<|ay<|Gr 1:=by decide+kernel
def Us(e:Wk K η A):pR P w K η Ξ c9 10 A.aS "take" ["self","row"]<|WQ K A 30000 l8 λ_=>Cm:=by
 have t:=e.kl;refine e.CU 12 32 KQ λal aE V aH n am=>?_;obtain⟨X,z,i,j,a,k,b,rfl,u,an,ok, -,C,E,F,o⟩:=am;have v:=C.same u.sub;refine⟨_,ah (aJ (PW.pt<|lz (aF kg (aQ e.md.a_<|pv 1) (aW e.md.Bo)<|aK _)<|iu<|cG<|bQ<|lQ D e.md.qF<|gV D KQ.nd (bu<|pv 1) (bL (own:=[("byte",2)])<|by kernel_rfl) (λ_ _ _ _ _=>bC 2 KQ) (λ_ _ _ _ _=>cY) λ_ _ _ _ _=>aR (AV e) n D aG<|aa (pv 2) aj) (ai<|aA az) aD)<|ah (aJ (fy<|zR<|W (pv 0) D) (ai<|aA<|bY (BU e) t.aS.cl n aG (pv 0)<|aa (pv 1) aj) aD)<|ah (aJ (PW.pt<|w_ (bQ<|aR (oW e) n D aG<|aa (pv 1)<|aa rR aj)<|vY<|cG<|bQ<|aR (oW e) n D aG<|aa (pv 1)<|aa rR aj) (ai<|aA<|bY (AY e) t.aS.cl n aG (pv 0)<|aa (pv 1) aj) aD)<|ai<|aA<|Rz (C7 e) t.aS.cl n aG<|pv 0,?_⟩
 exists k,_,D,.inl v;rw[bP];refine nU (λao=>bS<|o 1 (Iw ?_) i al u) λao=>?_
 .lia
 refine⟨k,D,⟨_,v⟩,zS b bV ϒ v (š<|cK aL) (λap _ f aI s2 aq=>⟨ap,D,aq f<|av.refl _⟩) λY s1=>(?_)⟩;have l:=u.more s1;refine gC (λx=>?_) λx=>?_
 .exact o 1 (Iw (by rw[(aL:b.all ϒ=Τ)];rfl)) i Y l
 have x:(b.all ϒ&&ã (L b<=200))=U:=by lia
 have G:=an.ex<|Ex.heap u.sub s1;have Z:=v.same s1;obtain⟨p,H,I,ab,aM,J,nest,ar,y,au,aw⟩:=id G;exists D,y.rd.at_,t.aS.fo,D;have q:=aw;unfold q7 at q;cases h:a.now with
 |some ad=>
  rw[h]at q;refine bx λaN ax=>?_;obtain⟨aS,aT,aU,aX,M,ae, -⟩:=q;apply ax;subst M;have nx:a.now≠g:=aL;refine(bS ?_);have m:=Uq x nx;exact⟨j,p,_,D,y.rd.at_,D,X,z,i,j,a,k,b,D,l,G,ok,nx,C,aL,λN O=>F N<|m.trans O,λQ R=>o Q<|m.trans R⟩
 |none=>
  rw[h]at q;obtain⟨M,ae,af⟩:=q;subst M ae;have m:=Ph x h;have S:aP a=a.blocks:=b8 h;refine(dJ ?_);have ag:(b.head? !=B 64||([64,64]:ê).isPrefixOf b)=U->∀f,av Y f->tF (yb A.aS "take_prose" (LO A.aS) [] E0 (aV 0) cB) {nx:=λ_ ay=>V .b_ ay,rt:=V} [B<|.ref j,B<|.ref k,g] f:=by
   intro aB f s2;have ak:=l.more s2;have d:=y.ex<|Ex.heap l.sub s2;have r:mE a b=if 200<=L a.blocks then .error 6 else .ok {a with blocks:=a.blocks++[.prose b]}:=by unfold mE;rw[à aB];rfl
   have aY:=af.length;have aZ:L a.blocks<=200:=by have:=ok.blocks;rw[S]at this;exact this
   refine⟨j,p,_,D,d.rd.at_,D,j,p,H,_,I,_,_,ab,J,D,d.rd.at_,d.b.at_,fX,λs=>?_,λs=>?_⟩
   .exact o 6 (by rw[m,r,à fX]) i f ak
   .refine F {a with blocks:=a.blocks++[.prose b]} (by rw[m,r,Ó aL]) i _ (ak.write d.b d.zb) (av.refl _) ⟨p,H,I,ab,.b_,J++[.b_],[],ar,⟨?_,d.b.put,d.e.other d.ne.symm,d.p.other<|bB d.p.at_ d.b.at_ bh,d.ne,d.zr,d.zb,d.ze,d.zp⟩,?_,?_⟩
    .rw[(b8 h:aP {a with blocks:=a.blocks++[.prose b]}=a.blocks++[.prose b]),aO,bT,jP,qI,ö,iH,<-S];exact d.rd.other<|bB d.rd.at_ d.b.at_ (by intro ad;cases ad)
    .rw[(b8 h:aP {a with blocks:=a.blocks++[.prose b]}=a.blocks++[.prose b]),aO,jP,ö,<-S];exact au
    .show q7 K A z i _ H I .b_ (J++[.b_]) [] {a with blocks:=a.blocks++[.prose b]};unfold q7;rw[h];exact⟨D,D,Paired.rZ af D⟩
  refine⟨k,b,"@",D,Z,E,by decide+kernel,by decide+kernel,λf s2=>(?_)⟩;rw[ZV,Sv];refine gC (λs=>?_) λs=>?_
  .refine⟨k,b,"@@",D,Z.same s2,E,by decide+kernel,by decide+kernel,λaC s3=>(?_)⟩;rw[Za];refine gC (λT=>?_) λT=>?_
   .have r:mE a b=mS a b:=by
     unfold mE mS;rw[Ó]
     .rfl
     .rw[(by simpa using T:([64,64]:ê).isPrefixOf b=false),bne,s];decide
    refine⟨j,p,_,D,(y.ex<|Ex.heap l.sub<|s2.trans s3).rd.at_,D,X,z,i,j,a,k,b,D,l.more<|s2.trans s3,G.ex<|Ex.heap l.sub<|s2.trans s3,ok,h,C,E,λN O=>F N<|m.trans<|r.trans O,λQ R=>o Q<|m.trans<|r.trans R⟩
   .exact ag (by rw[(by simpa using T:([64,64]:ê).isPrefixOf b=true),XQ]) aC<|s2.trans s3
  .exact dJ<|ag (by rw[bne,s];rfl) f s2
def Df.knE{x:S}{k:M}(a:Df K η x st θ f Ä)(χ:aB Δ θ<|ay st)(d:∀vs H Q E,Ã vs H Q E->L vs=L θ)
  (e:∀(b:z) (A:ź) (outer:J sG) (s:Í) (H:Hp) (vs:J V) (Q:VK) (E:XK),c6 k (A.deeper<|gK x (ay st) s.heap.objs.size f b)->Ã vs H Q E-> ∃t,zq (o8 (rG P w) P w K η Ξ Δ x (ay st) f b A outer s H E) (eY st) t/\t {nx:=λ_ R=>Q .b_ R,rt:=Q} (start Δ vs) H):Kn P w K η Ξ (rG P w) (k+1) x θ Ã:=by
 obtain⟨n,o,kV,p,q,r,b,u,v,h,i,j⟩:=a.fn.ex;subst h;exact⟨f,_,Pg i j χ d λA outer s H vs Q E l m=>e b A outer s H vs Q E l m,a.mg,a.fn.kp,a.bd⟩
def Dm.Ij{x ì:S}{k:M}(b:Dm K x ì st θ f Ä)(d:GR K C x f)(χ:aB Δ θ<|ay st)(e:∀vs H Q E,Ã vs H Q E->L vs=L θ)
  (h:∀(a:z) (A:ź) (outer:J sG) (s:Í) (H:Hp) (vs:J V) (Q:VK) (E:XK),c6 k (A.deeper<|gK ì (ay st) s.heap.objs.size f a)->Ã vs H Q E-> ∃t,zq (o8 (rG P w) P w K η Ξ Δ ì (ay st) f a A outer s H E) (eY st) t/\t {nx:=λ_ R=>Q .b_ R,rt:=Q} (start Δ vs) H):pR P w K η Ξ (rG P w) (k+1) C x θ Ã:=by
 obtain⟨o,p,kV,q,r,u,a,v,y,i,j,l⟩:=b.fn.ex;subst i;exact⟨f,_,d,Pg j l χ e λA outer s H vs Q E m n=>h a A outer s H vs Q E m n,b.bd⟩
section
variable{x c m:S}{k:M}
theorem Wk.knE(d:Wk K η A)(i:M)(χ:aB Δ θ<|ay st)(j:∀{f:O} {a:z} {A:ź} {outer:J sG} {s:Í} (H:Hp) (vs:J V) (Q:VK) (E:XK),c6 k (A.deeper<|gK x (ay st) s.heap.objs.size f a)->Ã vs H Q E-> ∃t,zq (o8 (rG P w) P w K η Ξ Δ x (ay st) f a A outer s H E) (eY st) t/\t {nx:=λ_ R=>Q .b_ R,rt:=Q} (start Δ vs) H)
  (e:Ak[i]?=B (x,st):=by rfl) (b:eV x x st θ:=by first|exact b1 λ_ _ _ _ _ _ _=>rfl|exact b2 λ_ _ _ _ _ _ _ _=>rfl|exact b3 λ_ _ _ _ _ _ _ _ _=>rfl|exact b4 λ_ _ _ _ _ _ _ _ _ _=>rfl|exact b5 λ_ _ _ _ _ _ _ _ _ _ _=>rfl) (l:∀vs H Q E,Ã vs H Q E->L vs=L θ:=by intro _ _ _ _ h;first|(cases h;subst_vars;rfl)|((repeat(rcases h with⟨_,h⟩));subst_vars;rfl)):Kn P w K η Ξ (rG P w) (k+1) x θ Ã:=by
 obtain⟨f,n,m⟩:=d.df _ _ _ (υ e) b;exact m.knE χ l λ_ _ _ _=>j
theorem Wk.Ij(d:Wk K η A)(i j:M)(χ:aB Δ θ<|ay st)(e:∀{f:O} {a:z} {A:ź} {outer:J sG} {s:Í} (H:Hp) (vs:J V) (Q:VK) (E:XK),c6 k (A.deeper<|gK q (ay st) s.heap.objs.size f a)->Ã vs H Q E-> ∃t,zq (o8 (rG P w) P w K η Ξ Δ q (ay st) f a A outer s H E) (eY st) t/\t {nx:=λ_ R=>Q .b_ R,rt:=Q} (start Δ vs) H)
  (l:(Oc A)[i]?=B (c,C):=by rfl) (n:wU[j]?=B (c,m,q,st):=by rfl) (b:eV m q st θ:=by first|exact b1 λ_ _ _ _ _ _ _=>rfl|exact b2 λ_ _ _ _ _ _ _ _=>rfl|exact b3 λ_ _ _ _ _ _ _ _ _=>rfl|exact b4 λ_ _ _ _ _ _ _ _ _ _=>rfl|exact b5 λ_ _ _ _ _ _ _ _ _ _ _=>rfl) (o:∀vs H Q E,Ã vs H Q E->L vs=L θ:=by intro _ _ _ _ h;first|(cases h;subst_vars;rfl)|((repeat(rcases h with⟨_,h⟩));subst_vars;rfl)):pR P w K η Ξ (rG P w) (k+1) C m θ Ã:=by
 obtain⟨f,r,p,h⟩:=d.dm _ _ _ _ _ _ (υ l) (υ n) b;exact p.Ij h χ o λ_ _ _ _=>e
end
inductive Px(C:O)(vs:J V)(H:Hp)(Q:VK)(a:XK):Prop
 |mk(r ξ:_)(_:vs=[.ref r])(_:H r=B (.aE C ξ []))(_:∀bl Ā Ġ R,H bl=g->H Ā=g->H Ġ=g->bl≠Ā->bl≠Ġ->Ā≠Ġ->R r=B (.aE C ξ<|OR bl .b_ Ā 0 0 Ġ)->R bl=B (.Y [])->R Ā=B (.Y [])->R Ġ=B (.dT [])->(∀b,b≠r->b≠bl->b≠Ā->b≠Ġ->R b=H b)->Q .b_ R)
def Xs:aB ["self"] ["self"]<|ay<|Gr 0:=by decide+kernel
def Nv(p:Wk K η A):Gn P w K η Ξ 1 "Reader" A.aS ["self"]<|Px A.aS:=by
 have d:=p.kl.aS;refine p.Ms 12 28 Xs (λs t u v j=>by obtain⟨_,_,x,_⟩:=j;rw[x];rfl) λt s u v z j=>?_;obtain⟨C,E,rfl,q,y⟩:=j;exists _,ah (aX (pv 0) (aI aj) D)<|ah (aX (pv 0) f9 D)<|ah (aX (pv 0) (aI aj) D)<|ah (aX (pv 0) az D)<|ah (aX (pv 0) az D)<|ai<|aX (pv 0) gY D;refine⟨Ò _,λk r=>?_⟩;have a:=ao q r;refine⟨D,by rw[au a];exact q,d.fo,(by simp),D,af,d.fo,(by show 1<1000;decide),Ò _,λl f=>?_⟩;rw[cy]at f;have b:=ao af f;have h:k≠l:=ao (by rw[au a.symm];exact af) f;refine⟨D,by rw[au b];exact af,d.fo,(by show 2<1000;decide),D,af,d.fo,(by show 3<1000;decide),D,af,d.fo,(by show 4<1000;decide),λm e=>?_⟩;rw[cy,cy,cy]at e;have i:=ao af e;have n:l≠m:=ao (by rw[au b.symm];exact af) e;have o:k≠m:=ao (by rw[au a.symm,au h,au a.symm];exact af) e;exists D,by rw[au i];exact af,d.fo,(by show 5<1000;decide)
 refine y k l m _ r (by rw[au b.symm,au h.symm]at f;exact f) (by rw[au i.symm,au n.symm,au i.symm,au o.symm]at e;exact e) h o n ?_ ?_ ?_ ?_ λF b1 b2 b3 b4=>?_
 .rw[af]
  repeat(first|rw[m_]|rw[cM<|by decide+kernel])
  rfl
 .rw[au a.symm,au o,au a.symm,au a.symm,au a.symm,au h,au a.symm,au a.symm];exact af
 .rw[au b.symm,au n,au b.symm,au b.symm,au b.symm];exact af
 .rw[au i.symm];exact af
 .simp[au,b1,b4,b3,b2]
theorem DI(i:M)(x:Š)(t:ê)(r:J ê):eS i x (t::r)=match gu x (t,U) with
 |.error n=>.error ⟨i,n⟩
 |.ok y=>eS (i+1) y r:=rfl
theorem xo:∀(l:J ê) (i:M) (x y:Š) (m:J ê),eS i x l=.ok y->eS i x (l++m)=eS (i+L l) y m
 |[],i,x,y,m,a=>by cases a;rfl
 |e::l,i,x,y,m,a=>by
  rw[qt,DI];rw[DI]at a;cases b:gu x (e,U) with
  |error f=>rw[b]at a;cases a
  |ok d=>
   rw[b]at a;show eS (i+1) d (l++m)=_;rw[xo l (i+1) d y m a,Ñ,show i+1+L l=i+(L l+1) by lia]
def l7{x:Š}{l:oO}{n:M}(h:lP x c l nest=.error n):0<n:=by
 unfold lP at h;split at h
 .cases h;decide
 .cases h
def Nc{x:Š}{t:ê}{n:M}(h:jt x c nest t=.error n):0<n:=by
 unfold jt at h;split at h
 .split at h
  .cases h
  .cases h;decide
 .cases a:wL t with
  |none=>rw[a]at h;cases h;decide
  |some e=>
   rw[a]at h;cases e with
   |otherwise=>
    cases nest with
    |nil=>cases h;decide
    |cons b f=>cases b with
     |false=>exact l7 h
     |true=>cases h;decide
   |done=>
    cases nest with
    |nil=>cases h;decide
    |cons b f=>exact l7 h
   |when i=>
    have h:(if yR<=L nest then Except.error 4 else lP x c (.when i) (Τ::nest))=.error n:=h;split at h
    .cases h;decide
    .exact l7 h
   |code d=>
    have h:(if(ϸ d).all (λn=>c.params.contains n) then lP x c (.code d) nest else .error 5)=.error n:=h;split at h
    .exact l7 h
    .cases h;decide
def NI{x:Š}{t:ê}{n:M}(h:mE x t=.error n):0<n:=by
 unfold mE at h;dsimp only at h;split at h
 .split at h
  .cases h;decide
  .cases h
 .cases a:EV t with
  |none=>rw[a]at h;cases h;decide
  |some b=>
   rw[a]at h;dsimp only at h;split at h
   .cases h;decide
   .split at h
    .cases h
    .cases h;decide
def QT{x:Š}{t:ê}{n:M}(h:l8 x t=.error n):0<n:=by
 unfold l8 gu at h;split at h
 .cases h;decide
 .cases a:x.now with
  |none=>rw[a]at h;exact NI h
  |some b=>rw[a]at h;exact Nc h
inductive vL(K:Ζ)(A:Ad)(b:O)(vs:J V)(H:Hp)(Q:VK)(E:XK):Prop
 |mk(G a t:_)(_:vs=[.ref a])(_:av G H)(_:Tx K G a t)(_:L t<=30000)(_:(∀d,oQ t=.ok d->∀Κ R bl å,Ex G H Κ R->aN K Κ bl å->ď (mK K A Κ) å d->Q (.ref bl) R))(_:(∀ı,oQ t=.error ı->∀ο p ξ,av H ο->ο p=g->ο ξ=g->ξ≠p->E (.ref p) (B ξ) (T (T ο p<|XL b p ξ) ξ<|XD ξ [("line",.int (ı.line:M)),("reason",.int (ı.reason:M))])))
def DT:aB ["text","rows","ended","reader","number","reason"] ["text"]<|ay<|bU 100:=by decide+kernel
def Po{Θ a:Hp}{r bl Ā Ġ:O}(ex:Ex G H Ē ο)(f:ο r=g)(u:ο ξ=g)(v:ξ≠r)(j:Θ=T (T ο ξ<|.own r) r (.aE A.aS ξ []))(b1:Θ bl=g)(b2:Θ Ā=g)(b3:Θ Ġ=g)(h:bl≠Ā)(k:bl≠Ġ)(w:Ā≠Ġ)
  (á:a r=B (.aE A.aS ξ<|OR bl .b_ Ā 0 0 Ġ)) (í:a bl=B (.Y [])) (l:a Ā=B (.Y [])) (m:a Ġ=B (.dT [])) (n:∀b,b≠r->b≠bl->b≠Ā->b≠Ġ->a b=Θ b):
  Ex G H Ē a/\K5 K A H Ē a r {blocks:=[],now:=g}:=by
 have e:∀b,Θ b=g->ο b=g:=λb o=>by
  cases x:ο b with
  |none=>rfl
  |some y=>
   have h:b≠r:=λd=>aL;have k:b≠ξ:=λd=>aL;simp_all[au]
 have f1:=e _ b1;have f2:=e _ b2;have f3:=e _ b3;have p:av ο a:=λb z o=>by
  have i:b≠r:=λd=>aL
  rwa [n b i (λd=>aL) (λd=>aL) λd=>aL,j,au i,au λd=>aL]
 refine⟨ex.more p,ξ,bl,Ā,Ġ,.b_,[],[],[],⟨⟨ex.sub.free f,á⟩,⟨ex.sub.free f1,í⟩,⟨ex.sub.free f2,l⟩,⟨ex.sub.free f3,m⟩,h,ex.same.free f,ex.same.free f1,ex.same.free f2,ex.same.free f3⟩,⟨Õ _,λq C s=>(nomatch s),λq _ E t=>(nomatch t)⟩,D,D,.nil⟩
def Bd(e:Wk K η A):Kn P w K η Ξ (rG P w) 11 "read_blocks" ["text"]<|vL K A A.tf:=by
 have G:=e.md;refine e.knE 44 DT λQ bv bw bz r a0=>?_;obtain⟨R,aw,H,rfl,a1,a2,a3,a4,S⟩:=a0;refine⟨_,ah (aH 1 DT<|aR (k8 e) r D aG<|aa (pv 0)<|aa (aW G.uM) aj)<|ah (aH 2 DT<|cQ J3 (aQ G.a_<|pv 1) az)<|ah (aH 3 DT<|Qc (Nv e) r D)<|ah (cS Ar D (ED D G.MM<|aa (pv 2) aj) (bC 4 DT)<|ah (aH 5 DT<|bY (Us e) e.kl.aS.cl r aG (pv 3)<|aa (aY aM (pv 1) (pv 4) λ_ _=>D) aj)<|ai<|aJ (aF kg (pv 5) az<|aK _) (ai<|lD (qc e) r D (xh λ_ _ _ m=>m)<|aa (cQ iw (pv 4) az)<|aa (pv 5) aj) aD)<|ah (aJ (aF kg (aQ G.a_<|aY aM (pv 1) (pv 2) λ_ _=>D) az<|aK _) (ai<|lD (qc e) r D (xh λ_ _ _ m=>m)<|aa (cQ iw (pv 2) az)<|aa az aj) aD)<|ah (aJ (fy<|zR<|W (pv 3) D) (ai<|lD (qc e) r D (xh λ_ _ _ m=>m)<|aa (cQ iw (pv 2) az)<|aa az aj) aD)<|ai<|aA<|W (pv 3) D,?_⟩
 refine⟨R,aw,H,10,D,a1,a2,a3,λT bA I X ax=>?_⟩;refine bx λY n=>?_;obtain⟨a,u,ab⟩:=Ic H;apply n;have d:=vM ab;rw[ab]at ax;refine bx λY n=>?_;obtain⟨ad,ae,ay⟩:=ax;apply n;have bB:L a+1<=30001:=by
  have:=kI 10 H
  grind
 have a5:∀f∈a++[u],L f<=30000:=λf bD=>by have:=fh 10 H f (by rwa [ab]);lia
 have aB:∀b f,(a++[u])[b]?=B f->∃h:O,(ad.map V.ref)[b]?=B (V.ref h)/\Tx K T h f:=λb f v=>by obtain⟨h,o,ag⟩:=Paired.at2 ay v;exact⟨h,by rw[Ë,o];rfl,ag⟩
 have a6:(((L<|ad.map V.ref):M):Z) -1=((L a:M):Z):=by rw[Ε,(by have:=Paired.len ay;rw[Ω]at this;exact this:ad.length=a.length+1)];simp
 refine⟨I,_,D,.inl<|av.seq X.sub ae,?_⟩;dsimp only[tC,E8];rw[a6];refineλx p o ag a7=>⟨x,p,D,af,λbE bF bG bH b1 b2 b3 a8 a9 a_ a' ba bb bc bd=>⟨D,?_⟩⟩;obtain⟨be,bf⟩:=Po X o ag a7 D b1 b2 b3 a8 a9 a_ a' ba bb bc bd;exists _,D,bh,aL;rw[Ţ];refine DK (λb ak aC=>∃s i f al,Ex R Q s aC/\av T s/\K5 K A Q s aC x i/\vW i/\eS 1 {blocks:=[],now:=g} (a.take b)=.ok i/\ak=[B<|.ref aw,B<|.ref I,B<|.int (L a:M),B<|.ref x,f,al]) ?_ ?_ ?_
 .exact⟨T,_,g,g,be,av.refl _,bf,A9,D,D⟩
 .refineλb ak am v bg=>bx λY n=>?_;obtain⟨s,i,f,al,l,g2,N,an,y,rfl⟩:=bg;apply n;refine bx λY n=>?_;obtain⟨k,aE⟩:∃k,a[b]?=B k:=⟨a[b],ą v⟩;obtain⟨h,ao,ap⟩:=aB b k (by rwa [iG v]);obtain⟨aI,aO,bi,bj,bk,aP,bl,bm,q,bn,t⟩:=id N;apply n;refine⟨x,aI,_,D,q.rd.at_,D,I,_,_,V.ref h,D,D,av.seq ((X.sub.trans<|av.refl _)|>λ_=>g2.trans l.sub) ae,by rw[JO];exact bN ao,R,Q,s,x,i,h,k,D,l,N,an,trivial,ap.same g2,a5 k<|Ĭ _<|υ aE,λaS aT aU aV ar bo bp=>?_,λau aX aU aV ar=>?_⟩
  .refine(dJ ⟨aU,aS,_,_,ar,g2.trans bo,bp,yr an aT,?_,D⟩);rw[(by rw[Ĝ,aE];rfl:a.take (b+1)=a.take b++[k]),xo _ _ _ _ _ y];unfold eS;rw[show gu i (k,U)=.ok aS from aT];rfl
  .have A.np:=QT aX
   (first|show if _ then _ else _|skip)
   rw[ő<|show(0:Z)<((au:M):Z) by simp_all];refine bS ⟨_,_,D,xr λz p C E F=>?_⟩;have:=S ⟨b+1,au⟩ ?_ aV z p ar.same C E F
   .rw[JO];exact this
   .rw[d,<-Ĩ b a,xo _ _ _ _ _ y];have bq:a.drop b=k::a.drop (b+1):=by
     grind[ĩ]
    rw[bq];unfold eS;rw[show gu i (k,U)=.error au from aX];dsimp only;rw[ŀ,sH<|š v,Nat.add_comm 1 b]
 .rintro ak am ⟨s,i,f,al,l,g2,N,an,y,rfl⟩;rw[č]at y;rw[y]at d;dsimp only at d;obtain⟨aI,aO,bi,bj,bk,aP,bl,bm,q,bn,t⟩:=id N;obtain⟨h,ao,ap⟩:=aB (L a) u fX;refine⟨I,_,_,V.ref h,D,D,av.seq (g2.trans l.sub) ae,bN (j:=L a) ao,h,_,D,.inl<|(ap.same g2).same l.sub,?_⟩;rw[bP];unfold v9 at d;refine nU (λbr=>?_) λbr=>?_
  .rw[(xV:u.isEmpty=Τ),Ó bM]at d;refine⟨_,_,D,xr λz p C E F=>?_⟩;have:=S _ d am z p l.same C E F;lia
  have bs:u=[]:=Ŷ fX;subst bs;rw[à<|show(([]:ê).isEmpty)=U from D]at d;exists D,q.rd.at_,e.kl.aS.fo,D;unfold q7 at t;cases aZ:i.now with
  |some m=>
   rw[aZ]at t d;obtain⟨_,bI,_,_,o,_⟩:=t;subst o;rw[à<|show(B m).isSome=U from D]at d;refine(bS ⟨_,_,D,xr λz p C E F=>?_⟩);have:=S _ d am z p l.same C E F;lia
  |none=>
   rw[aZ]at t d;obtain⟨o,_,bt⟩:=t;subst o;rw[Ó<|show¬((g:É<|iz×J ě).isSome=U) by decide]at d;refine(dJ ⟨D,q.rd.at_,e.kl.aS.fo,D,?_⟩);exact a4 _ d _ _ aO aP (l.stay q.b q.zb) (aN.of af)<|Paired.cj (λ_ _ bu=>bu.same<|aq q.b.out) bt
noncomputable def b7 (f:ě) (d:ó):J Đ:=((ć d).filterMap λc=>if c.isFile=f then B c.name else g).foldl Ċ []
theorem jc(d:ó):Ŗ d=b7 U d:=rfl
theorem E9(f:ě)(d:ó)(t:ê):b7 f (d++[.prose t])=b7 f d:=by simp[b7,aO,jP,ö]
theorem A6{f:ě}(d:ó)(h:c.isFile=f):b7 f (d++[.chunk c])=Ċ (b7 f d) c.name:=by unfold b7;rw[aO,bq,JP,ļ];simp[h]
def IL{f:ě}(d:ó)(h:c.isFile≠f):b7 f (d++[.chunk c])=b7 f d:=by unfold b7;rw[aO,bq,JP];simp[h]
noncomputable def dX (f:ě) (n:Đ):zF->ě
 |.chunk c=>c.isFile==f&&c.name==n
 |.prose _=>Τ
theorem jd(d:ó)(f:ě)(n:Đ):ř d f n=(d.zipIdx.filter λa=>dX f n a.1).map λa=>a.2:=by rfl
theorem l0(d:ó)(b:zF)(f:ě)(n:Đ):ř (d++[b]) f n=ř d f n++if dX f n b then[L d] else[]:=by
 rw[jd,jd,OJ,jB,Ý]
 grind
def dB{f:ě}:i∈ř d f n↔∃c,d[i]?=B (.chunk c)/\c.isFile=f/\c.name=n:=by
 rw[jd];constructor
 .intro j;obtain⟨k,l,rfl⟩:=ń.mp j;obtain⟨e,a⟩:=q1.mp l;have b:=gA.mp e;cases h:k.1 with
  |prose m=>rw[h]at a;cases a
  |chunk c=>
   rw[h]at a b;have a:(c.isFile==f&&c.name==n)=U:=a;rw[ø,gI,gI]at a;exact⟨c,b,a.1,a.2⟩
 .rintro⟨c,e,a,b⟩;refine ń.mpr ⟨(.chunk c,i),q1.mpr ⟨gA.mpr e,?_⟩,D⟩;show(c.isFile==f&&c.name==n)=U;rw[a,b];simp
theorem uJ{a b:Đ}:b∈Ċ l a↔b∈l\/b=a:=by
 unfold Ċ
 grind
theorem cF{b:Đ}:∀(w l:J Đ),b∈w.foldl Ċ l↔b∈l\/b∈w
 |[],l=>bh
 |a::w,l=>by rw[ju,cF w,uJ,ç];lia
theorem Kv{f:ě}:n∈b7 f d↔∃c∈ć d,c.isFile=f/\c.name=n:=by unfold b7;rw[cF];simp
def bX:c∈ć d↔∃i:M,d[i]?=B (fc c):=by
 unfold ć;rw[jy];constructor
 .grind[ŵ]
 .rintro⟨i,a⟩;exact⟨.chunk c,υ a,D⟩
def v_{f:ě}:ř d f n≠[]↔n∈b7 f d:=by
 rw[Kv];constructor
 .intro k;obtain⟨j,a⟩:=List.exists_mem_of_ne_nil _ k;obtain⟨b,e,h,i⟩:=dB.mp a;exact⟨b,bX.mpr ⟨j,e⟩,h,i⟩
 .rintro⟨b,e,h,i⟩ l;obtain⟨j,a⟩:=bX.mp e;have:=dB.mpr ⟨b,a,h,i⟩;simp_all
noncomputable def fM (d:ó) (on:J Đ) (i:M):J fL:=match d[i]? with
 |some (.chunk c)=>(Œ on 0 [] c.lines).map λx=>{block:=i,line:=x.1,pieces:=x.2}
 |_=>[]
theorem m7{Ν d:Type}(p:Ν->ě)(ς:Ν->J d):∀l:J Ν,(l.filter p).flatMap ς=l.flatMap λx=>if p x then ς x else[]
 |[]=>D
 |a::l=>by
  rw[iC,ĕ];by_cases b:p a=U
  .rw[à b,à b,ĕ,m7 p ς l]
  .rw[Ó b,Ó b,m7 p ς l];rfl
theorem g9(d:ó)(on:J Đ)(f:ě)(n:Đ):jv d on f n=(ř d f n).flatMap (fM d on):=by
 rw[jd,lE,m7];unfold jv;have j:∀a∈d.zipIdx,(match a.1 with
   |.chunk b=>if(b.isFile==f&&b.name==n) then(Œ on 0 [] b.lines).map λh=>({block:=a.2,line:=h.1,pieces:=h.2}:fL) else[]
   |.prose _=>[])=if dX f n a.1 then fM d on a.2 else[]:=by
  intro a e;have i:=gA.mp e;obtain⟨k,l⟩:=a;cases k with
  |prose m=>rfl
  |chunk b=>
   show(if(b.isFile==f&&b.name==n) then _ else _)=if(b.isFile==f&&b.name==n) then _ else _
   unfold fM;dsimp only at i⊢;rw[i]
 rw[dY,dY];congr 1;exact ϰ λa e=>j a e
theorem GK{Ν:Type}(p:Ν->ě):∀l:J Ν,l.find? p=(l.filter p).head?
 |[]=>D
 |a::l=>by simp
theorem uD:∀(d:ó) (k:M) (p:iz->ě),(ć d).find? p=((d.zipIdx k).find? λa=>match a.1 with
   |.chunk c=>p c
   |.prose _=>Τ).bind λa=>match a.1 with
   |.chunk c=>B c
   |.prose _=>g
 |[],k,p=>D
 |.prose e::d,k,p=>by rw[ż,ϲ];exact uD d (k+1) p
 |.chunk c::d,k,p=>by
  rw[ż,ϲ,show ć (.chunk c::d)=c::ć d from D,ϲ];cases b:p c with
  |true=>simp[b]
  |false=>simp[b];exact uD d (k+1) p
theorem rK(d:ó)(n:Đ):JQ d n=(ř d Τ n).head?.bind λi=>match d[i]? with
  |some (.chunk c)=>B c.params
  |_=>g:=by
 unfold JQ;rw[uD d 0,GK,jd,List.head?_map];have b:(d.zipIdx.filter λa=>match a.1 with|.chunk c=> !c.isFile&&c.name==n|.prose _=>Τ)=d.zipIdx.filter λa=>dX Τ n a.1:=by
  congr 1;funext a;cases a.1 with
  |prose e=>rfl
  |chunk c=>show(!c.isFile&&_)=(c.isFile==Τ&&_);cases c.isFile<;>rfl
 rw[b];cases f:(d.zipIdx.filter λa=>dX Τ n a.1).head? with
 |none=>rfl
 |some a=>
  grind
theorem CK(h:n∉b7 Τ d):JQ d n=g:=by rw[rK];have:=gZ λa=>h<|v_.mp a;rw[this];rfl
def rQ{r:J M}(h:ř d Τ n=i::r):∃c,d[i]?=B (.chunk c)/\c.isFile=Τ/\c.name=n/\JQ d n=B c.params:=by obtain⟨c,a,b,e⟩:=dB.mp<|h▸Ö;exists c,a,b,e;rw[rK,h];simp_all
theorem vh(d:ó)(b:zF):Ĺ (d++[b])=(Ś b).foldl Ċ (Ĺ d):=by unfold Ĺ;simp
noncomputable def yu (b:zF):J Đ:=match b with
 |.chunk c=>c.lines.flatMap ĸ
 |.prose _=>[]
theorem qz(d:ó)(b:zF):Ŵ (d++[b])=(yu b).foldl Ċ (Ŵ d):=by
 unfold Ŵ;rw[aO,ċ,ļ];congr 1;cases b with
 |prose a=>rfl
 |chunk e=>simp[bq,yu]
def fY(d:ó)(f:ě)(n:Đ):(L<|ř d f n)<=L d:=by rw[jd,Ε];exact Ć (gH _ _) bh
section
variable(u:Đ->J Đ)
noncomputable def round (l:J Đ):J Đ:=(l.flatMap u).foldl Ċ l
noncomputable def cg:M->J Đ->J Đ
 |0,l=>l
 |k+1,l=>cg k<|round u l
def uY(l:J Đ):Prop:=∀n∈l,∀m∈u n,m∈l
inductive qB(l:J Đ):Đ->Prop
 |base{n:Đ}:n∈l->qB l n
 |step{m n:Đ}:qB l m->n∈u m->qB l n
end
theorem vX(d:ó)(on:J Đ):∀(k:M) (l:J Đ),abn d on k l=cg (λn=>wN<|jv d on Τ n) k l
 |0,l=>D
 |k+1,l=>vX d on k _
theorem xD:∀(w l:J Đ),(∀n∈w,n∈l)->w.foldl Ċ l=l
 |[],l,_=>D
 |a::w,l,b=>by rw[ju,(by unfold Ċ;rw[à<|ē.mpr<|b a Ö]:Ċ l a=l)];exact xD w l λn d=>b n<|Ç _ d
def T8(l:J Đ)(a:Đ):l<+:Ċ l a:=by
 unfold Ċ
 grind
theorem lC:∀(w l:J Đ),l<+:w.foldl Ċ l
 |[],l=>RW _
 |a::w,l=>(T8 l a).trans<|lC w<|Ċ l a
theorem BI:∀(w Δ è:J Đ),Δ<+:è->è<+:w.foldl Ċ Δ->w.foldl Ċ è=w.foldl Ċ Δ
 |[],Δ,è,f,b=>b.eq_of_length<|UH b.length_le f.length_le
 |a::w,Δ,è,f,b=>by
  rw[ju]at b⊢;rw[ju];by_cases i:a∈Δ
  .rw[(by simp_all[Ċ,à]:Ċ Δ a=Δ)]at b⊢;rw[(by unfold Ċ;rw[à<|ē.mpr<|f.subset i]:Ċ è a=è)];exact BI w Δ è f b
  .have h:Ċ Δ a=Δ++[a]:=by unfold Ċ;simp_all
   rw[h]at b⊢;obtain⟨d,rfl⟩:=f;cases d with
   |nil=>rw[ö,h]
   |cons e d=>
    have j:e=a:=by obtain⟨m,k⟩:=b;obtain⟨n,l⟩:=lC w<|Δ++[a];have:=k.trans l.symm;rw[ϊ,ϊ]at this;have:=List.append_cancel_left this;exact(sJ this).1
    subst j;rw[(by unfold Ċ;simp:Ċ (Δ++e::d) e=Δ++e::d)];exact BI w (Δ++[e]) (Δ++e::d) ⟨d,bh⟩ b
section
variable{u:Đ->J Đ}
def Ea(l:J Đ):l<+:round u l:=lC _ _
def xE{Δ è:J Đ}(á:Δ<+:è)(í:è<+:round u Δ):round u Δ<+:round u è:=by have b:=BI (Δ.flatMap u) Δ è á í;obtain⟨a,rfl⟩:=á;show _<+:((Δ++a).flatMap u).foldl Ċ (Δ++a);rw[ċ,ļ,b];exact lC _ _
theorem AO:∀(k:M) {Δ è:J Đ},Δ<+:è->è<+:round u Δ->cg u k Δ<+:cg u k è/\cg u k è<+:cg u k (round u Δ)
 |0,Δ,è,b,a=>⟨b,a⟩
 |k+1,Δ,è,b,a=>AO k (xE b a)<|xE a<|xE b a
theorem qh(h:uY u l):round u l=l:=xD _ _ λa b=>by obtain⟨d,e,f⟩:=ŋ.mp b;exact h d e a f
def Ou(h:round u l=l):uY u l:=λa b e d=>by rw[<-h];exact(cF _ _).mpr<|.inr<|ŋ.mpr ⟨a,b,d⟩
theorem t_:∀(k:M) {l:J Đ},uY u l->cg u k l=l
 |0,l,a=>D
 |k+1,l,a=>by show cg u k (round u l)=l;rw[qh a];exact t_ k a
theorem nM:∀(k:M) (l:J Đ),cg u (k+1) l=round u (cg u k l)
 |0,l=>D
 |k+1,l=>nM k<|round u l
theorem jq:∀(l χ:J Đ),l.Nodup->(∀x∈l,x∈χ)->L l<=L χ
 |[],χ,_,_=>Ò _
 |a::l,χ,b,d=>by
  rw[ϐ]at b;have h:=d a Ö;have i:=jq l (χ.erase a) b.2 λx e=>(LJ λf=>b.1<|by rwa [<-f]).mpr<|d x<|Ç _ e
  grind
def wV{a:Đ}(h:l.Nodup):(Ċ l a).Nodup:=by
 unfold Ċ;split
 .exact h
 .rename_i d;rw[gP];refine⟨h,bh,λf e i b=>?_⟩;rw[đ]at b;rintro rfl;subst b;exact d<|ē.mpr e
theorem kE:∀(w l:J Đ),l.Nodup->(w.foldl Ċ l).Nodup
 |[],l,b=>b
 |a::w,l,b=>kE w _<|wV b
theorem xX{χ:J Đ}(f:∀n,∀m∈u n,m∈χ):∀(k:M) (l:J Đ),l.Nodup->(∀x∈l,x∈χ)->uY u (cg u k l)\/(L l+k<=(L<|cg u k l)/\(cg u k l).Nodup/\∀x∈cg u k l,x∈χ)
 |0,l,a,b=>.inr ⟨Õ _,a,b⟩
 |k+1,l,a,b=>by
  rcases xX f k l a b with h|⟨q,i,j⟩
  .left
   rwa [nM,qh h]
  .rw[nM];by_cases d:round u (cg u k l)=cg u k l
   .left;rw[d];exact Ou d
   .right;have e:=Ea (u:=u)<|cg u k l;have r:=O9 e.length_le λo=>d (e.eq_of_length o).symm;refine⟨aL,kE _ _ i,λx p=>?_⟩;rcases(cF _ _).mp p with z|z
    .exact j x z
    grind
theorem xU{χ:J Đ}(a:∀n,∀m∈u n,m∈χ){k:M}(hk:L χ<k)(á:l.Nodup)(í:∀x∈l,x∈χ):uY u<|cg u k l:=by
 rcases xX a k l á í with b|⟨f,d,e⟩
 .exact b
 .have:=jq _ χ d e;lia
theorem HB{χ:J Đ}(e:∀n,∀m∈u n,m∈χ){k:M}(hk:L χ<k){Δ:J Đ}(á:Δ.Nodup)(í:∀x∈Δ,x∈χ){a:Đ}(l:Δ[j]?=B a)(o:∀n∈Δ.take j,∀m∈u n,m∈Δ):
  cg u k ((u a).foldl Ċ Δ)=cg u k Δ:=by
 have f:round u Δ=((Δ.drop<|j+1).flatMap u).foldl Ċ ((u a).foldl Ċ Δ):=by
  have p:Δ=Δ.take j++(a::Δ.drop (j+1)):=by
   grind[ĩ,Ĩ]
  show(Δ.flatMap u).foldl Ċ Δ=_;have h:Δ.flatMap u=(Δ.take j).flatMap u++(u a++(Δ.drop<|j+1).flatMap u):=by
   grind
  rw[h,ļ,ļ,xD ((Δ.take j).flatMap u) Δ]
  grind
 obtain⟨b,d⟩:=AO k (lC _ _)<|f▸lC _ _;have i:cg u k (round u Δ)=cg u k Δ:=by show cg u (k+1) Δ=_;rw[nM,qh<|xU e hk á í]
 rw[i]at d;exact(b.eq_of_length<|UH b.length_le d.length_le).symm
def BD(h:n∈round u l):qB u l n:=by
 rcases(cF _ _).mp h with z|z
 .exact .base z
 .obtain⟨d,a,b⟩:=ŋ.mp z;exact .step (.base a) b
def qB.trans'{l m:J Đ}{n:Đ}(h:qB u m n)(b:∀x∈m,qB u l x):qB u l n:=by
 induction h with
 |base a=>exact b _ a
 |step _ a d=>exact .step d a
theorem qx:∀(k:M) {l:J Đ} {n:Đ},n∈cg u k l->qB u l n
 |0,l,n,a=>.base a
 |k+1,l,n,a=>(qx k a).trans' λd b=>BD b
theorem Az:∀(k:M) (l:J Đ),l<+:cg u k l
 |0,l=>RW _
 |k+1,l=>(Ea l).trans<|Az k _
def zl{k:M}{l:J Đ}{n:Đ}(b:uY u<|cg u k l)(h:qB u l n):n∈cg u k l:=by
 induction h with
 |base a=>exact(Az k l).subset a
 |step _ a d=>exact b _ d _ a
end
def DU{a:J oO}{x:M×J Ť}(h:x∈Œ on 0 [] a):oO.code x.2∈a:=by obtain⟨d,_,b⟩:=gi on a 0 [] x h;exact υ b
def A8{d:ó}{on:J Đ}{i:M}{n:Đ}(h:n∈wN (fM d on i)):n∈Ĺ d:=by
 unfold wN at h;obtain⟨k,a,e⟩:=ŋ.mp h;unfold fM at a;cases b:d[i]? with
 |none=>rw[b]at a;cases a
 |some f=>
  rw[b]at a;cases f with
  |prose l=>cases a
  |chunk m=>
   obtain⟨o,j,rfl⟩:=ń.mp a;refine(cF _ _).mpr<|.inr<|ŋ.mpr ⟨_,υ b,?_⟩;exact ò _<|ŋ.mpr ⟨_,DU j,e⟩
theorem xY(l:J M)(f:M->J fL):wN (l.flatMap f)=l.flatMap λi=>wN<|f i:=by simp[wN,List.flatMap_assoc]
def lT(d:ó)(on:J Đ)(i:M):J Đ:=wN<|fM d on i
def lA(d:ó)(on:J Đ)(n:Đ):J Đ:=(ř d Τ n).flatMap<|lT d on
def qi(d:ó)(on:J Đ)(a:J M):J Đ:=(a.flatMap<|lT d on).foldl Ċ []
def fq(d:ó)(on:J Đ)(a:J M):J Đ:=cg (lA d on) ((L<|Ĺ d)+1)<|qi d on a
theorem QB(d:ó)(on:J Đ):(λn=>wN<|jv d on Τ n)=lA d on:=by funext n;rw[g9,xY];rfl
theorem uV(d:ó)(on:J Đ)(p:Đ):q6 d on p=fq d on (ř d U p):=by unfold q6;rw[vX,QB,g9,xY];rfl
theorem sP(d:ó)(on:J Đ)(n:Đ):∀m∈lA d on n,m∈Ĺ d:=λm a=>by obtain⟨e,_,b⟩:=ŋ.mp a;exact A8 b
def mh(d:ó)(on:J Đ)(a:J M):(qi d on a).Nodup:=kE _ _ fU
def p8(d:ó)(on:J Đ)(a:J M):∀m∈qi d on a,m∈Ĺ d:=λm b=>by
 rcases(cF _ _).mp b with z|z
 .cases z
 .obtain⟨f,_,e⟩:=ŋ.mp z;exact A8 e
def qa{a:J M}:n∈qi d on a↔∃i∈a,n∈lT d on i:=by simp[qi,cF,ŋ]
def CQ(d:ó)(on:J Đ)(a:J M):uY (lA d on)<|fq d on a:=xU (sP d on) (d9 _) (mh d on a)<|p8 d on a
theorem m6{a:J M}:n∈fq d on a↔qB (lA d on) (qi d on a) n:=⟨qx _,zl<|CQ d on a⟩
def vR(d:ó)(on:J Đ)(f:J M):(fq d on f).Nodup:=by
 have:∀a b,b.Nodup->(cg (lA d on) a b).Nodup:=by
  intro a
  induction a with
  |zero=>exactλb e=>e
  |succ a h=>exactλb e=>h _<|kE _ _ e
 exact this _ _<|mh d on f
def A5(d:ó)(on:J Đ)(b:J M):∀m∈fq d on b,m∈Ĺ d:=λm e=>by
 have:=m6.mp e
 induction this with
 |base a=>exact p8 d on b _ a
 |step _ a _=>exact sP d on _ _ a
def KS(d:ó)(on:J Đ)(a:J M):(L<|fq d on a)<=(L<|Ĺ d):=jq _ _ (vR d on a)<|A5 d on a
theorem KD(d:ó)(on:J Đ)(n:Đ):(((Ŗ d).flatMap<|q6 d on).foldl Sk []).contains n=(fq d on<|(Ŗ d).flatMap λp=>ř d U p).contains n:=by
 rw[ϱ,ē,ē];have k:((Ŗ d).flatMap<|q6 d on).foldl Sk []=((Ŗ d).flatMap<|q6 d on).foldl Ċ []:=rfl;rw[k,cF];constructor
 .rintro(h|h)
  .cases h
  .obtain⟨p,b,a⟩:=ŋ.mp h;rw[uV,m6]at a;rw[m6];refine a.trans' λo l=>.base ?_;obtain⟨e,f,i⟩:=qa.mp l;exact qa.mpr ⟨e,ŋ.mpr ⟨p,b,f⟩,i⟩
 .intro h;right;rw[m6]at h;have:∃p∈Ŗ d,qB (lA d on) (qi d on<|ř d U p) n:=by
   induction h with
   |base j=>
    obtain⟨e,f,i⟩:=qa.mp j;obtain⟨p,b,a⟩:=ŋ.mp f;exact⟨p,b,.base<|qa.mpr ⟨e,a,i⟩⟩
   |step _ j m=>
    obtain⟨p,b,a⟩:=m;exact⟨p,b,.step a j⟩
  obtain⟨p,b,a⟩:=this;exact ŋ.mpr ⟨p,b,by rw[uV];exact m6.mpr a⟩
noncomputable def bJ:ê->ê->M
 |a::r,b::s=>if a=b then bJ r s+1 else 0
 |_,_=>0
noncomputable def pos:M->M->ê->M×M
 |i,j,[]=>(i,j)
 |i,j,a::p=>if a=10 then pos (i+1) 0 p else pos i (j+1) p
theorem BW(s:ê):bJ [] s=0:=by cases s<;>rfl
theorem yG(s:ê):bJ s []=0:=by cases s<;>rfl
theorem pJ:∀(s t:ê) (i j:M),aac i j s t=if s=t then g else B (pos i j<|t.take<|bJ t s)
 |[],[],i,j=>D
 |[],d::t,i,j=>by rw[Ó aL,yG,nI];rfl
 |a::s,[],i,j=>by rw[Ó bh,BW,Gk];rfl
 |a::s,d::t,i,j=>by
  show(if a=d then(if a=10 then aac (i+1) 0 s t else aac i (j+1) s t) else B (i,j))=_;by_cases e:a=d
  .subst e;have f:bJ (a::t) (a::s)=bJ t s+1:=à D;rw[à D,f,M0];have k:pos i j (a::t.take (bJ t s))=if a=10 then pos (i+1) 0 (t.take<|bJ t s) else pos i (j+1) (t.take<|bJ t s):=rfl
   rw[k];by_cases h:s=t
   .subst h;rw[à D,pJ s s,pJ s s,à D];simp
   .rw[Ó λb=>h (sJ b).2,pJ s t,pJ s t,Ó h];split<;>rfl
  .have f:bJ (d::t) (a::s)=0:=Ó λb=>e b.symm;rw[Ó e,Ó λb=>e (sJ b).1,f,nI];rfl
theorem E_:∀(p:ê) (i j:M),pos i j p=(i+((L<|ώ 10 p) -1),(if(L<|ώ 10 p)=1 then j else 0)+(L<|(ώ 10 p).getLastD []))
 |[],i,j=>by rw[D_];rfl
 |a::p,i,j=>by
  have k:0<(L<|ώ 10 p):=u9.mpr<|mP 10 p;show(if a=10 then pos (i+1) 0 p else pos i (j+1) p)=_;by_cases b:a=10
  .subst b;rw[à D,E_ p,kG,Ñ]
   grind
  .obtain⟨d,e,f,h⟩:=i_ (c:=10) p b;rw[Ó b,E_ p,f,h];congr 1;cases e with
   |nil=>
    show j+1+L d=j+(L<|a::d);rw[Ñ];lia
   |cons l e=>
    rw[Ó bh,Ó bh];rfl
def HS{t s:ê}{k:M}{a:ϔ}(h:bJ t s=k+bJ (t.drop k) (s.drop k))(á:t[k]?=B a)(í:s[k]?=B a):bJ t s=(k+1)+bJ (t.drop<|k+1) (s.drop<|k+1):=by obtain⟨b,d⟩:=Ð.mp á;obtain⟨e,f⟩:=Ð.mp í;rw[ĩ b,ĩ e,d,f]at h;have i:bJ (a::t.drop (k+1)) (a::s.drop (k+1))=bJ (t.drop<|k+1) (s.drop<|k+1)+1:=à D;rw[i]at h;lia
theorem Ir{t s:ê}{k:M}{a b:ϔ}(h:bJ t s=k+bJ (t.drop k) (s.drop k))(á:t[k]?=B a)(í:s[k]?=B b)(d:a≠b):bJ t s=k:=by obtain⟨e,f⟩:=Ð.mp á;obtain⟨i,j⟩:=Ð.mp í;rw[ĩ e,ĩ i,f,j]at h;have l:bJ (a::t.drop (k+1)) (b::s.drop (k+1))=0:=Ó d;rw[l]at h;omega
theorem J6{t s:ê}{k:M}(h:bJ t s=k+bJ (t.drop k) (s.drop k))(á:L t<=k\/L s<=k):bJ t s=k:=by
 rcases á with z|z
 .rw[Ϭ z,BW]at h;exact h
 .rw[Ϭ z,yG]at h;exact h
noncomputable def fT (l:J Đ):M:=(l.map λn=>L n+1).sum
theorem mT(a b:J Đ):fT (a++b)=fT a+fT b:=by unfold fT;simp
theorem gq(a:Đ)(b:J Đ):fT (a::b)=L a+1+fT b:=rfl
def Qv(l:J Đ)(a:Đ):fT (Ċ l a)<=fT l+(L a+1):=by
 unfold Ċ;split
 .simp
 .rw[mT];exact Õ _
theorem xu:∀(w l:J Đ),fT (w.foldl Ċ l)<=fT l+fT w
 |[],l=>Õ _
 |a::w,l=>by have b:=xu w<|Ċ l a;have d:=Qv l a;rw[ju,gq];lia
theorem A4:∀{χ:J Đ} {a:Đ},a∈χ->fT χ=L a+1+fT (χ.erase a)
 |b::χ,a,e=>by
  rw[List.erase_cons];by_cases d:b=a
  .subst d;rw[à bh];rfl
  .rw[Ó<|by simpa using d,gq,gq];have:=A4 (χ:=χ) (a:=a) xV;lia
theorem GQ:∀(l χ:J Đ),l.Nodup->(∀x∈l,x∈χ)->fT l<=fT χ
 |[],χ,_,_=>Ò _
 |a::l,χ,b,d=>by rw[ϐ]at b;have h:=GQ l (χ.erase a) b.2 λx e=>(LJ λf=>b.1<|by rwa [<-f]).mpr<|d x<|Ç _ e;rw[A4<|d a Ö,gq];simp_all
theorem mZ:∀l:J Đ,L l<=fT l
 |[]=>Ò _
 |a::l=>by rw[Ñ,gq];have:=mZ l;lia
theorem Ef{θ:J Đ}:∀a:J oO,(∀l∈a,Lj θ l)->fT (a.flatMap ķ)<=200*L a
 |[],_=>Ò _
 |l::a,b=>by
  have f:=Ef a λd e=>b d<|Ç _ e;rw[ĕ,mT,Ñ];have h:fT (ķ l)<=200:=by
   have:=b l Ö;cases l with
   |code i=>exact this.2.2
   |when j=>exact Ò _
   |otherwise=>exact Ò _
   |done=>exact Ò _
  lia
theorem wX:∀d:ó,(∀c∈ć d,vm c)->fT (d.flatMap Ś)<=41*(L<|ć d)+200*į d
 |[],_=>Ò _
 |b::d,h=>by
  have e:ć (b::d)=ć [b]++ć d:=by rw[<-aO];rfl
  have j:=wX d λc a=>h c<|e▸ò _ a;rw[ĕ,mT,e,(by rw[<-bT];rfl:į (b::d)=į [b]+į d),Ω];cases b with
  |prose i=>
   have f:fT (Ś<|.prose i)=0:=rfl;lia
  |chunk c=>
   have a:=h c (by rw[e,bq];simp);have k:=Ef c.lines a.lines;have f:fT (Ś<|.chunk c)=fT (if c.isFile then[] else[c.name])+fT (c.lines.flatMap ķ):=mT _ _;have l:fT (if c.isFile then[] else[c.name])<=41:=by
    split
    .exact Ò _
    .rw[gq];have:=a.nm;have f:fT []=0:=D;simp_all
   rw[bq,b9,f,Ñ,ŭ];lia
theorem eN.names(a:eN d):fT (Ĺ d)<=82460:=by have f:=wX d λb e=>(a.chunk b e).1;have h:=xu (d.flatMap Ś) [];have i:=a.chunks;have j:=a.IP;have k:fT []=0:=rfl;unfold Ĺ;lia
def eN.reach(b:eN d)(on:J Đ)(a:J M):fT (fq d on a)<=82460:=Ć (GQ _ _ (vR d on a)<|A5 d on a) b.names
def eN.files(f:eN d):fT (Ŗ d)<=2460:=by
 have i:∀b:J iz,(∀a∈b,vm a)->fT (b.filterMap λa=>if a.isFile=U then B a.name else g)<=41*L b:=by
  intro b
  induction b with
  |nil=>exactλ_=>Ò _
  |cons a b j=>
   intro h;have k:=j λl m=>h l<|Ç _ m;have n:=(h a Ö).nm;rw[iQ,Ñ];split
   .lia
   .rename_i p e;split at e
    .cases e;rw[gq];lia
    .cases e
 have k:=i _ λa o=>(f.chunk a o).1;have n:=xu ((ć d).filterMap λa=>if a.isFile=U then B a.name else g) [];have q:=f.chunks;have r:fT []=0:=rfl;unfold Ŗ;lia
def dg(Β:J<|J bW×V)(l:J Đ):Prop:=Β.map (·.1)=l.map kT
theorem Nn(k:J bW):(cW Β k).isSome=U↔k∈Β.map (·.1):=by rw[<-mQ,RX,ń];simp
def VW:kT n∈l.map kT↔n∈l:=by rw[ń];exact⟨λ⟨d,e,a⟩=>by rwa [<-u0 a],λb=>⟨n,b,D⟩⟩
theorem dg.isSome(h:dg Β l)(n:Đ):(cW Β<|kT n).isSome=l.contains n:=by rw[ϱ,Nn,h,ē];exact VW
theorem dg.len(h:dg Β l):L Β=L l:=by have:=Ğ L h;simp_all
theorem dg.put(h:dg Β l)(n:Đ)(v:V):dg (c7 Β (kT n) v)<|Ċ l n:=by
 unfold dg c7 Ċ;rw[mQ,h.isSome n];split
 .rw[Ħ,<-h];refine ϰ λa _=>?_;lia
 .rw[Ý,Ý,h];rfl
def dg.nil:dg [] []:=rfl
def rH{tb:TS}{d:qO}(b:M->L2.St->Hp->Prop)(q:b 0 σ H)(r:∀n σ H,n<=L N->b n σ H->aN K H a N)
  (s:∀n x σ H Æ,N[n]?=B x->b n σ H->H Æ=g->tb {d with nx:=b<|n+1,ct:=b<|n+1,bk:=d.nx} ((σ.set i<|B<|.int (n:M)).set j<|B x) (T H Æ<|.bO [.int (n:M),x])) (t:∀σ H,b (L N) σ H->d.nx σ H):
  ∃e:M->M->L2.St->Hp->Prop,(∃m,e 0 m σ H)/\∀n m σ H,e n m σ H->
   ((U1 K a).stop n H/\d.nx σ H)\/((U1 K a).go n H/\∃Δ:L2.St->Hp->Prop,(∀f R,Δ f R->∃o,o<m/\e (n+1) o f R)/\∀x R,(U1 K a).HW n H x R->TU K 2 (Bg (c8 i)<|Bg (c8 j) S8) x σ R λu Θ=>tb {d with nx:=Δ,ct:=Δ,bk:=d.nx} u Θ):=by
 existsλn m σ H=>m=L N -n/\n<=L N/\b n σ H,⟨L N,bh,Ò _,q⟩;rintro n m σ H ⟨rfl,v,h⟩;have k:=r n σ H v h;by_cases p:n<L N
 .refine .inr ⟨⟨N,N[n],k,by simp[p]⟩,b<|n+1,λf R w=>⟨L N -(n+1),by omega,D,p,w⟩,λx R l=>?_⟩;obtain⟨Æ,y,rfl,z,rfl,l⟩:=l;exact⟨Æ,_,D,gb.of af,D,_,_,D,_,_,D,D,s n y σ H Æ (l N k) h z⟩
 .have A:n=L N:=aL;subst A;exact .inl ⟨⟨N,k,Õ _⟩,t σ H h⟩
noncomputable def nV (n:M):V:=.int (n:M)
def RH:aB ["part","variant","numbers","taken","number","line"] ["part","variant"]<|ay<|bU 54:=by decide+kernel
inductive WS(K:Ζ)(A:Ad)(vs:J V)(H:Hp)(Q:VK)(a:XK):Prop
 |mk (p Ì c ä on:_) (_:vs=[.ref p,.ref Ì]) (_:qk K A H p c) (_:H Ì=B (.dT ä)) (_:dg ä on) (_:cJ [] c.lines=B []) (_:L c.lines<=400) (_:∀D R,H D=g->av H R->R D=B (.Y<|((Œ on 0 [] c.lines).map λx=>x.1).map nV)->Q (.ref D) R)
theorem jO(on:J Đ):∀(b:J oO) (i:M) (st:J ě),(L<|Œ on i st b)<=L b
 |[],i,st=>by rw[Bc];simp
 |.code e::a,i,st=>by
  have:=jO on a (i+1) st;rw[wW]
  grind
 |.when f::a,i,st=>by rw[w9,Ñ];exact g6<|jO on a _ _
 |.otherwise::a,i,[]=>Ñ▸g6 (jO on a (i+1) [])
 |.otherwise::a,i,d::st=>by rw[w5,Ñ];exact g6<|jO on a _ _
 |.done::a,i,[]=>Ñ▸g6 (jO on a (i+1) [])
 |.done::a,i,d::st=>by rw[FD,Ñ];exact g6<|jO on a _ _
theorem TN(st:J ě):(st.reverse.all id)=st.all λb=>b:=by rw[ϱ,Ě,Ě];exact⟨λa d e=>a d<|RY.mpr e,λa d e=>a d<|RY.mp e⟩
def iU(G:Wk K η A):Kn P w K η Ξ c9 1 "live_numbers" ["part","variant"]<|WS K A:=by
 have s:=G.md;have h:=G.kl;refine G.kn 24 RH λt a9 a_ a' aO aP=>?_;obtain⟨aQ,Z,u,ba,H,rfl,⟨bb,bc,bd,aR,aS,be,bf,aU,ab,ad⟩,aV,aX,aZ,bg,a0⟩:=aP;refine⟨_,ah (aH 2 RH<|aI aj)<|ah (aH 3 RH<|aI aj)<|ah (cS ğ D (sQ D s.jn<|aa (W (pv 0) D) aj) (xy D<|gk (bC 4 RH)<|gk (bC 5 RH) sW)<|ai<|aJ (cG<|bQ<|f_ s.bH (pv 5) h.cond.mg) (ai<|aJ (bQ<|lQ D s.qF<|pv 3) (ai<|aT<|ek (pv 2)<|pv 4) aD)<|ai<|aJ (aF ee (W (pv 5) D) (aW s.QV)<|aK _) (ai<|aT<|ek (pv 3)<|P1 (Fw (fP aO) (W (pv 5) D)<|pv 1)<|by with_unfolding_all rfl)<|ai<|aJ (aF ee (W (pv 5) D) (aW s.F5)<|aK _) (ai<|Qt (Rp<|aY aM (pv 3) (uc ou az) λ_ _=>D)<|Pa (pv 3) (uc ou az) I3)<|ai<|aT<|P7 ϋ ur Gj Qo<|pv 3)<|ai<|aA<|pv 2,?_⟩
 refine⟨Ò _,λn I=>⟨Ò _,λd z=>?_⟩⟩;have p:d≠n:=(ao af z).symm;have J:av t<|T (T t n<|.Y []) d<|.Y []:=(aq I).trans<|aq z;exists D,J _ _ aS,h.part.fo,D,aR,_,D,av.seq J ab;refine rH (K:=K) (N:=aU.map V.ref) (i:=4) (j:=5) (λi C q=>∃e st nest o O,av t q/\q n=B (.Y<|e.map nV)/\q d=B (.Y<|nK st)/\L e<=i/\L st<=i/\(Œ H 0 [] u.lines).map (λE=>E.1)=e++(Œ H i st<|u.lines.drop i).map (λE=>E.1)/\ L nest=L st/\cJ nest (u.lines.drop i)=B []/\C=[B<|.ref aQ,B<|.ref Z,B<|.ref n,B<|.ref d,o,O]) ?_ ?_ ?_ ?_
 .exact⟨[],[],[],g,g,J,au p.symm▸af,af,Õ _,Õ _,D,D,aZ,D⟩
 .rintro i C q _ ⟨_,_,_,_,_,s1,_⟩;exact av.seq s1 ab
 .refineλi E C Q ae ag R=>bx λr b=>?_;obtain⟨e,st,nest,o,O,s1,ak,al,am,S,a,k,f,rfl⟩:=R;refine b λa1=>?_;rw[Ë]at ag;refine bx λr b=>?_;obtain⟨an,a2,rfl⟩:=Ü.mp ag;obtain⟨ap,a3,a4⟩:=Paired.at_ ad a2;apply b;have bh:=(Ð.mp a3).1;have a5:u.lines.drop i=ap::u.lines.drop (i+1):=by
   grind[ĩ]
  rw[a5]at a f;have s2:av Q<|T Q ae<|.bO [.int (i:M),.ref an]:=aq a1;have sT:=s1.trans s2;have g1:=s2 _ _ ak;have g2:=s2 _ _ al;generalize T Q ae (.bO [.int (i:M),.ref an])=ar at sT g1 g2;have F:=a4.same sT;refine bx λr b=>?_;obtain⟨a6,a7,a8⟩:=h.NF F;apply b;exists _,_,a6,_,D,a7,a8;have X:∀v,av t<|T ar d v:=λv l o x=>au (ao x (by rw[au p]at z;exact z))▸sT l o x;cases ap with
  |code bi=>
   refine bS ?_;exists d,st.reverse,D,aN.of g2;rw[TN];rw[wW]at a;refine gC (λaw=>?_) λaw=>?_
   .rw[à aw,þ]at a;refine⟨.inl ⟨D,_,aN.of g1⟩,n,_,_,D,D,g1,by rw[Ε,Î];lia,e++[i],st,nest,_,_,(λv l o x=>au (ao x I)▸sT l o x:∀v,av t<|T ar n v) _,?_,au p▸g2,Ω▸Sf am,aL,?_,k,f,D⟩
    .rw[af,Ý];rfl
    .rw[a,ϊ];rfl
   .rw[Ó aL]at a;exact⟨e,st,nest,_,_,sT,g1,g2,aL,aL,a,k,f,D⟩
  |when ax=>
   refine bx λr b=>?_;obtain⟨ay,aB,aC,aE,y,m,Y⟩:=F;apply b;cases y;rw[w9]at a;refine dJ ⟨D,m,h.cond.fo,D,D,bS ?_⟩;refine⟨.inl ⟨D,_,aN.of g2⟩,D,m,h.cond.fo,D,Z,_,D,jx.t (sT _ _ aV) Y,d,_,_,D,D,g2,by rw[jj,Î];lia,e,H.contains ax::st,Τ::nest,_,_,X _,au p.symm▸g1,?_,aL,by rw[Ñ];lia,a,by rw[Ñ,Ñ,k],f,D⟩;rw[af,dU,aX.isSome ax]
  |otherwise=>
   refine bx λr b=>?_;obtain⟨ay,aB,aC,aE,y,m,Y⟩:=F;apply b;cases y;cases nest with
   |nil=>cases f
   |cons aG nest=>
    cases aG with
    |true=>cases f
    |false=>
     cases st with
     |nil=>cases k
     |cons l st=>
      rw[w5]at a;refine dJ ⟨D,m,h.cond.fo,D,D,dJ ?_⟩;refine⟨D,m,h.cond.fo,D,D,bS ?_⟩;refine⟨d,_,_,V.bl l,D,D,aN.of g2,by simp[dU,L2.ry],_,D,d,_,_,(L<|nK st),D,D,g2,?_,e,(!l)::st,U::nest,_,_,X _,by rwa [au p.symm],?_,aL,by rw[Ñ]at S⊢;lia,a,k,f,D⟩
      .simp[jj,Ñ,Ip]
      simp[af,dU,JN,Õ,yO]
  |done=>
   refine bx λr b=>?_;obtain⟨ay,aB,aC,aE,y,m,Y⟩:=F;apply b;cases y;cases nest with
   |nil=>cases f
   |cons aG nest=>
    cases st with
    |nil=>cases k
    |cons l st=>
     rw[FD]at a;refine dJ ⟨D,m,h.cond.fo,D,D,dJ ?_⟩;refine⟨D,m,h.cond.fo,D,D,dJ ?_⟩;refine⟨.inl ⟨D,_,aN.of g2⟩,d,_,V.bl l,D,D,g2,?_,e,st,nest,_,_,X _,by rwa [au p.symm],?_,aL,by rw[Ñ]at S;lia,a,RS k,?_,D⟩
     .simp[dU,Ω]
     .rw[af,dU,tR]
     .exact f
 .refineλC q R=>bx λr b=>?_;obtain⟨e,st,nest,o,O,s1,ak,al,am,S,a,k,f,rfl⟩:=R;apply b;rw[Ε,ad.length,zE]at a;rw[Bc,iA,ö]at a;refine(a0 n q I s1 ?_)
  rwa [a]
section
variable{ñ:Type}[iW ñ]{ņ:HeapKind prog w ñ}{Η:ź}{G5:z->Í->Prop}{st:Í}
def NX{d:O}{N:J<|ñ×O×z}{k:ñ}{Q:z->Í->Prop}(l:ņ.room Η)(hk:ņ.is st.heap k a)(t:st.heap.DictOfH ņ d N)(C:L N<=sizeLine)
  (á:∀p,wI N k=B p->Q p.2 {st with toks:=st.toks+ņ.draws k})
  (í:wI N k=g->∀h',h'.DictOfH ņ d (oM N k a v)->ϡ d st.heap h'->Q v {st with heap:=h',toks:=st.toks+ņ.draws k}):
  ô (ă prog w) Η (dictSetDefault d (.ref a) v) Q G5 st:=by
 obtain⟨E,F,u,e,x,b,f,m,i⟩:=t;refine Ũ<|Λ<|ņ.pyHash l hk<|Λ<|wpAny_dictFind_heap l hk e b f m i (λn=>?_) λy p o=>?_
 .have h:=atKey_none_of_get n;refine Λ (z8<|Λ<|wpAny_updateDictKeys (hz:=by have:=Gx f;simp_all) (s:={st with toks:=st.toks+ņ.draws k}) e b<|Ê<|í h _ ⟨_,_,u+1,Ū _ e<|Obj.isFreed_of_dict<|M1 b _,x.mapDictKeys _,M1 b _,?_,λr j=>?_,?_⟩ (eE ..))
  .rw[Sl h];simp[f,entryOfKey]
  .rw[Sl h]at j;rcases î.mp j with q|q
   .exact ņ.keeps (m r q) e b (eE ..)
   .rw[đ]at q;subst q;exact ņ.keeps hk e b (eE ..)
  .rw[Sl h,Ý,gP];exact⟨i,bh,λr j G s A=>(not_mem_keys_of_get n) (by simp at s;rwa [<-s,<-A])⟩
 .refine Λ<|lM e b ?_;rw[entry_at f y,o];exact Λ<|z8<|Ê<|á _<|atKey_of_get i o
def K7(ņ:HeapKind prog w ñ)(d a:O)(e:(d==ϟ)=Τ)(v:z):
  MeetsIn prog w (qU.«dict.setdefault» ⟨[.ref d,.ref a,v],[]⟩) (λA Χ s=>ņ.room A.in1/\∃k N,ņ.is s.heap k a/\s.heap.DictOfH ņ d N/\L N<=sizeLine/\ (∀p,wI N k=B p->Χ (.ok<|.ret p.2) {s with toks:=s.toks+ņ.draws k})/\ (wI N k=g->∀h',h'.DictOfH ņ d (oM N k a v)->ϡ d s.heap h'->Χ (.ok<|.ret v) {s with heap:=h',toks:=s.toks+ņ.draws k})):=
 .of_wp λA Χ s ⟨f,k,N,h,b,i,j,l⟩=>by refine Λ<|Λ<|mq b.typeIs ?_;show ô _ _ (pure (d,æ a,B v)) _ _ s;refine Ê ?_;show ô _ _ (if(d==ϟ) then _ else(dictSetDefault d (.ref a) v>>=_)) _ _ s;rw[e,Ó Ę];exact Λ<|NX f h b i (λp m=>Ê ⟨p.2,D,j p m⟩) λn h' o q=>Ê ⟨v,D,l n h' o q⟩
end
inductive Ud(ty:TE)(ϣ:TE)(σ:L2.St)(Q:VK)(x:V)(ο:Hp):Prop
 |mk (a:_) (_:x=.ref a) (_:IsD ο a) (_:ty σ ο λy Θ=>ϣ σ Θ λz d=>∃Β k b,d a=B (.dT Β)/\y=.ref b/\d b=B (.bO<|k.map kV)/\L Β<sizeLine/\(∀v,cW Β k=B v->Q v d)/\(cW Β k=g->Q z (T d a<|.dT<|c7 Β k z)))
def W4(ī ty ϣ:TE):TE:=λσ H Q=>ī σ H λx ο=>Ud ty ϣ σ Q x ο
section
variable{o f:Ž}{Ď:kX}{ī ty ϣ:TE}
def G7(C:X.A.units+1<d_)(E:PE X o ī)(F:PE X e ty)(G:PE X f ϣ)(m:M2 X o "setdefault" ĝ e f Ď):PE X (.Call (.Attribute o "setdefault" ĝ) [e,f] [] Ď)<|W4 ī ty ϣ:=by
 intro k H l I ax J K;refine XG m.base m.few m.line Dr yS PySem.F.type_dict_setdefault<|cH (E k H l I _ J K) λL s1 M=>?_;obtain⟨ay,N,s,O,n,P,Q,R⟩:=M;subst P;obtain rfl:L=æ n:=O;obtain⟨S,V,az⟩:=QM s Q;refine⟨S,V,by
  rw[m.trees];refine jU D<|s8<|jr<|cH (F k s1 l N _ s R) λaA s2 ⟨aB,W,Y,Z,aa⟩=>jr<|cH (G k s2 l W _ Y aa) λab s3 ⟨d,t,j,u,h,a,ad,p,ae,v,af,ag,ah⟩=>wH ?_;subst ae;cases(Z);obtain⟨aC,w,ai,q,x⟩:=UK j.hok p;have b:=q.val a;refine Cu yS x.typeIs PySem.F.entry_dict_setdefault (PySem.F.args_dict_setdefault_3 _ _ _) (K7 (ϗ<|aZ X.prog X.w) n ad w ab) ⟨gM C,a,ai,qj j.hok v,x,by rwa [<-Paired.length q],λaD aj=>?_,λak aE al am=>?_⟩
  .rw[aj]at b;cases i:cW h a with
   |none=>rw[i]at b;exact(b).elim
   |some r=>rw[i]at b;exact⟨r,t,j.tok _,b,ag r i⟩
  .rw[ak]at b;have an:cW h a=g:=by
    cases i:cW h a with
    |none=>rfl
    |some r=>rw[i]at b;exact(b).elim
   obtain⟨y,ao,ap,z,aq,ar,av,_,aw⟩:=al;exact⟨d,T t n<|.dT<|c7 h a d,E6 (ob:=.dT<|c7 h a d) j (p▸Ϗ) am ⟨y,z⟩ ⟨Ć (jo h a d) af,w,_,(q.put a v u).keeps λaF aG A=>by rw[au (bB A p (λd=>nomatch d))];exact A,y,ao,ap,z,aq,ar,av,aw⟩,u,ah an⟩⟩
end
section
variable{A:ź}
def rV{k:J bW}(q:(ϗ<|aZ prog w).is h k a)(e:∀o,h.get? a=B o->h'.get? a=B o):(ϗ<|aZ prog w).is h' k a:=by obtain⟨o,b,d,f,i⟩:=q;exact⟨o,b,d,e _ f,i⟩
def uA{χ:O}{N:J<|J bW×O×z}(d:h.DictOfH (ϗ<|aZ prog w) χ N)(e:∀b o,(b=χ\/∃x∈N,x.2.1=b)->h.get? b=B o->h'.get? b=B o):h'.DictOfH (ϗ<|aZ prog w) χ N:=by obtain⟨o,f,i,j,k,l,m,n,p⟩:=d;exact⟨o,f,i,e _ _ (.inl D) j,k,l,m,λx a=>rV (n x a) λo q=>e _ _ (.inr ⟨x,a,D⟩) q,p⟩
noncomputable def zI (acc İ:J<|J bW×O×z):J<|J bW×O×z:=İ.foldl (λacc q=>oM acc q.1 q.2.1 q.2.2) acc
def HR{acc:J<|J bW×O×z}{k:J bW}{x:J bW×O×z}(h:x∈oM acc k a v):x.2.1=a\/∃y∈acc,y.2.1=x.2.1:=by
 unfold oM at h;split at h
 .obtain⟨y,b,rfl⟩:=ń.mp h;right;exists y,b;unfold putAt;split<;>rfl
 grind
theorem Jd(acc:J<|J bW×O×z)(k:J bW)(a:O)(v:z):(L<|oM acc k a v)<=L acc+1:=by
 unfold oM;split
 .simp[Ε]
 simp[Ω,Õ]
theorem DS{Χ:OX->Í->Prop}{χ I l:O}{items:ŕ z}{res:z}(H:(ϗ<|aZ prog w).room A.in1)(K:A.handled=g)(N:l≠I)(n:χ≠I)(P:χ≠l):
  ∀(İ:J<|J bW×O×z) (i:M) (acc:J<|J bW×O×z) (h:Z) (t:Xy) (s:Í),items.size=i+L İ->L acc+L İ<=sizeLine->
   (∀(j:M) (q:J bW×O×z),İ[j]?=B q->∃b:O,items[i+j]?=B (.ref b)/\b≠χ/\b≠I/\Ga s.heap b #[.ref q.2.1,q.2.2]/\q.2.1≠χ/\q.2.1≠I/\(ϗ<|aZ prog w).is s.heap q.1 q.2.1)->
   (∀x∈acc,x.2.1≠χ/\x.2.1≠I)->s.heap.IsListIter I l i->s.heap.IsList l items->s.heap.DictOfH (ϗ<|aZ prog w) χ acc->
   (∀h' tk,h'.DictOfH (ϗ<|aZ prog w) χ (zI acc İ)->(∀b o,b≠χ->b≠I->s.heap.get? b=B o->h'.get? b=B o)->Χ (.ok<|.ret res) {s with heap:=h',toks:=tk})->
   j4 (ă prog w) A (.builtin "dict.update.loop" ⟨[.ref χ,.ref I,.int h t,res],[]⟩) Χ s
 |[],i,acc,h,t,s,k,Q,p,r,u,m,v,y=>by
  refine g8 v7 ?_;rw[eZ iM _];refine Λ (vd K u m (by first|exact jW (iF k)|(simp at k;simp;lia)) λh' R=>?_);refine Λ<|Ê<|Ê ?_;refine y h' s.toks (uA v λb o e a=>R b o ?_ a) λb o _ e a=>R b o e a;rcases e with rfl|⟨x,C,rfl⟩
  .exact n
  .exact(r x C).2
 |q::İ,i,acc,h,t,s,k,Q,p,r,u,m,v,y=>by
  obtain⟨b,e,aw,ad,ae,af,S,ag⟩:=p 0 q D;rw[Ñ]at k Q;refine g8 v7 ?_;rw[eZ iM _];refine Λ (uo u m (by simpa using e) λax ah d=>?_);obtain⟨o,T,ai,ay,aj⟩:=id<|ae.extBut d.extBut ad;refine Λ<|Ũ ?_;refine Λ<|wpAny_tryCatch ?_;refine Λ<|oN ⟨o,T,ai⟩ ?_;rw[à<|by first|decide|rfl|simp];refine Λ<|lK T aj<|Ê ?_;refine Ũ<|wpAny_dictSet_heap H (rV ag λo a=>d.extBut _ o S a) (uA v λb o e a=>d.extBut b o xV a) (λaz ak f=>?_) aL;refine Ê ⟨ie iM _,DS H K N n P İ (i+1) (oM acc q.1 q.2.1 q.2.2) (h+1) 0 _ (show items.size=i+1+L İ by lia) ?_ (λj al a=>?_) (λx C=>?_) ?_ ?_ ak λh' tk am an=>?_⟩
  .grind[Jd]
  .obtain⟨ao,aA,V,W,ap,X,Y,aq⟩:=p (j+1) al (by simpa using a);refine⟨ao,?_,V,W,(ap.extBut d.extBut W).extBut f.extBut V,X,Y,rV (rV aq λo a=>d.extBut _ o Y a) λo a=>f.extBut _ o X a⟩;lia
  .rcases HR C with E|⟨ar,au,E⟩
   .rw[E];exact⟨af,S⟩
   .rw[<-E];exact r ar au
  .exact ah.at λav a=>f.extBut I av (Ϛ n) a
  .exact(m.extBut d.extBut N).extBut f.extBut<|Ϛ P
  .exact y h' tk am λF G aa ab a=>an F G aa ab<|f.extBut F G aa<|d.extBut F G ab a
def xj{s:Í}{l:O}{d:gf}{items:ŕ z}{n:M}{prs:J<|J bW×O×z}{Q:z->Í->Prop}(T:A.units+2<d_)(u:A.handled=g)(r:s.heap.get? l=B d)(t:d.cls=.type "list")(V:d.dict=g)
  (v:d.data=.seq items n) (W:items.size=L prs) (af:L prs<=sizeLine)
  (X:∀(j:M) (q:J bW×O×z),prs[j]?=B q->∃b:O,items[j]?=B (.ref b)/\Ga s.heap b #[.ref q.2.1,q.2.2]/\(ϗ<|aZ prog w).is s.heap q.1 q.2.1)
  (h:∀h' tk,h'.DictOfH (ϗ<|aZ prog w) s.heap.objs.size (zI [] prs)->(∀b o,s.heap.get? b=B o->h'.get? b=B o)->Q (.ref s.heap.objs.size) {s with heap:=h',toks:=tk}):
  ô (ă prog w) A (jS (.type "dict") [.ref l]) Q E s:=by
 refine callType_codes (Q₁:=λx y=>x=.ref s.heap.objs.size/\y={s with heap:=s.heap.push {cls:=.type "dict",data:=.dict #[]}}) EN (z7 _) Ds (Yz _ ⟨D,D⟩) ?_;rintro x y ⟨rfl,rfl⟩;have C:(s.heap.push {cls:=.type "dict",data:=.dict #[]}).DictOfH (ϗ<|aZ prog w) s.heap.objs.size []:=Heap.DictOfH.new s.heap;have e:∀b o,s.heap.get? b=B o->(s.heap.push {cls:=.type "dict",data:=.dict #[]}).get? b=B o:=λb o a=>ß _ a;have F:Shared.TypeIs {s with heap:=s.heap.push {cls:=.type "dict",data:=.dict #[]}} (.ref s.heap.objs.size) "dict":=C.typeIs;exists F,Cv _ _;refine Λ ?_;refine Λ<|mq F ?_;show ô _ _ (pure (s.heap.objs.size,[æ l])) _ _ _;refine Ê ?_;show ô _ _ (yL "dict.__init__" s.heap.objs.size (.ref l) [] .none) _ _ _;refine Λ<|oN ⟨d,e _ _ r,t⟩ ?_;rw[à<|by first|decide|rfl|simp];refine Λ<|Eu (e _ _ r) t v V u λf Y i=>?_;rw[à<|show(g:É z).isNone=U from D];refine Λ<|z8 ?_;have G:f.IsList l items:=⟨d,i _ _<|e _ _ r,t,n,v⟩;have k:s.heap.objs.size<f.objs.size:=by exact û<|i _ _<|Ą _ D
 refine Λ<|lF G ?_;have m:∀b o,f.get? b=B o->(f.push {cls:=.type "list_iterator",data:=.fields #[.ref l,.int 0 0]}).get? b=B o:=λb o a=>ß _ a;have H:=û r;have K:=DS (prog:=prog) (w:=w) (A:=A.in1) (Χ:=wants (λZ aa=>Z=.none/\Q (.ref s.heap.objs.size) aa) E) (χ:=s.heap.objs.size) (I:=f.objs.size) (l:=l) (items:=items) (res:=ž) T u
  (ė<|fE H k) (ė k) (ki H) prs 0 [] 0 0
  {s with heap:=f.push {cls:=.type "list_iterator",data:=.fields #[.ref l,.int 0 0]},toks:=Y} (by rw[W,ύ]) (by simp_all[ŭ,ύ])
  (λj q a=>by
   obtain⟨b,ag,N,P⟩:=X j q a;have R:=N.lt;have S:q.2.1<s.heap.objs.size:=by obtain⟨o,_,_,p,_⟩:=id P;exact û p
   exact⟨b,by rwa [ύ],ė R,ė<|fE R k,N.keeps λah o p=>m _ _<|i _ _<|e _ _ p,ė S,ė<|fE S k,rV P λo p=>m _ _<|i _ _<|e _ _ p⟩)
  (λai ab=>(nomatch ab)) ⟨_,Ą _ D,D,D⟩ (G.at λo a=>m _ _ a) (uA C λb o _ a=>m _ _<|i _ _ a)
  (λh' tk ad ae=>⟨D,h h' tk ad λb o a=>ae b o (ė<|û a) (ė<|fE (û a) k)<|m _ _<|i _ _<|e _ _ a⟩)
 first
  |exact Ê ⟨ie iM _,K⟩
  |exact Λ<|Ê<|Ê ⟨ie iM _,K⟩
end
noncomputable def mX (acc:J<|J bW×V) (Ô:J<|O×J bW×V):J<|J bW×V:=Ô.foldl (λacc a=>c7 acc a.2.1 a.2.2) acc
theorem Br:∀(Ô:J<|O×J bW×V) (acc:J<|J bW×V),(L<|mX acc Ô)<=L acc+L Ô
 |[],acc=>Õ _
 |z::Ô,acc=>by have a:=Br Ô<|c7 acc z.2.1 z.2.2;have b:=jo acc z.2.1 z.2.2;show(L<|mX (c7 acc z.2.1 z.2.2) Ô)<=_;rw[Ñ];lia
theorem KT.merge{H:Hp}:∀{Ô:J<|O×J bW×V} {d:J<|J bW×O×z} {acc:J<|J bW×V} {N:J<|J bW×O×z},ď (λ(a:O×J bW×V) (q:J bW×O×z)=>a.2.1=q.1/\a.1=q.2.1/\H a.1=B (.bO<|a.2.1.map kV)/\bE a.2.2 q.2.2) Ô d->KT H acc N->
  KT H (mX acc Ô) (zI N d)
 |_,_,_,_,.nil,b=>b
 |_,_,acc,N,.cons (a:=a) (b:=q) e f,b=>by
  obtain⟨h,i,j,k⟩:=e;have l:KT H (c7 acc a.2.1 a.2.2)<|oM N q.1 q.2.1 q.2.2:=by rw[<-h,<-i];exact b.put a.2.1 j k
  have m:=KT.merge f l;exact m
theorem D3{aC:J<|O×gf}{σ:L2.St}{H:Hp}{s:Í}(I:Inv X aC σ H s):∀{θ:J O} {Ô:J<|O×J bW×V},ď (λp (a:O×J bW×V)=>gb K H p [.ref a.1,a.2.2]/\H a.1=B (.bO<|a.2.1.map kV)) θ Ô->
  ∃d:J<|J bW×O×z,ď (λ(a:O×J bW×V) (q:J bW×O×z)=>a.2.1=q.1/\a.1=q.2.1/\H a.1=B (.bO<|a.2.1.map kV)/\bE a.2.2 q.2.2) Ô d/\L d=L θ/\
   ∀(j:M) (q:J bW×O×z),d[j]?=B q->∃b:O,θ[j]?=B b/\Ga s.heap b #[.ref q.2.1,q.2.2]/\(ϗ<|aZ X.prog X.w).is s.heap q.1 q.2.1
 |_,_,.nil=>⟨[],.nil,D,λj q e=>by simp at e⟩
 |_,_,.cons (a:=p) (b:=a) f h=>by
  refine bx λE i=>?_;obtain⟨d,k,l,m⟩:=D3 I h;obtain⟨F,n,o,_⟩:=I.tuple f.1;obtain⟨r,t,u,v,w⟩:=L0 n;apply i;subst u;obtain rfl:r=æ a.1:=v;refine⟨(a.2.1,a.1,t)::d,.cons ⟨D,D,f.2,w⟩ k,by rw[Ñ,Ñ,l],λj q e=>?_⟩;cases j with
  |zero=>
   have x:=ĥ e;subst x;exact⟨p,D,o,qj I.hok f.2⟩
  |succ j=>
   obtain⟨b,y,A,C⟩:=m j q (by simpa using e);exact⟨b,by simpa using y,A,C⟩
def AX(n:X.calm=U)(aj:X.A.units+64<d_):ig X (.type "dict") (λN H Q=>∃(a:O) (θ:J O) (Ô:J<|O×J bW×V),N=[.ref a]/\aN K H a (θ.map V.ref)/\ ď (λp (d:O×J bW×V)=>gb K H p [.ref d.1,d.2.2]/\H d.1=B (.bO<|d.2.1.map kV)) θ Ô/\∀p,H p=g->Q (.ref p) (T H p<|.dT<|mX [] Ô)):=by
 intro ak i al H N am Q b o e;obtain⟨a,θ,Ô,q,r,s,e⟩:=e;subst q;obtain⟨an,t,u⟩:=rO o;subst t;cases u;obtain⟨ap,v,w,j⟩:=b.list r;have x:=F2 v;subst x;rw[Ε]at j;obtain⟨k,l,f,y⟩:=D3 b s;obtain⟨aq,ar,z,A,C,E⟩:=w;refine xj (prs:=k) aL (b.ok.hd n) z A C E (by simp[f]) (f▸j) (λF h G=>?_) λav I M P=>?_
 .obtain⟨R,S,W,Y⟩:=y F h G;exact⟨R,by simp[S],W,Y⟩
 .have Z:(L<|mX [] Ô)<=sizeLine:=by
   refine Ć (Br Ô []) ?_
   rwa [ŭ,ύ,Paired.length l,f]
  have m:=b.hok.fresh<|Õ _;obtain⟨h,aa,ab,ad,ae,af,ag,_,ah⟩:=M;refine⟨.ref i.heap.objs.size,T H i.heap.objs.size<|.dT<|mX [] Ô,b.laid (t':=I) P (Õ _) ?_,D,e _ m⟩;exact⟨Z,Ş.mpr<|ki b.big,zI [] k,(KT.merge l .nil).keeps λaw ax ai=>by rwa [au<|ao ai m],h,aa,ab,ad,ae,af,ag,ah⟩
section
variable{A:ź}{s:Í}
def Lp(d:O)(a:(d==ϟ)=Τ):MeetsIn prog w (qU.«dict.__len__» ⟨[.ref d],[]⟩) (λ_ Χ s=>∃N,s.heap.DictOfH (ϗ<|aZ prog w) d N/\Χ (.ok<|.ret<|.int (L N) s.toks) {s with toks:=s.toks+1}):=
 .of_wp λj Χ s ⟨N,b,k⟩=>by
  refine bx λl e=>?_;obtain⟨m,n,o,f,p,h,i,q,r⟩:=b;apply e;show ô _ _ (dictSize d>>=_) _ _ s;refine Λ<|Λ<|lM f h<|Ê<|by refine Λ<|wpAny_pendingCount_other a<|wpAny_ret_mkInt<|by rwa [iH,Gx i]
def Nz{d:O}{N:J<|J bW×O×z}{Q:z->Í->Prop}(b:(d==ϟ)=Τ)(a:s.heap.DictOfH (ϗ<|aZ prog w) d N)(e:(L N:Z)<2^63)
  (h:Q (.int (L N)<|s.toks+1) {s with toks:=s.toks+1+1}):ô (ă prog w) A (qU.«len» ⟨[.ref d],[]⟩) (λjk s'=>∃r,jk=.done (.ret r)/\Q r s') E s:=by
 refine Λ<|Ê<|Λ<|tg a.typeIs XW<|Cu XW a.typeIs F.entry_dict_len (F.args_dict_len_1 _) (Lp d b) ⟨N,a,?_⟩;refine Λ<|Ũ<|Ê<|Λ<|wpAny_letGo ?_;rw[Ó bh];rw[Ó fX];exact Λ<|wpAny_mkInt<|Ê ⟨_,D,h⟩
end
section
variable{p pos:kX}
def K2:ig X (.builtin "len") (λN H Q=>∃a Β,N=[V.ref a]/\Rd H a (.dT Β)/\Q (.int<|L Β) H):=by intro p q r H N s Q d f b;obtain⟨a,Β,h,i,b⟩:=b;subst h;obtain⟨t,j,k⟩:=rO f;subst j;cases k;obtain⟨l,m,u,n,o⟩:=yv d.hok i;have e:=Paired.length n;refine Calls.call_function_entry kind_len plain_len entry_len (args_len1 _) (Nz m o (by rw[<-e];rw[Î]at l;lia) ?_);rw[<-e];exact⟨.int<|L Β,H,d.tok _,⟨_,D⟩,b⟩
def Zn(Â:TE):TE:=Ek (λN H Q=>∃a Β,N=[V.ref a]/\Rd H a (.dT Β)/\Q (.int<|L Β) H)<|bg Â cB
def zJ(b:X.mg "len"=g)(d:PE X e Â)(f:Gl X "len":=by rfl)(a:ë [e] X.env=(Τ,Ŧ e X.env)::ë [] X.env:=by rfl):PE X (.Call (.Name "len" p) [e] [] pos)<|Zn Â:=
 jN K2 f b tn (aa d aj a) bM bM a
end
def NJ(l b:O){Æ:jC}{Ï a:ŕ z}{n h:M}(p:Æ="list"\/Æ="tuple")(i:o.cls=.type Æ)(j:o.data=.seq a h)(k:Ï.size+a.size<=sizeLine):
  Meets (qU.«list.extend» ⟨[.ref l,.ref b],[]⟩) (λ_ Χ s=>s.heap.get? l=B {cls:=.type "list",data:=.seq Ï n}/\s.heap.get? b=B o/\Χ (.ok<|.ret .none) {s with heap:=s.heap.update l (q4 (·++a))}):=
 .of_wp λq r t Χ s d=>by
  obtain⟨e,f,d⟩:=d;show ô _ _ (Builtin.List.listExtendWith (.ref l) (.ref b) .none) _ _ s;refine Λ<|oN ⟨o,f,i⟩ ?_;have m:(Builtin.List.listSameRef (.ref l) (.ref b)||d8 Æ==d8 "list"||d8 Æ==d8 "tuple")=U:=by lia
  simp only[m,oK];unfold Builtin.List.listItems;refine Λ<|Λ<|lK f j<|Ê<|Λ<|Λ<|lK e D<|Ê ?_;rw[(by rw[Ri k,ϭ]:(!Ï.isEmpty&&mj (Ï.size+a.size))=false)];exact Λ<|wpAny_updateSeq e D (Ê ⟨_,D,d⟩) (_hz':=by rw[Array.size_append];lia)
inductive Uw(K:Ζ)(x:V)(vs:J V)(H:Hp)(Q:VK):Prop
 |mk(l b N Ô:_)(_:x=.ref l)(_:vs=[.ref b])(_:H l=B (.Y N))(_:(aN K H b Ô\/gb K H b Ô))(_:L N+L Ô<=sizeLine)(_:Q .b_<|T H l<|.Y<|N++Ô)
section
variable{o:Ž}{ŉ:TE}{Ď:kX}
def WO:MtM X "list.extend"<|Uw K:=by
 intro r o s H I L N O t j u v w;obtain⟨p,m,P,x,rfl,rfl,q,e,Q,y⟩:=w;cases u;obtain⟨R,rfl,A⟩:=v.one;cases A;obtain⟨S,C,T,E,V,n⟩:=j.Vs q;have jk:∀{k:jC} {a:gf} {b:J z} {l:M},k="list"\/k="tuple"->o.heap.get? m=B a->a.cls=.type k->a.data=.seq b.toArray l->bz x b->ô (ă X.prog X.w) X.A (jS (.builtin "list.extend") [.ref p,.ref m]) (EP X r s t) X.xe o:=by intro k a b l G f h i d;have W:=d.length;refine uq JR ⟨_,n,D⟩ F.entry_list_extend (F.args_list_extend_2 _ _) (NJ p m G h i fX) ⟨n,f,⟨.b_,_,j.Wf (its':=C++b) q n bh (E.append d)<|by rwa [Ω],D,y⟩⟩
 rcases e with e|e
 .obtain⟨b,d,⟨a,l,f,h,_,i⟩,_⟩:=j.list e;exact jk (.inl D) f h i d
 .obtain⟨b,d,⟨a,f,h,l,i⟩,_⟩:=j.tuple e;exact jk (.inr D) f h i d
def kF(b:PE X o ŉ)(d:PE X e Â)(f:eo o "extend" X.env (Ŧ o X.env)=Ŧ o X.env:=by rfl)
  (h:((ϴ Ď<|ë [e] X.env).all (λx=> !x.1)&&(jT Ď<|er [] X.env).all (λx=>x.1.isSome) &&ã ((L ([e]:J Ž))+(L ([]:J nq))+(if([]:J nq).isEmpty then 0 else 1)<30))=U:=by rfl)
  (i:(ĝ.endLine==Ď.line)=U:=by rfl) (a:ë [e] X.env=(Τ,Ŧ e X.env)::ë [] X.env:=by rfl):
  PE X (.Call (.Attribute o "extend" ĝ) [e] [] Ď) (SR K "list" (Uw K) ŉ<|bg Â cB):=
 En ϋ JR PySem.F.type_list_extend WO b (aa d aj a) f h i a
end
inductive MI(K:Ζ)(x:V)(N:J V)(H:Hp)(Q:VK):Prop
 |mk(a b:O)(Ø:J ê)(t:ê)(j:M)(_:x=.ref a)(_:N=[.ref b])(_:wF K H a Ø)(_:Nm H b t)(_:Ø[j]?=B t)(_:(∀m,m<j->Ø[m]?≠B t))(_:Q (.int (j:M)) H)
section
variable{o:Ž}{ŉ:TE}{Ď:kX}
def Nr(V:X.A.units+64<d_):MtR X "list.index"<|MI K:=by
 intro W e Y v Z aa ab ad ae f w x y;obtain⟨z,af,d,h,i,rfl,rfl,⟨ag,A,l⟩,C,E,F,G⟩:=y;cases w;obtain⟨m,rfl,H⟩:=x.one;obtain⟨ah,I⟩:=Dp.reads f _ _ m (Rv C) H;obtain⟨b,J,⟨⟨ai,N,aj,O⟩,P,n,o,ak,p⟩,Q⟩:=f.list A;simp only at o p;subst o p;obtain⟨al,q⟩:=Dp.readsAll f (d.map nD) _ b (B0 l) J;have r:=SeqAt.readsAll_map _ _ _ (vK d) q;have am:L b=L d:=by rw[<-Ε,r,Ε]
 have s:∀a (j:a<b.toArray.size),jf (wO e.heap b.toArray[a]) (nD h)=ã (d[a]?=B h):=λa j=>by
  have t:(b.map<|wO e.heap)[a]?=B (wO e.heap b[a]):=by rw[Ë,ą<|by simpa using j];rfl
  rw[r,Ë]at t;obtain⟨u,R,S⟩:=Ü.mp t;rw[(by rfl:b.toArray[a]=b[a]),<-S,Kr,R];simp
 have k:i<b.toArray.size:=by
  grind
 have an:=Î;rw[Ε]at Q;have ao:=l.length;have ap:=z0 d;refine uq je ⟨_,n,D⟩ Cs (Cc _ _)
  (MW z b.toArray P N O m (λu=>jf (wO e.heap u)<|nD h) i k (by rw[ġ]at k;lia) ?_ ?_) ⟨n,SeqAt.items_eqAt (by simpa using q) I (vK d) (Kc h) aL,⟨.int (i:M),v,f.tok _,⟨_,D⟩,G⟩⟩
 .rw[s i k,ő E]
 .intro a j T;rw[s a j,Ņ<|F a T]
def Uo(b:X.A.units+64<d_)(d:PE X o ŉ)(f:PE X e Â)(h:eo o "index" X.env (Ŧ o X.env)=Ŧ o X.env:=by rfl)
  (i:((ϴ Ď<|ë [e] X.env).all (λx=> !x.1)&&(jT Ď<|er [] X.env).all (λx=>x.1.isSome) &&ã ((L ([e]:J Ž))+(L ([]:J nq))+(if([]:J nq).isEmpty then 0 else 1)<30))=U:=by rfl)
  (j:(ĝ.endLine==Ď.line)=U:=by rfl) (a:ë [e] X.env=(Τ,Ŧ e X.env)::ë [] X.env:=by rfl):
  PE X (.Call (.Attribute o "index" ĝ) [e] [] Ď) (SR K "list" (MI K) ŉ<|bg Â cB):=
 En ϋ je Dy (Nr b) d (aa f aj a) h i j a
end
inductive TJ(Tb:O->Sp->Prop)(E:XK)(t:TA)(σ:L2.St)(Q:VK)(x:V)(ο:Hp):Prop
 |mk (f Ã:_) (_:x=.ref f) (_:Tb f Ã) (_:t σ ο λvs Θ=>Ã vs Θ Q E)
def Vn(Tb:O->Sp->Prop)(E:XK)(È:TE)(t:TA):TE:=λσ H Q=>È σ H λx ο=>TJ Tb E t σ Q x ο
section
variable{CX:E5}{E:XK}{nQ:Ž}{Α:J Ž}{pos:kX}{È:TE}{t:TA}{Tb:O->Sp->Prop}
def Pu(i:∀f Ã,Tb f Ã->∃k Ä θ,lZ X.prog X.w K X.mg X.base CX k f Ä θ Ã/\c6 k X.A/\ũ K (.ref f)=U/\jl K Ä θ [])(Ο:jb CX X E)(j:PE X nQ È)(l:PA X (e::Α) t)
  (m:ë (e::Α) X.env=(Τ,Ŧ e X.env)::ë Α X.env:=by rfl) (n:(ϴ pos<|ë Α X.env).any (·.1)=Τ:=by rfl)
  (o:Ŧ (.Call nQ (e::Α) [] pos) X.env=(do Cq pos (<-Ŧ nQ X.env) [] (ϴ pos<|ë (e::Α) X.env) (jT pos<|er [] X.env)):=by rfl):
  PE X (.Call nQ (e::Α) [] pos) (Vn Tb E È t):=by
 intro a p b q J r s;refine Call_ (cH (j a p b q _ r s) λu s1 v=>?_) o;obtain⟨L,w,d,x,f,Ã,y,z,A⟩:=v;subst y;obtain rfl:u=æ f:=x;obtain⟨k,Ä,θ,C,F,G,H⟩:=i f Ã z;refine dQ d.ok.mod.QW G (cH (l pos a s1 b w _ d A) λM s2 ⟨N,O,h,I,P⟩=>⟨h.lV,?_⟩) m n;exact F8 C F H .nil Ο h I<|by rwa [ö]
end
abbrev m8:=J<|Đ×O×J M
noncomputable def bI (Ă:m8):J<|J bW×V:=Ă.map λa=>(kT a.1,V.ref a.2.1)
structure Ck(G H Ι:Hp)(Ă:m8):Prop where
 at_:∀z∈Ă,Lo G H z.2.1 (.Y<|z.2.2.map nV)/\Ι z.2.1=g
 nd:(Ă.map λz=>z.2.1).Nodup
structure fW(f:ě)(d:ó)(Ă:m8):Prop where
 names:(Ă.map λz=>z.1)=b7 f d
 parts:∀z∈Ă,z.2.2=ř d f z.1
section
variable{Ă:m8}{f:ě}
theorem Ck.ex(t:Ck G H Ι Ă)(e:Ex G H Κ R):Ck Κ R Ι Ă:=⟨λa b=>⟨(t.at_ a b).1.ex e,(t.at_ a b).2⟩,t.nd⟩
theorem Ck.other{y:O}{o:HO}(t:Ck G H Ι Ă)(h:∀a∈Ă,a.2.1≠y):Ck G (T H y o) Ι Ă:=⟨λa b=>⟨(t.at_ a b).1.other<|h a b,(t.at_ a b).2⟩,t.nd⟩
theorem Ck.ne{y:O}{o:HO}(t:Ck G H Ι Ă)(b:H y=B o)(d:∀N,o≠.Y N):∀a∈Ă,a.2.1≠y:=λa e f=>by have:=(t.at_ a e).1.at_;rw[f,b]at this;exact d _<|ĥ this
def Ck.add{a b:m8}{l:O}(t:Ck G H Ι<|a++(n,l,ns)::b)(i:M):Ck G (T H l<|.Y<|(ns++[i]).map nV) Ι<|a++(n,l,ns++[i])::b:=by
 have e:=t.nd;refine⟨λj m=>?_,by rw[Ý,þ]at e⊢;exact e⟩;rw[Ý,þ,gP]at e;obtain⟨_,k,o⟩:=e;rw[ϐ]at k;rcases î.mp m with f|f
 .have d:=t.at_ j<|Ĭ _ f;exact⟨d.1.other<|o _ (ō f) l Ö,d.2⟩
 .rcases ç.mp f with h|h
  .subst h;have d:=t.at_ (n,l,ns)<|ò _ Ö;exact⟨d.1.put,d.2⟩
  .have d:=t.at_ j<|ò _<|Ç _ h;exact⟨d.1.other λp=>k.1<|ń.mpr ⟨j,h,p⟩,d.2⟩
def Ck.new{l:O}(t:Ck G H Ι Ă)(f:Lo G H l<|.Y<|ns.map nV)(h:Ι l=g)(i:∀a∈Ă,a.2.1≠l):Ck G H Ι<|Ă++[(n,l,ns)]:=by
 refine⟨λa d=>?_,?_⟩
 .rcases î.mp d with b|b
  .exact t.at_ a b
  .rw[đ]at b;subst b;exact⟨f,h⟩
 .rw[Ý,gP];refine⟨t.nd,bh,λk j m e=>?_⟩;simp at e;obtain⟨a,d,rfl⟩:=ń.mp j;rw[e];exact i a d
theorem GS(a b:m8)(n:Đ)(l:O)(ns d:J M):bI (a++(n,l,ns)::b)=bI (a++(n,l,d)::b):=by unfold bI;simp
theorem Ol(Ă:m8):(bI Ă).map (·.1)=(Ă.map λa=>a.1).map kT:=by unfold bI;simp
def fW.keys(t:fW f d Ă):dg (bI Ă)<|b7 f d:=by unfold dg;rw[Ol,t.names]
def BQ{n:Đ}{v:V}(h:cW (bI Ă) (kT n)=B v):∃a b l ns,Ă=a++(n,l,ns)::b/\v=.ref l:=by
 induction Ă with
 |nil=>cases h
 |cons d Ă f=>
  by_cases e:d.1=n
  .have h:cW ((kT d.1,V.ref d.2.1)::bI Ă) (kT n)=B v:=h;rw[gj (p:=(kT d.1,V.ref d.2.1))<|by rw[e]]at h;exact⟨[],Ă,d.2.1,d.2.2,by rw[<-e];rfl,(ĥ h).symm⟩
  .have h:cW ((kT d.1,V.ref d.2.1)::bI Ă) (kT n)=B v:=h;rw[fO (p:=(kT d.1,V.ref d.2.1)) λi=>e<|u0 i]at h;obtain⟨a,b,l,ns,j,k⟩:=f h;exact⟨d::a,b,l,ns,by rw[j];rfl,k⟩
theorem ql(f:ě)(d:ó):(b7 f d).Nodup:=kE _ _ fU
def fW.add{a b:m8}{l:O}(t:fW f d<|a++(n,l,ns)::b)(s:c.isFile=f)(u:c.name=n):fW f (d++[.chunk c])<|a++(n,l,ns++[L d])::b:=by
 have j:=ql f d;have p:=t.names;rw[<-p,Ý,þ,gP]at j;obtain⟨_,k,q⟩:=j;rw[ϐ]at k;have v:n∈b7 f d:=xV;refine⟨?_,λe r=>?_⟩
 .simp_all[A6,Ċ,à,Ý]
 .rw[l0];have m:e.1≠n->e.2.2=ř d f e.1->e.2.2=ř d f e.1++if dX f e.1 (.chunk c) then[L d] else[]:=λo w=>by
   have:dX f e.1 (.chunk c)=Τ:=by show(c.isFile==f&&c.name==e.1)=Τ;lia
   simp_all[Ó,ö]
  rcases î.mp r with h|h
  .exact m (q _ (ō h) n Ö)<|t.parts e<|Ĭ _ h
  .rcases ç.mp h with i|i
   .subst i;have x:=t.parts (n,l,ns)<|ò _ Ö;simp_all[dX,à]
   .exact m (λo=>k.1<|ń.mpr ⟨e,i,o⟩)<|t.parts e<|ò _<|Ç _ i
def fW.new{l:O}(t:fW f d Ă)(i:c.isFile=f)(j:c.name=n)(h:n∉b7 f d):fW f (d++[.chunk c])<|Ă++[(n,l,[L d])]:=by
 refine⟨?_,λe k=>?_⟩
 .rw[A6 d i,j];unfold Ċ;rw[Ó λa=>h<|ē.mp a,Ý,t.names];rfl
 .rw[l0];rcases î.mp k with b|b
  .have a:e.1≠n:=λa=>h (by rw[<-t.names,<-a];exact ō b);have:dX f e.1 (.chunk c)=Τ:=by show(c.isFile==f&&c.name==e.1)=Τ;lia
   rw[this,Ó bM,ö];exact t.parts e b
  .rw[đ]at b;subst b;have:dX f n (.chunk c)=U:=by show(c.isFile==f&&c.name==n)=U;rw[i,j];simp
   have m:=gZ λa=>h<|v_.mp a;simp_all[à]
def fW.skip(t:fW f d Ă)(b:c.isFile≠f):fW f (d++[.chunk c]) Ă:=by
 refine⟨IL d b▸t.names,λa e=>?_⟩;have:dX f a.1 (.chunk c)=Τ:=by show(c.isFile==f&&c.name==a.1)=Τ;simp_all[Ϫ]
 rw[l0,this,Ó bM,ö];exact t.parts a e
theorem fW.prose{x:ê}(t:fW f d Ă):fW f (d++[.prose x]) Ă:=by refine⟨by rw[E9];exact t.names,λa b=>?_⟩;rw[l0,show dX f a.1 (.prose x)=Τ from D,Ó bM,ö];exact t.parts a b
theorem fW.start:fW f [] []:=⟨D,λb a=>(nomatch a)⟩
def fW.find(t:fW f d Ă)(h:n∈b7 f d):∃l,cW (bI Ă) (kT n)=B (.ref l)/\((n,l,ř d f n):Đ×O×J M)∈Ă:=by have a:=t.keys.isSome n;rw[ē.mpr h]at a;obtain⟨m,b⟩:=oE.mp a;obtain⟨i,j,l,e,rfl,rfl⟩:=BQ b;have k:((n,l,e):Đ×O×J M)∈i++(n,l,e)::j:=ò _ Ö;exact⟨l,b,by rwa [<-(t.parts _ k)]⟩
theorem fW.miss(t:fW f d Ă)(h:n∉b7 f d):cW (bI Ă) (kT n)=g:=by have a:=t.keys.isSome n;simp_all
end
noncomputable def C1 (bl Û ch ð Ĉ:O):J<|S×V:=[("blocks",.ref bl),("files",.ref Û),("chunks",.ref ch),("names",.ref ð),("settings",.ref Ĉ)]
def Zf(G:Hp)(Ă:m8):Prop:=∀a∈Ă,G a.2.1=B (.Y<|a.2.2.map nV)
structure KP(K:Ζ)(A:Ad)(G:Hp)(a ξ bl fi ch na se:O)(bs:J V)(ā ct:m8)(ģ Ĥ:J<|J bW×V)(d:ó):Prop where
 ob:G a=B (.aE A.doc ξ<|C1 bl fi ch na se)
 bl:aN K G bl bs
 bs:ď (mK K A G) bs d
 fi:Rd G fi<|.dT<|bI ā
 tf:Zf G ā
 fk:fW U d ā
 ch:G ch=B (.dT<|bI ct)
 tc:Zf G ct
 ck:fW Τ d ct
 na:G na=B (.dT ģ)
 nk:dg ģ<|Ĺ d
 se:G se=B (.dT Ĥ)
 sk:dg Ĥ<|Ŵ d
inductive oU(K:Ζ)(A:Ad)(G:Hp)(a:O)(d:ó):Prop
 |mk(ξ bl Û ch ð Ĉ å ā ct ģ Ĥ:_)(_:KP K A G a ξ bl Û ch ð Ĉ å ā ct ģ Ĥ d)
inductive Ua(K:Ζ)(A:Ad)(G:Hp)(a:O)(d:ó):Prop
 |mk(ξ bl Û ch ð Ĉ å ā ct ģ Ĥ:_)(_:KP K A G a ξ bl Û ch ð Ĉ å ā ct ģ Ĥ d)(_:G Û=B (.dT<|bI ā))
inductive NN(K:Ζ)(A:Ad)(Ι G:Hp)(a:O)(d:ó):Prop
 |mk(ξ bl Û ch ð Ĉ å ā ct ģ Ĥ:_)(_:KP K A G a ξ bl Û ch ð Ĉ å ā ct ģ Ĥ d)(_:G Û=B (.dT<|bI ā))(_:Û≠ch/\Û≠ð/\Û≠Ĉ/\Ι Û=g)
theorem Ua.at_(h:Ua K A G a d):oU K A G a d:=by obtain⟨b,e,f,i,j,k,l,m,n,o,p,q,_⟩:=h;exact⟨b,e,f,i,j,k,l,m,n,o,p,q⟩
theorem KP.same{bl Û ch ð Ĉ:O}{å:J V}{ā ct:m8}(s:KP K A G a ξ bl Û ch ð Ĉ å ā ct ģ Ĥ d)(e:av G Κ):KP K A Κ a ξ bl Û ch ð Ĉ å ā ct ģ Ĥ d:=
 ⟨e _ _ s.ob,av.seq e s.bl,Paired.cj (λ_ _ h=>h.same e) s.bs,av.rd e s.fi,λb f=>e _ _<|s.tf b f,s.fk,e _ _ s.ch,λb f=>e _ _<|s.tc b f,s.ck,e _ _ s.na,s.nk,e _ _ s.se,s.sk⟩
theorem oU.same(h:oU K A G a d)(e:av G Κ):oU K A Κ a d:=by obtain⟨b,f,i,j,k,l,m,n,o,p,q,r⟩:=h;exact⟨b,f,i,j,k,l,m,n,o,p,q,r.same e⟩
structure ja(A:Ad)(Ι G H:Hp)(À ξ bl Û ch ð Ĉ:O)(ā ct:m8)(ģ Ĥ:J<|J bW×V)(d:ó)(Ĳ Ė:J Đ):Prop where
 ld:Lo G H À<|.aE A.doc ξ<|C1 bl Û ch ð Ĉ
 lf:Lo G H Û<|.dT<|bI ā
 lc:Lo G H ch<|.dT<|bI ct
 ln:Lo G H ð<|.dT ģ
 ls:Lo G H Ĉ<|.dT Ĥ
 tf:Ck G H Ι ā
 tc:Ck G H Ι ct
 dj:∀z∈ā,∀y∈ct,z.2.1≠y.2.1
 n1:Û≠ch
 n2:Û≠ð
 n3:Û≠Ĉ
 n4:ch≠ð
 n5:ch≠Ĉ
 n6:ð≠Ĉ
 zd:Ι À=g
 z1:Ι Û=g
 z2:Ι ch=g
 z3:Ι ð=g
 z4:Ι Ĉ=g
 fk:fW U d ā
 ck:fW Τ d ct
 nk:dg ģ Ĳ
 sk:dg Ĥ Ė
section
variable{À bl Û ch ð Ĉ:O}{ā ct:m8}{Ĳ Ė:J Đ}
theorem ja.ex(b:ja A Ι G H À ξ bl Û ch ð Ĉ ā ct ģ Ĥ d Ĳ Ė)(e:Ex G H Κ R):ja A Ι Κ R À ξ bl Û ch ð Ĉ ā ct ģ Ĥ d Ĳ Ė:=
 ⟨b.ld.ex e,b.lf.ex e,b.lc.ex e,b.ln.ex e,b.ls.ex e,b.tf.ex e,b.tc.ex e,b.dj,b.n1,b.n2,b.n3,b.n4,b.n5,b.n6,b.zd,b.z1,b.z2,b.z3,b.z4,b.fk,b.ck,b.nk,b.sk⟩
theorem ja.name(b:ja A Ι G H À ξ bl Û ch ð Ĉ ā ct ģ Ĥ d Ĳ Ė)(n:Đ)(v:V):ja A Ι G (T H ð<|.dT<|c7 ģ (kT n) v) À ξ bl Û ch ð Ĉ ā ct (c7 ģ (kT n) v) Ĥ d (Ċ Ĳ n) Ė:=
 ⟨b.ld.other<|bB b.ld.at_ b.ln.at_ (by intro a;cases a),b.lf.other b.n2,b.lc.other b.n4,b.ln.put,b.ls.other b.n6.symm,b.tf.other<|b.tf.ne b.ln.at_ aL,b.tc.other<|b.tc.ne b.ln.at_ aL,b.dj,b.n1,b.n2,b.n3,b.n4,b.n5,b.n6,b.zd,b.z1,b.z2,b.z3,b.z4,b.fk,b.ck,b.nk.put n v,b.sk⟩
def ja.setting(b:ja A Ι G H À ξ bl Û ch ð Ĉ ā ct ģ Ĥ d Ĳ Ė)(n:Đ)(v:V):ja A Ι G (T H Ĉ<|.dT<|c7 Ĥ (kT n) v) À ξ bl Û ch ð Ĉ ā ct ģ (c7 Ĥ (kT n) v) d Ĳ<|Ċ Ė n:=
 ⟨b.ld.other<|bB b.ld.at_ b.ls.at_ (by intro a;cases a),b.lf.other b.n3,b.lc.other b.n5,b.ln.other b.n6,b.ls.put,b.tf.other<|b.tf.ne b.ls.at_ aL,b.tc.other<|b.tc.ne b.ls.at_ aL,b.dj,b.n1,b.n2,b.n3,b.n4,b.n5,b.n6,b.zd,b.z1,b.z2,b.z3,b.z4,b.fk,b.ck,b.nk,b.sk.put n v⟩
end
theorem pD:∀(w l:J Đ),(L<|w.foldl Ċ l)<=L l+L w
 |[],l=>Õ _
 |a::w,l=>by
  have b:=pD w<|Ċ l a;have d:(L<|Ċ l a)<=L l+1:=by
   unfold Ċ;split
   .simp
   simp[Ω,Õ]
  grind
def FU(d:ó):(L<|ć d)<=L d:=jh _ _
def uz(f:ě)(d:ó):(L<|b7 f d)<=L d:=by have b:=pD ((ć d).filterMap λa=>if a.isFile=f then B a.name else g) [];have e:(L<|(ć d).filterMap λa=>if a.isFile=f then B a.name else g)<=(L<|ć d):=jh _ _;have h:=FU d;rw[ŭ]at b;show(L<|List.foldl Ċ [] _)<=_;lia
theorem fW.len{f:ě}{Ă:m8}(t:fW f d Ă):(L<|bI Ă)<=L d:=by have:=t.keys.len;have:=uz f d;simp_all
section
variable{À bl Û ch ð Ĉ:O}{ā ct:m8}{Ĳ Ė:J Đ}
def ja.Q3{a b:m8}{l:O}(Η:ja A Ι G H À ξ bl Û ch ð Ĉ (a++(n,l,ns)::b) ct ģ Ĥ d Ĳ Ė)(m:c.isFile=U)(o:c.name=n):
  ja A Ι G (T H l<|.Y<|(ns++[L d]).map nV) À ξ bl Û ch ð Ĉ (a++(n,l,ns++[L d])::b) ct ģ Ĥ (d++[.chunk c]) Ĳ Ė:=by
 have f:=(Η.tf.at_ (n,l,ns)<|ò _ Ö).1;refine⟨Η.ld.other<|bB Η.ld.at_ f.at_ (by intro e;cases e),?_,Η.lc.other<|bB Η.lc.at_ f.at_ (by intro e;cases e),Η.ln.other<|bB Η.ln.at_ f.at_ (by intro e;cases e),Η.ls.other<|bB Η.ls.at_ f.at_ (by intro e;cases e),Η.tf.add _,Η.tc.other λh i p=>Η.dj (n,l,ns) (ò _ Ö) h i p.symm,λe q h i=>?_,Η.n1,Η.n2,Η.n3,Η.n4,Η.n5,Η.n6,Η.zd,Η.z1,Η.z2,Η.z3,Η.z4,Η.fk.add m o,Η.ck.skip aL,Η.nk,Η.sk⟩
 .rw[GS a b n l _ ns];exact Η.lf.other<|bB Η.lf.at_ f.at_ (by intro e;cases e)
 .rcases î.mp q with j|j
  .exact Η.dj e (Ĭ _ j) h i
  .rcases ç.mp j with k|k
   .subst k;exact Η.dj (n,l,ns) (ò _ Ö) h i
   .exact Η.dj e (ò _<|Ç _ k) h i
def ja.Nj{a b:m8}{l:O}(Η:ja A Ι G H À ξ bl Û ch ð Ĉ ā (a++(n,l,ns)::b) ģ Ĥ d Ĳ Ė)(p:c.isFile=Τ)(q:c.name=n):
  ja A Ι G (T H l<|.Y<|(ns++[L d]).map nV) À ξ bl Û ch ð Ĉ ā (a++(n,l,ns++[L d])::b) ģ Ĥ (d++[.chunk c]) Ĳ Ė:=by
 have i:((n,l,ns):Đ×O×J M)∈a++(n,l,ns)::b:=ò _ Ö;have f:=(Η.tc.at_ (n,l,ns) i).1;refine⟨Η.ld.other<|bB Η.ld.at_ f.at_ (by intro e;cases e),Η.lf.other<|bB Η.lf.at_ f.at_ (by intro e;cases e),?_,Η.ln.other<|bB Η.ln.at_ f.at_ (by intro e;cases e),Η.ls.other<|bB Η.ls.at_ f.at_ (by intro e;cases e),Η.tf.other λh j r=>Η.dj h j (n,l,ns) i r,Η.tc.add _,λe k h j=>?_,Η.n1,Η.n2,Η.n3,Η.n4,Η.n5,Η.n6,Η.zd,Η.z1,Η.z2,Η.z3,Η.z4,Η.fk.skip aL,Η.ck.add p q,Η.nk,Η.sk⟩
 .rw[GS a b n l _ ns];exact Η.lc.other<|bB Η.lc.at_ f.at_ (by intro e;cases e)
 .rcases î.mp j with m|m
  .exact Η.dj e k h<|Ĭ _ m
  .rcases ç.mp m with o|o
   .subst o;exact Η.dj e k (n,l,ns) i
   .exact Η.dj e k h<|ò _<|Ç _ o
def gU{Ă:m8}(t:Ck G H Ι Ă){l:O}(b:H l=g):∀a∈Ă,a.2.1≠l:=λa d=>ao (t.at_ a d).1.at_ b
def ja.Pf{l:O}(Η:ja A Ι G H À ξ bl Û ch ð Ĉ ā ct ģ Ĥ d Ĳ Ė)(u:av G H)(v:∀b,H b=g->Ι b=g)(a:H l=g)(w:c.isFile=U)(x:c.name=n)(q:n∉b7 U d):
  ja A Ι G (T (T (T H l<|.Y []) Û<|.dT<|c7 (bI ā) (kT n)<|.ref l) l<|.Y<|[]++[nV<|L d]) À ξ bl Û ch ð Ĉ (ā++[(n,l,[L d])]) ct ģ Ĥ (d++[.chunk c]) Ĳ Ė:=by
 rw[(by rw[Hv _<|Η.fk.miss q];unfold bI;simp:c7 (bI ā) (kT n) (.ref l)=bI (ā++[(n,l,[d.length])]))];have e:∀{f:O} {j:HO},Lo G H f j->f≠Û->Lo G (T (T (T H l<|.Y []) Û<|.dT<|bI<|ā++[(n,l,[L d])]) l<|.Y<|[]++[nV<|L d]) f j:=λ{f j} k m=>((k.other<|ao k.at_ a).other m).other<|ao k.at_ a;have r:∀{o:m8},Ck G H Ι o->Ck G (T (T (T H l<|.Y []) Û<|.dT<|bI<|ā++[(n,l,[L d])]) l<|.Y<|[]++[nV<|L d]) Ι o:=λ{o} h=>((h.other<|gU h a).other<|h.ne Η.lf.at_ aL).other<|gU h a;refine⟨e Η.ld<|bB Η.ld.at_ Η.lf.at_ (by intro p;cases p),⟨Η.lf.out,au (ao Η.lf.at_ a)▸af⟩,e Η.lc Η.n1.symm,e Η.ln Η.n2.symm,e Η.ls Η.n3.symm,(r Η.tf).new ⟨u.free a,af⟩ (v l a)<|gU Η.tf a,r Η.tc,λp y s t=>?_,Η.n1,Η.n2,Η.n3,Η.n4,Η.n5,Η.n6,Η.zd,Η.z1,Η.z2,Η.z3,Η.z4,Η.fk.new w x q,Η.ck.skip aL,Η.nk,Η.sk⟩;rcases î.mp y with i|i
 .exact Η.dj p i s t
 .rw[đ]at i;subst i;exactλm=>gU Η.tc a s t m.symm
def ja.M8{l:O}(Η:ja A Ι G H À ξ bl Û ch ð Ĉ ā ct ģ Ĥ d Ĳ Ė)(s:av G H)(t:∀b,H b=g->Ι b=g)(a:H l=g)(u:c.isFile=Τ)(v:c.name=n)(p:n∉b7 Τ d):
  ja A Ι G (T (T (T H l<|.Y []) ch<|.dT<|c7 (bI ct) (kT n)<|.ref l) l<|.Y<|[]++[nV<|L d]) À ξ bl Û ch ð Ĉ ā (ct++[(n,l,[L d])]) ģ Ĥ (d++[.chunk c]) Ĳ Ė:=by
 rw[(by rw[Hv _<|Η.ck.miss p];unfold bI;simp:c7 (bI ct) (kT n) (.ref l)=bI (ct++[(n,l,[d.length])]))];have e:∀{f:O} {k:HO},Lo G H f k->f≠ch->Lo G (T (T (T H l<|.Y []) ch<|.dT<|bI<|ct++[(n,l,[L d])]) l<|.Y<|[]++[nV<|L d]) f k:=λ{f k} m w=>((m.other<|ao m.at_ a).other w).other<|ao m.at_ a;have q:∀{o:m8},Ck G H Ι o->Ck G (T (T (T H l<|.Y []) ch<|.dT<|bI<|ct++[(n,l,[L d])]) l<|.Y<|[]++[nV<|L d]) Ι o:=λ{o} h=>((h.other<|gU h a).other<|h.ne Η.lc.at_ aL).other<|gU h a;refine⟨e Η.ld<|bB Η.ld.at_ Η.lc.at_ (by intro i;cases i),e Η.lf Η.n1,⟨Η.lc.out,au (ao Η.lc.at_ a)▸af⟩,e Η.ln Η.n4.symm,e Η.ls Η.n5.symm,q Η.tf,(q Η.tc).new ⟨s.free a,af⟩ (t l a)<|gU Η.tc a,λi r x y=>?_,Η.n1,Η.n2,Η.n3,Η.n4,Η.n5,Η.n6,Η.zd,Η.z1,Η.z2,Η.z3,Η.z4,Η.fk.skip aL,Η.ck.new u v p,Η.nk,Η.sk⟩;rcases î.mp y with j|j
 .exact Η.dj i r x j
 .rw[đ]at j;subst j;exact gU Η.tf a i r
end
inductive WB(K:Ζ)(A:Ad)(vs:J V)(H:Hp)(Q:VK)(h:XK):Prop
 |mk (Ú Ι G À ξ bl Û ch ð Ĉ ā ct ģ Ĥ:_) (d:ó) (p:_) (c:iz) (_:vs=[.ref À,.int (L d:M),.ref p]) (_:Ex Ú Ι G H) (_:ja A Ι G H À ξ bl Û ch ð Ĉ ā ct ģ Ĥ d (Ĺ d)<|Ŵ d) (_:qk K A G p c) (_:vm c) (_:L c.lines<=400) (_:L d<=200) (_:(L<|(d++[fc c]).flatMap Ś)<=100000) (_:(L<|(ć<|d++[fc c]).flatMap λc=>c.lines.flatMap ĸ)<=100000) (_:∀R a b e f,Ex Ú Ι G R->ja A Ι G R À ξ bl Û ch ð Ĉ a b e f (d++[.chunk c]) (Ĺ<|d++[.chunk c]) (Ŵ<|d++[.chunk c])->Q .b_ R)
def J2:aB ["self","number","part","line","name"] ["self","number","part"]<|ay<|Ik 1:=by decide+kernel
def FH(ay:Wk K η A):pR P w K η Ξ c9 2 A.doc "note_part" ["self","number","part"]<|WB K A:=by
 have m:=ay.kl;refine ay.CU 6 4 J2 λa2 cb ak cc al bJ=>?_;refine bx λS i=>?_;obtain⟨az,E,r,h,aA,aB,am,an,X,ap,a3,a4,aC,a5,b,aE,a,rfl,n,k,bK,bL,cd,ce,bM,bN,a6⟩:=bJ;obtain⟨cf,bo,cg,l,a',ba,ch,bO,bp,br⟩:=id bK;apply i;have bb:=n.sub _ _ a';refine⟨_,ah (aJ (bQ<|W (pv 2) D) (ai<|aT<|ek (G7 (fP al) (W (pv 0) D) (W (pv 2) D) (aI aj) ⟨D,D,D,D⟩)<|pv 1)<|ah (aT<|ek (G7 (fP al) (W (pv 0) D) (W (pv 2) D) (aI aj) ⟨D,D,D,D⟩)<|pv 1)<|ai<|p5 (fP al) (W (pv 0) D) (W (pv 2) D) lg D)<|ai<|cS ğ D (bu<|W (pv 2) D) (bC 3 J2)<|ai<|aJ (bQ<|f_ ay.md.bH (pv 3) m.code.mg) (ai<|cS ğ D (bu<|aR (ue ay) al D aG<|aa (W (pv 3) D) aj) (bC 4 J2)<|ai<|p5 (fP al) (W (pv 0) D) (pv 4) lg D)<|ai<|aJ (aF ee (W (pv 3) D) (aW ay.md.QV)<|aK _) (ai<|p5 (fP al) (W (pv 0) D) (W (pv 3) D) lg D) aD,?_⟩
 have ar:∀s Y z aH,Ex az E r s->ja A E r s h aA aB am an X ap Y z aH a5 (b++[.chunk a]) ((if a.isFile then[] else[a.name]).foldl Ċ<|Ĺ b) (Ŵ b)->
   W0 (Mn K<|i9 K (aV 2) "lines") (c8 3) (Lm (tB<|Ek (Eb K)<|bg (aV 3)<|bg (tC<|.ref A.code) cB) (W0 (Mn K<|xZ (yx K A) [] E0<|bg (i9 K (aV 3) "pieces") cB) (c8 4)<|Hs (i9 K (aV 0) "names") (aV 4)<|tC<|.bl U)<|Lm (HX<|OQ rEq (i9 K (aV 3) "kind")<|tC<|.int 1) (Hs (i9 K (aV 0) "settings") (i9 K (aV 3) "setting")<|tC<|.bl U) HM) {nx:=λ_ o=>ak .b_ o,rt:=ak} [B<|.ref h,B<|.int (L b:M),B<|.ref aE,g,g] s:=by
  intro s Y z aH t e;have bP:∀Z,(((a.lines.take Z).flatMap ķ).foldl Ċ<|(if a.isFile then[] else[a.name]).foldl Ċ<|Ĺ b)=((b.flatMap Ś++((if a.isFile then[] else[a.name])++(a.lines.take Z).flatMap ķ)).foldl Ċ []):=λZ=>by rw[ļ,ļ];rfl
  have bR:∀Z,(((a.lines.take Z).flatMap ĸ).foldl Ċ<|Ŵ b)=(((ć b).flatMap λa=>a.lines.flatMap ĸ)++(a.lines.take Z).flatMap ĸ).foldl Ċ []:=λZ=>by rw[ļ];rfl
  exists D,t.sub _ _ a',m.part.fo,D,l,D,⟨_,av.seq t.sub bp⟩;refine c_ (N:=bO.map V.ref) (λf H o=>∃ab I u aw,Ex az E r o/\ja A E r o h aA aB am an X ap Y z ab I (b++[.chunk a]) (((a.lines.take f).flatMap ķ).foldl Ċ<|(if a.isFile then[] else[a.name]).foldl Ċ<|Ĺ b) (((a.lines.take f).flatMap ĸ).foldl Ċ<|Ŵ b)/\ H=[B<|.ref h,B<|.int (L b:M),B<|.ref aE,u,aw]) ⟨aH,a5,g,g,t,e,D⟩ ?_ ?_ ?_
  .rintro f H o _ ⟨_,_,_,_,p,_⟩;exact av.seq p.sub bp
  .refineλf bT H bs aM bc=>bx λS i=>?_;obtain⟨ab,I,u,aw,p,j,rfl⟩:=bc;apply i;rw[Ë]at aM;refine bx λS i=>?_;obtain⟨bt,bU,rfl⟩:=Ü.mp aM;obtain⟨q,bd,aP⟩:=Paired.at_ br bU;apply i;have a7:a.lines.take (f+1)=a.lines.take f++[q]:=by rw[Ĝ,bd];rfl
   have ci:=(Ð.mp bd).1;have bv:=bL.lines q<|υ bd;refine bx λS i=>?_;obtain⟨bV,bW,bX⟩:=m.o_<|aP.same p.sub;apply i;exists _,_,bV,_,D,bW,bX;cases aQ:lS q with
   |true=>
    obtain⟨v,rfl⟩:∃v,q=.code v:=by cases q with|code d=>lia|_=>cases aQ
    obtain⟨dl,bY,a8,be⟩:=id aP;refine bS ⟨D,p.sub _ _ a8,m.code.fo,D,r,bY,v,D,p.sub,be,by have:=bv.1;lia,λbw cj bf ck s3 bz bA=>?_⟩;exists bw,D,⟨_,aN.of bz⟩;rw[a7,ċ,ļ,ċ,ļ];refine c_ (N:=bf.map V.ref) (λad H o=>∃ax bi,Ex az E r o/\o bw=B (.Y<|bf.map V.ref)/\ja A E r o h aA aB am an X ap Y z ax I (b++[.chunk a]) (((ŷ v).take ad).foldl Ċ<|((a.lines.take f).flatMap ķ).foldl Ċ<|(if a.isFile then[] else[a.name]).foldl Ċ<|Ĺ b) (((a.lines.take f).flatMap ĸ).foldl Ċ<|Ŵ b)/\ H=[B<|.ref h,B<|.int (L b:M),B<|.ref aE,B<|.ref bt,bi]) ⟨ab,aw,p.more s3,bz,j.ex<|Ex.heap p.sub s3,D⟩ ?_ ?_ ?_
    .rintro ad H o _ ⟨_,_,_,bD,_⟩;exact aN.of bD
    .refineλad bT H bZ aM bc=>bx λS i=>?_;obtain⟨ax,bi,a9,bE,F,rfl⟩:=bc;apply i;rw[Ë]at aM;refine bx λS i=>?_;obtain⟨bD,b0,rfl⟩:=Ü.mp aM;obtain⟨bj,bF,b6⟩:=Paired.at_ bA b0;apply i;have cl:=(Ð.mp bF).1;have aS:L ax<sizeLine:=by
      rw[F.nk.len];have x:=pD ((ŷ v).take ad)<|((a.lines.take f).flatMap ķ).foldl Ċ<|(if a.isFile then[] else[a.name]).foldl Ċ<|Ĺ b;rw[bP f]at x⊢;have a_:=pD (b.flatMap Ś++((if a.isFile then[] else[a.name])++(a.lines.take f).flatMap ķ)) [];have b8:(L<|b.flatMap Ś++((if a.isFile then[] else[a.name])++(a.lines.take f).flatMap ķ))<=100000:=by
       refine Ć ?_ bM;rw[ċ,Ω (as:=b.flatMap Ś),Ω (as:=b.flatMap Ś)];refine nt ?_ _;show(L<|(if a.isFile then[] else[a.name])++(a.lines.take f).flatMap ķ)<=(L<|XX Ś [.chunk a]);rw[ĕ,Ů,ö];show _<=(L<|(if a.isFile then[] else[a.name])++a.lines.flatMap ķ);rw[Ω,Ω];refine nt ?_ _
       conv=>rhs;rw[<-Ĩ f a.lines,ċ,Ω]
       simp
      have cm:(L<|(ŷ v).take ad)<=200:=by rw[ŀ];have cn:(L<|ŷ v)<=L v:=jh _ _;have:=bv.1;lia
      rw[ŭ]at a_;rw[Î];lia
     exists D,F.ld.at_,m.doc.fo,D,X,_,D,B_.t F.ln.at_ (a9.sub _ _ b6) aS;refine⟨c7 ax (kT bj)<|.bl U,_,a9.write F.ln F.z3,by rwa [au<|bB bE F.ln.at_ bh],?_,D⟩;rw[(by rw[Ĝ,bF];rfl:(ŷ v).take (ad+1)=(ŷ v).take ad++[bj]),ļ];exact F.name bj<|.bl U
    .rintro H bZ ⟨ax,bi,a9,bE,F,rfl⟩;rw[(by rw[Ε];exact bA.length:(bf.map V.ref).length=(ŷ v).length),č]at F;refine⟨ax,I,_,_,a9,?_,D⟩;rw[show XX ķ [.code v]=ŷ v from by rw[ĕ,Ů,ö];rfl];exact F
   |false=>
    refine dJ ?_;have b9:((a.lines.take<|f+1).flatMap ķ)=(a.lines.take f).flatMap ķ:=by rw[a7,ċ,ĕ,Ů,(by cases q with|code d=>cases aQ|_=>rfl:ķ q=[])];simp
    rw[b9];refine bx λS i=>?_;obtain⟨aU,st,J⟩:∃aU st,Fb q=B (aU,st):=by cases q with|code d=>cases aQ|when d=>exact⟨_,_,D⟩|otherwise=>exact⟨_,_,D⟩|done=>exact⟨_,_,D⟩
    obtain⟨co,d,a8,be⟩:∃h d,r bt=B (.aE A.cond h [("kind",.int aU),("setting",.ref d)])/\Nm r d st:=by
     cases q with
     |code d=>cases aQ
     |when d=>obtain⟨h,d,a6,bG,G,aX,aY⟩:=aP;rw[J]at G;cases G;exact⟨h,d,aX,aY⟩
     |otherwise=>obtain⟨h,d,a6,bG,G,aX,aY⟩:=aP;rw[J]at G;cases G;exact⟨h,d,aX,aY⟩
     |done=>obtain⟨h,d,a6,bG,G,aX,aY⟩:=aP;rw[J]at G;cases G;exact⟨h,d,aX,aY⟩
    apply i;exists D,p.sub _ _ a8,m.cond.fo,D,D;rw[cz];have aS:L I<sizeLine:=by
     rw[j.sk.len,bR f];have a_:=pD (((ć b).flatMap λa=>a.lines.flatMap ĸ)++(a.lines.take f).flatMap ĸ) [];have b8:(L<|((ć b).flatMap λa=>a.lines.flatMap ĸ)++(a.lines.take f).flatMap ĸ)<=100000:=by
      refine Ć ?_ bN;rw[aO,ċ,Ω,Ω];refine nt ?_ _;rw[bq,ĕ,Ů,ö]
      conv=>rhs;rw[<-Ĩ f a.lines,ċ,Ω]
      simp
     rw[ŭ]at a_;rw[Î];lia
    refine gC (λx=>?_) λx=>?_
    .have x:aU=1:=by simpa using x
     obtain⟨aZ,rfl⟩:∃aZ,q=.when aZ:=by
      cases q with
      |code d=>cases aQ
      |when d=>exact⟨d,D⟩
      |otherwise=>cases J;cases x
      |done=>cases J;cases x
     obtain rfl:aZ=st:=by injection J with J;exact(Prod.mk.inj J).2
     refine⟨D,j.ld.at_,m.doc.fo,D,D,p.sub _ _ a8,m.cond.fo,D,ap,_,D,B_.t j.ls.at_ (p.sub _ _ be) aS,?_⟩;refine⟨ab,c7 I (kT aZ)<|.bl U,_,_,p.write j.ls j.z4,?_,D⟩;rw[a7,ċ,ļ];exact j.setting aZ<|.bl U
    .have x:aU≠1:=λd=>aL;refine⟨ab,I,_,_,p,?_,D⟩;have b_:ĸ q=[]:=by
      cases q with
      |when d=>cases J;exact absurd D x
      |_=>rfl
     rw[a7,ċ,ĕ,Ů,b_,ö,ö];exact j
  .rintro H bs ⟨ab,I,u,aw,p,j,rfl⟩;rw[Ε,br.length,č]at j;refine a6 bs Y z ab I p ?_;rw[vh,qz];have G:(Ś<|.chunk a).foldl Ċ (Ĺ b)=(a.lines.flatMap ķ).foldl Ċ ((if a.isFile then[] else[a.name]).foldl Ċ<|Ĺ b):=by show(((if a.isFile then[] else[a.name])++a.lines.flatMap ķ).foldl Ċ<|Ĺ b)=_;simp
   rw[G];exact j
 exists D,bb,m.part.fo,D;cases ae:a.isFile with
 |true=>
  refine bS ?_;refine⟨D,k.ld.at_,m.doc.fo,D,am,D,.inr ⟨_,.inl k.lf.at_⟩,D,bb,m.part.fo,D,Ò _,λy C=>?_⟩;have s1:av a2<|T a2 y<|.Y []:=aq C;have t:=n.more s1;have e:=k.ex<|Ex.heap n.sub s1;refine⟨_,_,bo,e.lf.at_,D,s1 _ _<|n.sub _ _ ba,by have:=k.fk.len;rw[Î];lia,λaw a0=>?_,λa0=>?_⟩
  .refine bx λS i=>?_;obtain⟨bk,a1,O,Q,rfl,rfl⟩:=BQ a0;apply i;have R:=e.tf.at_ (a.name,O,Q)<|ò _ Ö;have b':L Q<=200:=by have:=fY b U a.name;rw[<-(k.fk.parts (a.name,O,Q)<|ò _ Ö)]at this;lia
   exists .inl ⟨D,_,aN.of R.1.at_⟩,O,_,_,D,D,R.1.at_,by rw[Ε,Î];lia
   have j:=e.Q3 ae D;rw[Ý]at j;exact ar _ (bk++(a.name,O,Q++[L b])::a1) a4 aC (t.write R.1 R.2) (by rw[ae];exact j)
  .have bl:a.name∉b7 U b:=λd=>by obtain⟨ca,x,_⟩:=k.fk.find d;simp_all
   have ag:=ao k.lf.at_ C;exists .inl ⟨D,[],aN.of<|au ag.symm▸af⟩,y,[],_,D,D,au ag.symm▸af,by simp[sizeLine,Î]
   refine ar _ (a3++[(a.name,y,[L b])]) a4 aC ?_ (by rw[ae];exact k.Pf (l:=y) n.sub (λa1 bm=>n.same.free bm) C ae D bl);exact(t.write (u:=.dT<|c7 (bI a3) (kT a.name)<|.ref y) e.lf e.z1).write (x:=y) (o:=.Y []) ⟨n.sub.free C,au ag.symm▸af⟩<|n.same.free C
 |false=>
  refine dJ ?_;have bH:∀bn:TS,(∀s Y z aH,Ex az E r s->ja A E r s h aA aB am an X ap Y z aH a5 (b++[.chunk a]) ((if a.isFile then[] else[a.name]).foldl Ċ<|Ĺ b) (Ŵ b)->bn {nx:=λ_ o=>ak .b_ o,rt:=ak} [B<|.ref h,B<|.int (L b:M),B<|.ref aE,g,g] s)->∀s z,Ex az E r s->ja A E r s h aA aB am an X ap a3 z aC a5 (b++[.chunk a]) (Ĺ b) (Ŵ b)->
    qM (Hs (i9 K (aV 0) "names") (i9 K (aV 2) "name")<|tC<|.bl U) bn {nx:=λ_ o=>ak .b_ o,rt:=ak} [B<|.ref h,B<|.int (L b:M),B<|.ref aE,g,g] s:=by
   intro bn ar s z t e;have aS:L aC<sizeLine:=by rw[e.nk.len];have x:=pD (b.flatMap Ś) [];have a_:(L<|b.flatMap Ś)<=100000:=xV;rw[ŭ]at x;show(L<|List.foldl Ċ [] _)<_;rw[Î];lia
   exists D,e.ld.at_,m.doc.fo,D,D,t.sub _ _ a',m.part.fo,D,X,_,D,B_.t e.ln.at_ (t.sub _ _ ba) aS;exact ar _ a3 z (c7 aC (kT a.name)<|.bl U) (t.write e.ln e.z3)<|ae▸e.name a.name (.bl U)
  refine⟨D,k.ld.at_,m.doc.fo,D,an,D,.inr ⟨_,.inl k.lc.at_⟩,D,bb,m.part.fo,D,Ò _,λy C=>?_⟩;have s1:av a2<|T a2 y<|.Y []:=aq C;have t:=n.more s1;have e:=k.ex<|Ex.heap n.sub s1;refine⟨_,_,bo,e.lc.at_,D,s1 _ _<|n.sub _ _ ba,by have:=k.ck.len;rw[Î];lia,λaw a0=>?_,λa0=>?_⟩
  .refine bx λS i=>?_;obtain⟨bk,a1,O,Q,rfl,rfl⟩:=BQ a0;apply i;have R:=e.tc.at_ (a.name,O,Q)<|ò _ Ö;have b':L Q<=200:=by have:=fY b Τ a.name;rw[<-(k.ck.parts (a.name,O,Q)<|ò _ Ö)]at this;lia
   exists .inl ⟨D,_,aN.of R.1.at_⟩,O,_,_,D,D,R.1.at_,by rw[Ε,Î];lia
   have j:=e.Nj ae D;rw[Ý]at j;exact bH _ ar _ (bk++(a.name,O,Q++[L b])::a1) (t.write R.1 R.2) j
  .have bl:a.name∉b7 Τ b:=λd=>by obtain⟨ca,x,_⟩:=k.ck.find d;simp_all
   have ag:=ao k.lc.at_ C;exists .inl ⟨D,[],aN.of<|au ag.symm▸af⟩,y,[],_,D,D,au ag.symm▸af,by simp[sizeLine,Î]
   refine bH _ ar _ (a4++[(a.name,y,[L b])]) ?_ (k.M8 n.sub (λa1 bm=>n.same.free bm) C ae D bl);exact(t.write (u:=.dT<|c7 (bI a4) (kT a.name)<|.ref y) e.lc e.z2).write (x:=y) (o:=.Y []) ⟨n.sub.free C,au ag.symm▸af⟩<|n.same.free C
def Na(b:av G H):av G<|BO G H χ:=λd f e=>by
 by_cases a:d∈χ
 .rw[iT a];exact b _ _ e
 .rwa [vC a]
def ja.stay{Ú:Hp}{À bl Û ch ð Ĉ:O}{ā ct:m8}{å:J V}(Η:ja A Ι G H À ξ bl Û ch ð Ĉ ā ct ģ Ĥ d (Ĺ d)<|Ŵ d)(ex:Ex Ú Ι G H)
  (a:aN K G bl å) (k:ď (mK K A G) å d):∃Κ,Ex Ú Ι Κ H/\av G Κ/\NN K A Ι Κ À d:=by
 let e:J O:=À::Û::ch::ð::Ĉ::(ā++ct).map λb=>b.2.1
 have h:∀b∈ā++ct,b.2.1∈e:=λb f=>Ç _<|Ç _<|Ç _<|Ç _<|Ç _<|ō f;have l:∀i∈e,Ι i=g:=λi a=>by
  rcases ç.mp a with q|a
  .rw[q];exact Η.zd
  rcases ç.mp a with q|a
  .rw[q];exact Η.z1
  rcases ç.mp a with q|a
  .rw[q];exact Η.z2
  rcases ç.mp a with q|a
  .rw[q];exact Η.z3
  rcases ç.mp a with q|a
  .rw[q];exact Η.z4
  obtain⟨b,f,rfl⟩:=ń.mp a;rcases î.mp f with q|q
  .exact(Η.tf.at_ b q).2
  .exact(Η.tc.at_ b q).2
 have sg:av G<|BO G H e:=Na ex.sub;have j:BO G H e Û=B (.dT<|bI ā):=by rw[iT<|by simp[e]];exact Η.lf.at_
 refine⟨BO G H e,ex.holds l,sg,ξ,bl,Û,ch,ð,Ĉ,å,ā,ct,ģ,Ĥ,⟨?_,av.seq sg a,Paired.cj (λ_ _ q=>q.same sg) k,.inl j,λb f=>?_,Η.fk,?_,λb f=>?_,Η.ck,?_,Η.nk,?_,Η.sk⟩,j,Η.n1,Η.n2,Η.n3,Η.z1⟩
 .rw[iT<|by simp[e]];exact Η.ld.at_
 .rw[iT<|h b<|Ĭ _ f];exact(Η.tf.at_ b f).1.at_
 .rw[iT<|by simp[e]];exact Η.lc.at_
 .rw[iT<|h b<|ò _ f];exact(Η.tc.at_ b f).1.at_
 .rw[iT<|by simp[e]];exact Η.ln.at_
 .rw[iT<|by simp[e]];exact Η.ls.at_
inductive YX(K:Ζ)(A:Ad)(vs:J V)(H:Hp)(Q:VK)(a:XK):Prop
 |mk(Ú Ι G À ξ bl å d:_)(_:vs=[.ref À,.ref bl])(_:Ex Ú Ι G H)(_:Ι À=g)(_:Lo G H À<|.aE A.doc ξ [])(_:aN K G bl å)(_:ď (mK K A G) å d)(_:eN d)(_:∀Κ R,Ex Ú Ι Κ R->av G Κ->NN K A Ι Κ À d->Q .b_ R)
def nc(h:c∈ć d):L c.lines<=į d:=by
 obtain⟨a,b⟩:=bX.mp h;obtain⟨e,f⟩:=Ð.mp b;have i:d=d.take a++([.chunk c]++d.drop (a+1)):=by rw[List.singleton_append];have:=ĩ e;rw[f]at this;rw[<-this,Ĩ]
 rw[i,bT,bT,b9];lia
theorem wh:∀d:ó,(L<|(ć d).flatMap λc=>c.lines.flatMap ĸ)<=į d
 |[]=>Ò _
 |b::d=>by
  have f:=wh d;rw[(by rw[<-aO];rfl:ć (b::d)=ć [b]++ć d),(by rw[<-bT];rfl:į (b::d)=į [b]+į d),ċ,Ω];have:(L<|(ć [b]).flatMap λc=>c.lines.flatMap ĸ)<=į [b]:=by
   cases b with
   |prose h=>exact Ò _
   |chunk c=>
    rw[bq,b9,ĕ,Ů,ö];have:∀a:J oO,(L<|a.flatMap ĸ)<=L a:=by
     intro a
     induction a with
     |nil=>exact Õ _
     |cons e a f=>
      rw[ĕ,Ω,Ñ];have:(L<|ĸ e)<=1:=by cases e with|when _=>exact Õ _|_=>exact Ò _
      lia
    exact this _
  lia
def Lq:aB ["self","blocks","number","part"] ["self","blocks"]<|ay<|Ik 0:=by decide+kernel
def ye(H:Wk K η A):Gn P w K η Ξ 3 "Document" A.doc ["self","blocks"]<|YX K A:=by
 have t:=H.kl;refine H.Ms 6 2 Lq (λa3 aK a4 a5 ab=>by obtain⟨_,_,_,_,_,_,_,_,ad,_⟩:=ab;rw[ad];rfl) λaK a3 a4 a5 a6 ab=>?_;obtain⟨aM,I,q,k,b,a,a7,f,rfl,a8,v,ldc,ae,af,s,a9⟩:=ab;refine⟨_,ah (aX (pv 0) (pv 1) D)<|ah (aX (pv 0) gY D)<|ah (aX (pv 0) gY D)<|ah (aX (pv 0) gY D)<|ah (aX (pv 0) gY D)<|ai<|cS ğ D (sQ D H.md.jn<|aa (pv 1) aj) (xy D<|gk (bC 2 Lq)<|gk (bC 3 Lq) sW)<|ai<|aJ (fy<|zR<|pv 3) (ai<|aT<|bY (FH H) t.doc.cl a6 aG (pv 0)<|aa (pv 2)<|aa (pv 3) aj) aD,?_⟩
 refine⟨D,ldc.at_,t.doc.fo,bh,λd x=>?_⟩;have J:=a8.write (u:=.aE A.doc b<|bf "blocks" (.ref a) []) ldc v;have ag:Lo q _ k _:=ldc.put (u:=.aE A.doc b<|bf "blocks" (.ref a) []);generalize T aK k (.aE A.doc b<|bf "blocks" (.ref a) [])=y at x J ag;have O:=ao ag.at_ x;have ak:=ag.same<|aq (o:=.dT []) x;refine⟨D,ak.at_,t.doc.fo,(by show 1<1000;decide),λe r=>?_⟩;have Q:=(J.more<|aq (o:=.dT []) x).write (u:=.aE A.doc b<|bf "files" (.ref d)<|bf "blocks" (.ref a) []) ak v;have al:Lo q _ k _:=ak.put (u:=.aE A.doc b<|bf "files" (.ref d)<|bf "blocks" (.ref a) []);have f3:=(Lo.new (o:=.dT []) J.sub x).other (u:=.aE A.doc b<|bf "files" (.ref d)<|bf "blocks" (.ref a) []) O.symm;generalize T (T y d<|.dT []) k (.aE A.doc b<|bf "files" (.ref d)<|bf "blocks" (.ref a) [])=aN at r Q al f3;have am:=ao al.at_ r;have an:=al.same<|aq (o:=.dT []) r;refine⟨D,an.at_,t.doc.fo,(by show 2<1000;decide),λh p=>?_⟩;have R:=(Q.more<|aq (o:=.dT []) r).write (u:=.aE A.doc b<|bf "chunks" (.ref e)<|bf "files" (.ref d)<|bf "blocks" (.ref a) []) an v;have ap:Lo q _ k _:=an.put (u:=.aE A.doc b<|bf "chunks" (.ref e)<|bf "files" (.ref d)<|bf "blocks" (.ref a) []);have ar:=(f3.same<|aq (o:=.dT []) r).other (u:=.aE A.doc b<|bf "chunks" (.ref e)<|bf "files" (.ref d)<|bf "blocks" (.ref a) []) O.symm;have au:=(Lo.new (o:=.dT []) Q.sub r).other (u:=.aE A.doc b<|bf "chunks" (.ref e)<|bf "files" (.ref d)<|bf "blocks" (.ref a) []) am.symm;generalize T (T aN e<|.dT []) k (.aE A.doc b<|bf "chunks" (.ref e)<|bf "files" (.ref d)<|bf "blocks" (.ref a) [])=a_ at p R ap ar au;have aP:=ao ap.at_ p;have aw:=ap.same<|aq (o:=.dT []) p;refine⟨D,aw.at_,t.doc.fo,(by show 3<1000;decide),λm n=>?_⟩;have S:=(R.more<|aq (o:=.dT []) p).write (u:=.aE A.doc b<|bf "names" (.ref h)<|bf "chunks" (.ref e)<|bf "files" (.ref d)<|bf "blocks" (.ref a) []) aw v;have ax:Lo q _ k _:=aw.put (u:=.aE A.doc b<|bf "names" (.ref h)<|bf "chunks" (.ref e)<|bf "files" (.ref d)<|bf "blocks" (.ref a) []);have ay:=(ar.same<|aq (o:=.dT []) p).other (u:=.aE A.doc b<|bf "names" (.ref h)<|bf "chunks" (.ref e)<|bf "files" (.ref d)<|bf "blocks" (.ref a) []) O.symm;have az:=(au.same<|aq (o:=.dT []) p).other (u:=.aE A.doc b<|bf "names" (.ref h)<|bf "chunks" (.ref e)<|bf "files" (.ref d)<|bf "blocks" (.ref a) []) am.symm;have aA:=(Lo.new (o:=.dT []) R.sub p).other (u:=.aE A.doc b<|bf "names" (.ref h)<|bf "chunks" (.ref e)<|bf "files" (.ref d)<|bf "blocks" (.ref a) []) aP.symm;generalize T (T a_ h<|.dT []) k (.aE A.doc b<|bf "names" (.ref h)<|bf "chunks" (.ref e)<|bf "files" (.ref d)<|bf "blocks" (.ref a) [])=a' at n S ax ay az aA;have aB:=ax.same<|aq (o:=.dT []) n;exists D,aB.at_,t.doc.fo,(by show 4<1000;decide);have ba:bf "settings" (.ref m) (bf "names" (.ref h)<|bf "chunks" (.ref e)<|bf "files" (.ref d)<|bf "blocks" (.ref a) [])=C1 a d e h m:=by
  repeat(first|rw[m_]|rw[cM<|by decide+kernel])
  rfl
 rw[ba];have aC:=(S.more<|aq (o:=.dT []) n).write (u:=.aE A.doc b<|C1 a d e h m) aB v;have aQ:Lo q _ k _:=aB.put (u:=.aE A.doc b<|C1 a d e h m);have aR:=(ay.same<|aq (o:=.dT []) n).other (u:=.aE A.doc b<|C1 a d e h m) O.symm;have aS:=(az.same<|aq (o:=.dT []) n).other (u:=.aE A.doc b<|C1 a d e h m) am.symm;have aU:=(aA.same<|aq (o:=.dT []) n).other (u:=.aE A.doc b<|C1 a d e h m) aP.symm;have aV:=(Lo.new (o:=.dT []) S.sub n).other (u:=.aE A.doc b<|C1 a d e h m) (ao ax.at_ n).symm;generalize T (T a' m<|.dT []) k (.aE A.doc b<|C1 a d e h m)=bb at aC aQ aR aS aU aV;have aW:Ck q bb I []:=⟨λbc aE=>(nomatch aE),fU⟩;exists a,_,D,av.seq aC.sub ae;refine rH (K:=K) (N:=a7) (i:=2) (j:=3) (λi V aF=>∃z C E F u aH,Ex aM I q aF/\ja A I q aF k b a d e h m z C E F (f.take i) (Ĺ<|f.take i) (Ŵ<|f.take i)/\V=[B<|.ref k,B<|.ref a,u,aH]) ⟨[],[],[],[],g,g,aC,⟨aQ,aR,aS,aU,aV,aW,aW,λbc aE=>(nomatch aE),ao f3.at_ r,ao ar.at_ p,ao ay.at_ n,ao au.at_ p,ao az.at_ n,ao aA.at_ n,v,J.same.free x,Q.same.free r,R.same.free p,S.same.free n,.start,.start,dg.nil,dg.nil⟩,D⟩ ?_ ?_ ?_
 .rintro i V aF _ ⟨_,_,_,_,_,_,ad,_⟩;exact av.seq ad.sub ae
 .refineλi bd V y be bg bi=>bx λbD bj=>?_;obtain⟨z,C,E,F,u,aH,W,X,rfl⟩:=bi;refine bj λbk=>?_;obtain⟨aY,aI,aZ⟩:=Paired.at_ af bg;have bE:=(Ð.mp aI).1;have a0:f.take (i+1)=f.take i++[aY]:=by rw[Ĝ,aI];rfl
  have s2:av y<|T y be<|.bO [.int (i:M),bd]:=aq bk;have Y:=W.more s2;have G:=X.ex<|Ex.heap W.sub s2;have bl:(L<|f.take i)=i:=xV;rw[a0];cases aY with
  |prose a1=>
   cases aZ;refine(dJ ⟨z,C,E,F,_,_,Y,?_,D⟩);have bm:Ĺ (f.take i++[XY a1])=Ĺ (f.take i):=vh _ _;have bn:Ŵ (f.take i++[XY a1])=Ŵ (f.take i):=qz _ _;rw[bm,bn];exact{G with fk:=G.fk.prose,ck:=G.ck.prose}
  |chunk l=>
   obtain⟨bo,rfl,bp⟩:=aZ;have Z:=bX.mpr ⟨i,aI⟩;have bq:f=(f.take i++[fc l])++f.drop (i+1):=by rw[<-a0,Ĩ]
   have b1:(L<|(f.take i++[fc l]).flatMap Ś)<=100000:=by
    have br:=wX f λl Z=>(s.chunk l Z).1;have bF:=mZ<|f.flatMap Ś;have bG:=s.chunks;have a2:=s.IP
    grind
   have b2:(L<|(ć<|f.take i++[fc l]).flatMap λl=>l.lines.flatMap ĸ)<=100000:=by
    have br:=wh f;have a2:=s.IP;have bH:(L<|(ć<|f.take i++[fc l]).flatMap λl=>l.lines.flatMap ĸ)<=(L<|(ć f).flatMap λl=>l.lines.flatMap ĸ):=by
     conv=>rhs;rw[bq,aO,ċ,Ω]
     lia
    lia
   have bI:=nc Z;have a2:=s.IP;have bJ:=s.blocks;refine(bS ⟨k,b,_,D,G.ld.at_,D,aM,I,q,k,b,a,d,e,h,m,z,C,E,F,f.take i,bo,l,?_,Y,G,bp,(s.chunk l Z).1,aL,aL,b1,b2,λaN bs bt bu bv bw bz=>⟨bs,bt,bu,bv,_,_,bw,bz,D⟩⟩);rw[bl];rfl
 .rintro V y ⟨z,C,E,F,u,aH,W,X,rfl⟩;rw[af.length,č]at X;obtain⟨bA,Y,sg,bB⟩:=X.stay W ae af;exact a9 bA y Y sg bB
noncomputable def jM (d:ó) (b l:Z):É<|J Ť:=if 0<=b/\0<=l then(match d[b.toNat]? with
 |some (.chunk c)=>(match c.lines[l.toNat]? with
  |some (.code θ)=>B θ
  |_=>g)
 |_=>g) else g
theorem jH{b l:Z}(h:¬(0<=b/\0<=l)):jM d b l=g:=Ó h
theorem nY{d:ó}{b l:M}:jM d (b:Z) (l:Z)=match d[b]? with
 |some (.chunk a)=>(match a.lines[l]? with
  |some (.code e)=>B e
  |_=>g)
 |_=>g:=by
 rfl
inductive K_(K:Ζ)(A:Ad)(vs:J V)(H:Hp)(Q:VK)(e:XK):Prop
 |mk(À b l d:_)(_:vs=[.ref À,.int b,.int l])(_:oU K A H À d)(_:(jM d b l=g->Q .b_ H))(_:∀θ a,jM d b l=B θ->mW K A H a (.code θ)->Q (.ref a) H)
def QN:aB ["self","block","line","lines"] ["self","block","line"]<|ay<|Ik 2:=by decide+kernel
def qy(k:Wk K η A):pR P w K η Ξ c9 1 A.doc "code_line_at" ["self","block","line"]<|K_ K A:=by
 have i:=k.kl;refine k.CU 6 3 QN λag aj ak al am O=>?_;obtain⟨an,y,b,Q,rfl,⟨ao,s,ap,aq,ar,au,q,av,aw,ax,ay,d⟩,e,R⟩:=O;have aB:=d.bs.length;refine⟨_,ah (aJ (PW.pt<|lz (cG<|lB jG iP az (pv 1)<|aQ k.md.a_<|W (pv 0) D)<|iu<|fy<|oz<|aY aM (W (pv 0) D) (pv 1) λ_ _=>D) (ai<|aA f9) aD)<|ah (aH 3 QN<|W (aY aM (W (pv 0) D) (pv 1) λ_ _=>D) D)<|ah (aJ (PW.pt<|lz (cG<|lB jG iP az (pv 2)<|aQ k.md.a_<|pv 3)<|iu<|cG<|bQ<|f_ k.md.bH (aY aM (pv 3) (pv 2) λ_ _=>D) i.code.mg) (ai<|aA f9) aD)<|ai<|aA<|aY aM (pv 3) (pv 2) λ_ _=>D,?_⟩
 refine⟨_,D,nU (λz=>?_) λz=>?_⟩
 case refine_2=>exact(bS<|bS<|e<|jH λf=>z f.1)
 obtain⟨l,rfl⟩:∃h:M,y=(h:Z):=⟨y.toNat,aL⟩;exists D,d.ob,i.doc.fo,D,s,_,D,.inl d.bl;refine gC (λm=>?_) λm=>?_
 .have m:¬((l:M):Z)<((L q:M):Z):=by simpa using m
  refine bS<|e ?_;by_cases t:0<=b
  .obtain⟨a,rfl⟩:∃h:M,b=(h:Z):=⟨b.toNat,aL⟩;rw[nY,eg fX]
  .exact jH λf=>t f.2
 have m:l<L q:=by simp_all
 obtain⟨n,u⟩:∃n,q[l]?=B n:=⟨q[l],ą m⟩;obtain⟨j0,C,E⟩:=Paired.at_ d.bs u;exists D,d.ob,i.doc.fo,D,s,_,_,n,D,D,d.bl,bN u;cases j0 with
 |prose aC=>
  cases E;refine bS<|e ?_;by_cases t:0<=b
  .obtain⟨a,rfl⟩:∃h:M,b=(h:Z):=⟨b.toNat,aL⟩;rw[nY,C]
  .exact jH λf=>t f.2
 |chunk o=>
  obtain⟨S,rfl,aE,h,F,v,T,aF,aG,X,x,G⟩:=E;refine dJ ⟨D,d.ob,i.doc.fo,D,s,_,_,.ref S,D,D,d.bl,bN u,D,T,i.part.fo,D,?_⟩;refine⟨_,D,nU (λH=>?_) λH=>?_⟩
  case refine_2=>exact(bS<|bS<|e<|jH λf=>H f.2)
  obtain⟨a,rfl⟩:∃h:M,b=(h:Z):=⟨b.toNat,aL⟩;have j:jM Q (l:Z) (a:Z)=match o.lines[a]? with|some (.code F)=>B F|_=>g:=by rw[nY,C]
  exists v,_,D,.inl x;rw[Ε,G.length];refine gC (λp=>?_) λp=>?_
  .have p:¬((a:M):Z)<((L o.lines:M):Z):=by simpa using p
   exact bS<|e<|by rw[j,eg fX]
  have p:a<L o.lines:=by simp_all
  obtain⟨Y,I⟩:∃n,o.lines[a]?=B n:=⟨o.lines[a],ą p⟩;obtain⟨r,aa,J⟩:=Paired.at2 G I;have N:(X.map V.ref)[a]?=B (.ref r):=by rw[Ë,aa];rfl
  obtain⟨ab,ad,ae⟩:=i.o_ J;exists v,_,_,.ref r,D,D,x,bN N,_,_,ab,_,D,ad,ae;rw[I]at j;cases Y with
  |code af=>exact dJ ⟨v,_,_,.ref r,D,D,x,bN N,R af r j J⟩
  |when f=>exact bS<|e j
  |otherwise=>exact bS<|e j
  |done=>exact bS<|e j
noncomputable def h_ (d:ó) (b l q:Z):É Ť:=if 0<=q then(jM d b l).bind λθ=>θ[q.toNat]? else g
inductive Tz(K:Ζ)(A:Ad)(vs:J V)(H:Hp)(Q:VK)(e:XK):Prop
 |mk(À b l q d:_)(_:vs=[.ref À,.int b,.int l,.int q])(_:oU K A H À d)(_:(h_ d b l q=g->Q .b_ H))(_:∀p a,h_ d b l q=B p->cI K A H a p->Q (.ref a) H)
def QO:aB ["self","block","line","piece","code_line"] ["self","block","line","piece"]<|ay<|Ik 3:=by decide+kernel
def yC(a:Wk K η A):pR P w K η Ξ c9 2 A.doc "piece_at" ["self","block","line","piece"]<|Tz K A:=by
 refine a.CU 6 5 QO λO Q R S v x=>?_;obtain⟨h,i,j,k,l,rfl,m,f,y⟩:=x;obtain⟨z,T,V,X,Y,ab,ad,ae,af,ag,ak,C⟩:=id m;refine⟨_,ah (aH 4 QO<|bY (qy a) a.kl.doc.cl v aG (pv 0)<|aa (pv 1)<|aa (pv 2) aj)<|ah (aJ (PW.pt<|lz (fy<|oz<|pv 4)<|iu<|cG<|lB jG iP az (pv 3)<|aQ a.md.a_<|W (pv 4) D) (ai<|aA f9) aD)<|ai<|aA<|aY aM (W (pv 4) D) (pv 3) λ_ _=>D,?_⟩
 refine⟨h,z,_,D,C.ob,D,h,i,j,l,D,m,λE=>?_,λd al am F=>?_⟩
 .refine(bS<|bS<|f ?_);unfold h_;rw[E];split<;>rfl
 .obtain⟨dl,n,o,an,p,q⟩:=id F;refine(dJ ?_);refine⟨_,D,nU (λr=>?_) λr=>?_⟩
  case refine_2=>exact(bS<|f<|Ó r)
  obtain⟨b,rfl⟩:∃G:M,k=(G:Z):=⟨k.toNat,aL⟩;have s:h_ l i j (b:Z)=d[b]?:=by simp_all[h_,à,Ţ]
  exists D,o,a.kl.code.fo,D,n,_,D,.inl p;rw[Ε,q.length];refine gC (λe=>?_) λe=>?_
  .have e:¬((b:M):Z)<((L d:M):Z):=by simpa using e
   exact f<|by rw[s,eg fX]
  have e:b<L d:=by simp_all
  obtain⟨H,t⟩:∃I,d[b]?=B I:=⟨d[b],ą e⟩;obtain⟨u,J,N⟩:=Paired.at2 q t;exact⟨D,o,a.kl.code.fo,D,n,_,_,.ref u,D,D,p,bN (by rw[Ë,J];rfl),y H u (by rw[s,t]) N⟩
inductive VA(K:Ζ)(x:V)(y:V)(H:Hp)(Q:VK):Prop
 |mk(a b N Å:_)(_:x=.ref a)(_:y=.ref b)(_:gb K H a N)(_:gb K H b Å)(_:Å≠[])(_:L N+L Å<=sizeLine)(_:(N=[]->Q (.ref b) H))(_:(N≠[]->∀p,H p=g->Q (.ref p) (T H p<|.bO<|N++Å)))
inductive Rl(K:Ζ)(x:V)(y:V)(H:Hp)(Q:VK):Prop
 |mk(a b N Å:_)(_:x=.ref a)(_:y=.ref b)(_:aN K H a N)(_:aN K H b Å)(_:L N+L Å<=sizeLine)(_:∀p,H p=g->Q (.ref p) (T H p<|.Y<|N++Å))
def Qm:pq X (sZ .Add)<|VA K:=by
 intro s t u f V W v w x a h i y;obtain⟨e,b,j,z,rfl,rfl,k,l,A,C,E,F⟩:=y;by_cases d:j=[]
 .cases h;cases i;refine bx λY G=>?_;obtain⟨H,I,J,_⟩:=a.tuple k;obtain⟨L,Z,M,_⟩:=a.tuple l;obtain⟨⟨aa,N,ab,O⟩,m,n,P,o⟩:=id J;obtain⟨⟨ad,Q,data2,R⟩,p,q,S,r⟩:=id M;apply G;simp only at n o q r;subst n o q r;exact Cr ⟨_,m,D⟩ ⟨_,p,D⟩ EL MV pW oJ (oi _ _)
   (tuple_addW0 e b H.toArray L.toArray P S N Q O R (by have:=I.zY.mpr d;simp[this])) ⟨m,p,⟨.ref b,f,a,D,E d⟩⟩
 .exact S5 s t u f (.ref e) (.ref b) v w x a h i ⟨e,b,j,z,D,D,k,l,d,C,λT=>absurd T A,λ_=>F d⟩
def gB:pq X (sZ .Add)<|Rl K:=by
 intro F n G H I J L M N a o p q;obtain⟨r,s,O,P,rfl,rfl,t,u,Q,v⟩:=q;cases o;cases p;refine bx λR w=>?_;obtain⟨b,e,⟨⟨S,x,T,y⟩,z,f,h,_,i⟩,_⟩:=a.list t;obtain⟨d,j,⟨⟨V,A,data2,C⟩,E,k,l,_,m⟩,_⟩:=a.list u;apply w;simp only at h i l m;subst h i l m;have W:=e.length;have Y:=j.length;refine Cr ⟨_,f,D⟩ ⟨_,k,D⟩ noFill_list_add seq_list_add PySem.F.slot_list_add PySem.F.entry_list_add (PySem.F.args_list_add_2 _ _)
  (list_addW r s b.toArray d.toArray z E x A y C fX) ⟨f,k,?_⟩
 rw[(bh:b.toArray++d.toArray=(b++d).toArray)];exact⟨.ref _,_,a.aaJ (t':=n.toks) (e.append j) (by rw[Ω];omega),D,v _ a.fresh⟩
noncomputable def wG (q:ú):J V:=[nV q.block,nV q.line,nV q.piece]
section
variable(K:Ζ)(A:Ad)(H:Hp)
def cD(p:O)(q:ú):Prop:=gb K H p<|wG q
def qw(p:O)(a:J ú):Prop:=∃as:J O,gb K H p (as.map V.ref)/\ď (cD K H) as a
noncomputable def rW (k:M) (sg ù a:O) (n:M) (b:O):J<|S×V:=[("kind",nV k),("signs",.ref sg),("place",.ref ù),("way",.ref a),("argument",nV n),("parameter",.ref b)]
inductive o7(a:O)(u:ef):Prop
 |mk(ξ sg ù b pp:_)(_:H a=B (.aE A.run ξ<|rW u.kind sg ù b u.argument pp))(_:Tx K H sg u.signs)(_:cD K H ù u.place)(_:qw K H b u.way)(_:cD K H pp u.parameter)
def tZ(a:O)(r:J ef):Prop:=∃Μ:J O,aN K H a (Μ.map V.ref)/\ď (o7 K A H) Μ r
def fN(a:O)(Υ:J<|J ef):Prop:=∃as:J O,aN K H a (as.map V.ref)/\ď (tZ K A H) as Υ
noncomputable def U5 (b n:M) (ù:O):J<|S×V:=[("block",nV b),("number",nV n),("pieces",.ref ù)]
def rF(a:O)(c:fL):Prop:=∃ξ ù,H a=B (.aE A.live ξ<|U5 c.block c.line ù)/\jF K A H ù c.pieces
def p7(a:O)(b:J fL):Prop:=∃as:J O,aN K H a (as.map V.ref)/\ď (rF K A H) as b
noncomputable def ru (a b ù d:O):J<|S×V:=[("parameters",.ref a),("arguments",.ref b),("place",.ref ù),("way",.ref d)]
inductive kU(a:O)(θ:J Đ)(args:J ê)(up:ú)(way:J ú):Prop
 |mk(ξ pp ap ù b:_)(_:H a=B (.aE A.frame ξ<|ru pp ap ù b))(_:wF K H pp θ)(_:Gq K H ap args)(_:cD K H ù up)(_:qw K H b way)
end
theorem cD.same{q:ú}(h:cD K H p q)(e:av H R):cD K R p q:=av.x_ e h
theorem qw.same{a:J ú}(h:qw K H p a)(e:av H R):qw K R p a:=by obtain⟨b,d,f⟩:=h;exact⟨b,av.x_ e d,Paired.cj (λ_ _ i=>i.same e) f⟩
theorem o7.same{u:ef}(h:o7 K A H a u)(e:av H R):o7 K A R a u:=by obtain⟨b,sg,d,f,i,j,k,l,m,n⟩:=h;exact⟨b,sg,d,f,i,e _ _ j,k.same e,l.same e,m.same e,n.same e⟩
theorem tZ.same(h:tZ K A H a r)(e:av H R):tZ K A R a r:=by obtain⟨b,d,f⟩:=h;exact⟨b,av.seq e d,Paired.cj (λ_ _ i=>i.same e) f⟩
theorem fN.same(h:fN K A H a Υ)(e:av H R):fN K A R a Υ:=by obtain⟨b,d,f⟩:=h;exact⟨b,av.seq e d,Paired.cj (λ_ _ i=>i.same e) f⟩
theorem rF.same{c:fL}(h:rF K A H a c)(e:av H R):rF K A R a c:=by obtain⟨b,d,f,i⟩:=h;exact⟨b,d,e _ _ f,i.same e⟩
theorem p7.same{b:J fL}(h:p7 K A H a b)(e:av H R):p7 K A R a b:=by obtain⟨d,f,i⟩:=h;exact⟨d,av.seq e f,Paired.cj (λ_ _ j=>j.same e) i⟩
theorem kU.same{θ:J Đ}{args:J ê}{b:ú}{way:J ú}(h:kU K A H a θ args b way)(e:av H R):kU K A R a θ args b way:=by obtain⟨d,f,i,j,k,l,m,n,o,p⟩:=h;exact⟨d,f,i,j,k,e _ _ l,m.same e,n.same e,o.same e,p.same e⟩
def aaE:aB ["self","kind","signs","place","way"] ["self","kind","signs","place","way"]<|ay YN:=by decide+kernel
def FQ(b:Wk K η A):Gn P w K η Ξ 1 "Run" A.run ["self","kind","signs","place","way"]<|gx A.run<|f4 "kind" "signs" "place" "way" [("argument",.int 0),("parameter",.ref A.np)]:=by
 have a:=b.kl.run;refine b.Ms 7 37 aaE s4 λi j k l m d=>?_;obtain⟨n,o,p,q,rfl,e,f,h⟩:=d;obtain⟨r,s,t,u,rfl,rfl⟩:=g4 e;exists _,ah (aX (pv 0) (pv 1) D)<|ah (aX (pv 0) (pv 2) D)<|ah (aX (pv 0) (pv 3) D)<|ah (aX (pv 0) (pv 4) D)<|ah (aX (pv 0) az D)<|ai<|aX (pv 0) (aW b.np.1) D;exists D,f,a.fo,bh,D,af,a.fo,(by show 1<1000;decide),D,af,a.fo,(by show 2<1000;decide),D,af,a.fo,(by show 3<1000;decide),D,af,a.fo,(by show 4<1000;decide),D,af,a.fo,(by show 5<1000;decide)
 repeat rw[cy]
 repeat(first|rw[m_]|rw[cM<|by decide+kernel])
 exact h
def aa4:aB ["self","block","number","pieces"] ["self","block","number","pieces"]<|ay<|MB 0:=by decide+kernel
def IQ(b:Wk K η A):Gn P w K η Ξ 1 "LiveLine" A.live ["self","block","number","pieces"]<|gx A.live<|f3 "block" "number" "pieces":=by
 have a:=b.kl.live;refine b.Ms 8 14 aa4 s3 λi j k l m d=>?_;obtain⟨n,o,p,q,rfl,e,f,h⟩:=d;obtain⟨r,s,t,rfl,rfl⟩:=g3 e;exists _,ah (aX (pv 0) (pv 1) D)<|ah (aX (pv 0) (pv 2) D)<|ai<|aX (pv 0) (pv 3) D;exists D,f,a.fo,bh,D,af,a.fo,(by show 1<1000;decide),D,af,a.fo,(by show 2<1000;decide)
 repeat rw[cy]
 repeat(first|rw[m_]|rw[cM<|by decide+kernel])
 exact h
def Xa:aB ["self","piece"] ["self","piece"]<|ay<|MB 1:=by decide+kernel
inductive Od(C:O)(vs:J V)(H:Hp)(Q:VK)(d:XK):Prop
 |mk(a ξ b n ù:_)(i:M)(_:vs=[.ref a,nV i])(_:H a=B (.aE C ξ<|U5 b n ù))(_:∀t,H t=g->Q (.ref t) (T H t<|.bO<|wG ⟨b,n,i⟩))
def nS(a:Wk K η A):pR P w K η Ξ c9 1 A.live "place_of" ["self","piece"]<|Od A.live:=by have b:=a.kl.live;refine a.CU 8 15 Xa λh i j k l e=>?_;obtain⟨m,n,o,p,q,r,rfl,d,f⟩:=e;exists _,ai<|aA<|mO<|aa (W (pv 0) D)<|aa (W (pv 0) D)<|aa (pv 1) aj;exact⟨D,d,b.fo,D,D,d,b.fo,D,by simp[sizeLine,Î],f⟩
def aaj:aB ["self","parameters","arguments","place","way"] ["self","parameters","arguments","place","way"]<|ay Qu:=by decide+kernel
def I_(b:Wk K η A):Gn P w K η Ξ 1 "Frame" A.frame ["self","parameters","arguments","place","way"]<|gx A.frame<|f4 "parameters" "arguments" "place" "way" []:=by
 have a:=b.kl.frame;refine b.Ms 9 6 aaj s4 λi j k l m d=>?_;obtain⟨n,o,p,q,rfl,e,f,h⟩:=d;obtain⟨r,s,t,u,rfl,rfl⟩:=g4 e;exists _,ah (aX (pv 0) (pv 1) D)<|ah (aX (pv 0) (pv 2) D)<|ah (aX (pv 0) (pv 3) D)<|ai<|aX (pv 0) (pv 4) D;exists D,f,a.fo,bh,D,af,a.fo,(by show 1<1000;decide),D,af,a.fo,(by show 2<1000;decide),D,af,a.fo,(by show 3<1000;decide)
 repeat rw[cy]
 repeat(first|rw[m_]|rw[cM<|by decide+kernel])
 exact h
noncomputable def Nu (À Ì:V) (n:M) (õ:O):J<|S×V:=[("document",À),("variant",Ì),("followed",nV n),("chunk_lines",.ref õ)]
def Wq:aB ["self","document","variant"] ["self","document","variant"]<|ay<|FW 0:=by decide+kernel
inductive Ss(C:O)(vs:J V)(H:Hp)(Q:VK)(a:XK):Prop
 |mk(p ξ d v:_)(_:vs=[.ref p,d,v])(_:H p=B (.aE C ξ []))(_:∀õ,H õ=g->Q .b_ (T (T H õ<|.dT []) p<|.aE C ξ<|Nu d v 0 õ))
def Qa(l:Wk K η A):Gn P w K η Ξ 1 "Maker" A.bw ["self","document","variant"]<|Ss A.bw:=by
 have d:=l.kl.bw;refine l.Ms 11 17 Wq (λq e r s h=>by obtain⟨_,_,_,_,i,_⟩:=h;rw[i];rfl) λe q r s x h=>?_;obtain⟨a,y,z,C,rfl,t,u⟩:=h;exists _,ah (aX (pv 0) (pv 1) D)<|ah (aX (pv 0) (pv 2) D)<|ah (aX (pv 0) az D)<|ai<|aX (pv 0) gY D;refine⟨D,t,d.fo,bh,D,af,d.fo,(by show 1<1000;decide),D,af,d.fo,(by show 2<1000;decide),λf j=>?_⟩;have m:=(ao af j).symm;exists D,(au m.symm).trans af,d.fo,(by show 3<1000;decide);have v:e f=g:=by rw[cy,cy,au m]at j;exact j
 have:=u f v
 repeat(first|rw[m_]|rw[cM<|by decide+kernel])
 have i:∀n o p k:HO,T (T (T (T (T e a n) a o) a p) f<|.dT []) a k=T (T e f<|.dT []) a k:=λn o p k=>by funext b;unfold T;simp_all
 rwa [i]
theorem Ba{d:ó}(a:eN d)(on:J Đ)(i:M):(L<|fM d on i)<=400:=by
 unfold fM;cases b:d[i]? with
 |none=>simp
 |some e=>
  cases e with
  |prose h=>simp
  |chunk f=>
   have j:=jO on f.lines 0 [];have k:=nc<|bX.mpr ⟨i,b⟩;have l:=a.IP;rw[Ε];lia
theorem D4{d:ó}(a:eN d)(on:J Đ):∀l:J M,(L<|l.flatMap<|fM d on)<=400*L l
 |[]=>Ò _
 |i::l=>by
  have b:=D4 a on l;have e:=Ba a on i
  grind
theorem jI(h:d[i]?=B (.chunk c)):fM d on i=(Œ on 0 [] c.lines).map λx=>{block:=i,line:=x.1,pieces:=x.2}:=by unfold fM;rw[h]
inductive Ho(K:Ζ)(A:Ad)(vs:J V)(H:Hp)(Q:VK)(a:XK):Prop
 |mk(G mk Ź À Ì n õ Ĳ:_)(nums:J M)(d ä on:_)(_:vs=[.ref mk,.ref Ĳ])(_:av G H)(_:H mk=B (.aE A.bw Ź<|Nu (.ref À) (.ref Ì) n õ))(_:oU K A G À d)(_:eN d)(_:G Ì=B (.dT ä))(_:dg ä on)(_:aN K G Ĳ<|nums.map nV)(_:(∀i∈nums,∃c,d[i]?=B (fc c)))(_:L nums<=10000)(_:∀Κ R r,Ex G H Κ R->p7 K A Κ r (nums.flatMap<|fM d on)->Q (.ref r) R)
def B3:aB ["self","numbers","lines","block","part","number"] ["self","numbers"]<|ay<|FW 1:=by decide+kernel
def ud(S:Wk K η A):pR P w K η Ξ c9 3 A.bw "live_lines" ["self","numbers"]<|Ho K A:=by
 have E:=S.kl;refine S.CU 11 25 B3 λX bm bn bo aD a2=>?_;obtain⟨F,aE,bp,bq,a3,br,bs,ag,G,p,a4,d,rfl,aF,aJ,⟨bt,a5,bv,bw,bz,bA,bB,bD,bE,bF,bG,Y⟩,aK,a6,a7,aO,a8,bH,a9⟩:=a2;refine⟨_,ah (aH 2 B3<|aI aj)<|ah (cS ğ D (bu<|pv 1) (bC 3 B3)<|ah (aH 4 B3<|aY aM (W (W (pv 0) D) D) (pv 3) λ_ _=>D)<|ai<|cS ğ D (bu<|aR (iU S) aD D aG<|aa (pv 4)<|aa (W (pv 0) D) aj) (bC 5 B3)<|ai<|aT<|ek (pv 2)<|gR (IQ S) aD D<|aa (pv 3)<|aa (pv 5)<|aa (W (aY aM (W (pv 4) D) (pv 5) λ_ _=>D) D) aj)<|ai<|aA<|pv 2,?_⟩
 refine⟨Ò _,λk Z=>?_⟩;have aP:Ex F X F<|T X k<|.Y []:=(Ex.refl aF).more<|aq Z;have bI:=Y.bs.length;exists ag,D,⟨_,av.seq aP.sub aO⟩;refine c_ (N:=G.map nV) (λu f l=>∃q v ak al ab,Ex F X q l/\Lo q l k (.Y<|v.map V.ref)/\ď (rF K A q) v ((G.take u).flatMap<|fM p d)/\f=[B<|.ref aE,B<|.ref ag,B<|.ref k,ak,al,ab]) ?_ ?_ ?_ ?_
 .exact⟨F,[],g,g,g,aP,Lo.new aF Z,.nil,D⟩
 .rintro u f l _ ⟨q,_,_,_,_,aQ,_⟩;exact av.seq (aQ.le.trans aQ.sub) aO
 .refineλu r f a_ H I=>bx λx b=>?_;obtain⟨q,v,ak,al,ab,m,lo1,am,rfl⟩:=I;apply b;rw[Ë]at H;refine bx λx b=>?_;obtain⟨a,an,rfl⟩:=Ü.mp H;obtain⟨y,ad⟩:=a8 a<|υ an;obtain⟨bJ,a',ba⟩:=Paired.at2 Y.bs ad;obtain⟨ap,rfl,aS⟩:=ba;apply b;have bK:=(Ð.mp an).1;have g1:=m.le.trans m.sub;have aU:=bX.mpr ⟨a,ad⟩;have bL:=nc aU;have bM:=aK.IP;exists D,m.same _ _ aJ,E.bw.fo,D,D,g1 _ _ Y.ob,E.doc.fo,D,a5,_,_,.ref ap,D,D,av.seq g1 Y.bl,bN a';refine⟨D,m.same _ _ aJ,E.bw.fo,D,ap,a3,y,a4,d,D,aS.same g1,g1 _ _ a6,a7,(aK.chunk y aU).2,aL,λar bO aw s2 aV=>?_⟩;exists ar,D,⟨_,aN.of aV⟩;refine bx λx b=>?_;obtain⟨bP,bQ,bR,bb,bc,_,_,bS,bd,be⟩:=id aS;apply b;refine c_ (N:=((Œ d 0 [] y.lines).map λr=>r.1).map nV) (λz f l=>∃e n ax,Ex F X e l/\l ar=B (.Y<|((Œ d 0 [] y.lines).map λr=>r.1).map nV)/\e ar=g/\Lo e l k (.Y<|n.map V.ref)/\ď (rF K A e) n ((G.take u).flatMap (fM p d)++(fM p d a).take z)/\ f=[B<|.ref aE,B<|.ref ag,B<|.ref k,B<|nV a,B<|.ref ap,ax]) ?_ ?_ ?_ ?_
  .refine⟨q,v,ab,m.more s2,aV,m.sub.free aw,lo1.same s2,?_,D⟩
   rwa [nI,ö]
  .rintro z f l _ ⟨_,_,_,_,h,_⟩;exact aN.of h
  .refineλz r f ay H I=>bx λx b=>?_;obtain⟨e,n,ax,o,ae,bf,s,J,rfl⟩:=I;apply b;rw[Ħ,Ë]at H;refine bx λx b=>?_;obtain⟨i,az,rfl⟩:=Ü.mp H;have g3:=o.le.trans o.sub;obtain⟨bT,aW,aX⟩:=gi d y.lines 0 [] i<|υ az;apply b;rw[ύ]at aW;rw[<-aW]at aX;refine bx λx b=>?_;obtain⟨bg,bh,bi⟩:=Paired.at2 be aX;obtain⟨dl,M,bj,bk⟩:=id bi;apply b;have bU:=(Ð.mp az).1;have bl:(fM p d a).take (z+1)=(fM p d a).take z++[⟨a,i.1,i.2⟩]:=by rw[Ĝ,(by rw[jI ad,Ë,az];rfl:(fM p d a)[z]?=some ⟨a,i.1,i.2⟩)];rfl
   have bV:L n<sizeLine:=by
    have bW:=J.length
    grind[D4,Ba,Ω,ŀ,Î]
   refine⟨.inl ⟨D,_,aN.of s.at_⟩,D,g3 _ _ bc,E.part.fo,D,bb,_,_,.ref bg,D,D,av.seq g3 bd,bN (by rw[Ë,bh];rfl),D,g3 _ _ bj,E.code.fo,D,_,D,λj t Q R aZ=>?_⟩;have a0:∀{h:O} {aB:HO},ay h=B aB->T (T ay t<|.own j) j (.aE A.live t [("block",nV a),("number",nV i.1),("pieces",.ref M)]) h=B aB:=λ{h aB} a1=>by rwa [au<|ao a1 Q,au<|ao a1 R]
   have sg:av e<|T (T e t<|.own j) j<|.aE A.live t [("block",nV a),("number",nV i.1),("pieces",.ref M)]:=cN (o.sub.free Q) (o.sub.free R) aZ;have aC:Lo (T (T e t<|.own j) j<|.aE A.live t [("block",nV a),("number",nV i.1),("pieces",.ref M)]) _ k<|.Y<|n.map V.ref:=⟨by rw[au<|ao s.at_ Q,au<|ao s.at_ R];exact s.out,a0 s.at_⟩;refine⟨k,_,_,D,D,aC.at_,by rwa [Ε],_,n++[j],_,(o.inst (C:=A.live) (fs:=[("block",nV a),("number",nV i.1),("pieces",.ref M)]) Q R aZ).write aC Z,?_,?_,?_,?_,D⟩
   .rw[au (λj=>by rw[j,lo1.at_]at aw;cases aw)];exact a0 ae
   .rwa [au<|ao ae Q,au<|ao ae R]
   .rw[Ý];exact aC.put
   .rw[bl,<-ϊ];refine Paired.rZ (Paired.cj (λ_ _ h=>h.same sg) J) ⟨t,M,af,(bk.same o.le).same sg⟩
  .refineλf ay I=>bx λx b=>?_;obtain⟨e,n,ax,o,ae,bf,s,J,rfl⟩:=I;apply b;refine⟨e,n,_,_,_,o,s,?_,D⟩;rw[(by rw[Ĝ,an];rfl:G.take (u+1)=G.take u++[a]),ċ,ĕ,Ů,ö];rw[(by rw[jI ad];simp:(((Œ d 0 [] y.lines).map λr=>r.1).map nV).length=(fM p d a).length),č]at J;exact J
 .rintro f a_ ⟨q,v,ak,al,ab,m,lo1,am,rfl⟩;rw[Ε,č]at am;refine(a9 _ _ k (m.stay lo1 Z) ⟨v,aN.of af,Paired.cj (λ_ _ h=>h.same<|aq lo1.out) am⟩)
structure J9(K:Ζ)(A:Ad)(Ι G H:Hp)(mk Ź À Ì õ:O)(n:M)(ϖ:J<|J bW×V)(Þ:J Đ)(ä:J<|J bW×V)(d:ó)(on:J Đ):Prop where
 om:Lo G H mk<|.aE A.bw Ź<|Nu (.ref À) (.ref Ì) n õ
 oc:Lo G H õ<|.dT ϖ
 zm:Ι mk=g
 zc:Ι õ=g
 doc:oU K A G À d
 vv:G Ì=B (.dT ä)
 kv:dg ä on
 kc:dg ϖ Þ
 nd:Þ.Nodup
 sb:∀x∈Þ,x∈b7 Τ d
 ch:∀x v,cW ϖ (kT x)=B v->∃r,v=.ref r/\p7 K A G r (jv d on Τ x)
inductive k6(K:Ζ)(A:Ad)(Ι G H:Hp)(mk:O)(n:M)(d:ó)(on:J Đ):Prop
 |mk(Ź À Ì õ ϖ Þ ä:_)(_:J9 K A Ι G H mk Ź À Ì õ n ϖ Þ ä d on)
section
variable{Ú:Hp}{mk Ź À Ì õ:O}{n:M}{Þ:J Đ}
theorem J9.ne(s:J9 K A Ι G H mk Ź À Ì õ n ϖ Þ ä d on):mk≠õ:=bB s.om.at_ s.oc.at_ (by intro a;cases a)
theorem J9.ex(s:J9 K A Ι G H mk Ź À Ì õ n ϖ Þ ä d on)(e:Ex G H Κ R):J9 K A Ι Κ R mk Ź À Ì õ n ϖ Þ ä d on:=
 ⟨s.om.ex e,s.oc.ex e,s.zm,s.zc,s.doc.same e.le,e.le _ _ s.vv,s.kv,s.kc,s.nd,s.sb,λa b f=>let⟨h,i,j⟩:=s.ch a b f;⟨h,i,j.same e.le⟩⟩
theorem k6.ex(s:k6 K A Ι G H mk n d on)(e:Ex G H Κ R):k6 K A Ι Κ R mk n d on:=by obtain⟨a,b,f,h,i,j,k,s⟩:=s;exact⟨a,b,f,h,i,j,k,s.ex e⟩
noncomputable def less (H:Hp) (mk õ:O):Hp:=λb=>if b=mk\/b=õ then g else H b
theorem Fv(á:b≠mk)(í:b≠õ):less H mk õ b=H b:=Ó aL
def NS{o:HO}(h:less H mk õ b=B o):H b=B o/\b≠mk/\b≠õ:=by unfold less at h;simp_all
theorem J9.less(s:J9 K A Ι G H mk Ź À Ì õ n ϖ Þ ä d on)(ex:Ex Ú Ι G H):Ex Ú Ι G (less H mk õ)/\Ex G (less H mk õ) G H:=by
 refine⟨⟨λe f a=>?_,ex.le,λe f a=>?_,ex.new⟩,⟨λe f a=>(NS a).1,av.refl _,ex.sub,λe f a=>.inl a⟩⟩
 .rw[Fv (λb=>by rw[b,s.zm]at a;cases a) (λb=>by rw[b,s.zc]at a;cases a)];exact ex.same _ _ a
 .rw[Fv (λb=>by rw[b,s.om.out]at a;cases a) (λb=>by rw[b,s.oc.out]at a;cases a)];exact ex.sub _ _ a
def J9.low(s:J9 K A Ι G H mk Ź À Ì õ n ϖ Þ ä d on):J9 K A (Tf.less H mk õ) G H mk Ź À Ì õ n ϖ Þ ä d on:=
 {s with zm:=à<|.inl D,zc:=à<|.inr D}
theorem Lo.less{x:O}{o:HO}(l:Lo G H x o)(á:x≠mk)(í:x≠õ):Lo G (Tf.less H mk õ) x o:=⟨l.out,Fv á í▸l.at_⟩
end
inductive QU(K:Ζ)(A:Ad)(vs:J V)(H:Hp)(Q:VK)(a:XK):Prop
 |mk(Ú Ι G mk n d on ð nm:_)(_:vs=[.ref mk,.ref ð])(_:Ex Ú Ι G H)(_:k6 K A Ι G H mk n d on)(_:eN d)(_:Nm G ð nm)(_:nm∈b7 Τ d)(_:∀Κ R r,Ex Ú Ι Κ R->av G Κ->k6 K A Ι Κ R mk n d on->p7 K A Κ r (jv d on Τ nm)->Q (.ref r) R)
def Xl:aB ["self","name"] ["self","name"]<|ay<|FW 2:=by decide+kernel
def wR(v:Wk K η A):pR P w K η Ξ c9 4 A.bw "code_of_chunk" ["self","name"]<|QU K A:=by
 have h:=v.kl;refine v.CU 11 18 Xl λY ap aq ar j Z=>?_;obtain⟨aw,ab,H,x,I,k,J,ax,d,rfl,o,⟨l,p,q,f,i,r,s,a⟩,M,N,ad,O⟩:=Z;have y:=o.sub _ _ N;refine⟨_,ah (aJ (fy (pF (fP j) (pv 1)<|W (pv 0) D)<|by with_unfolding_all rfl) (ai<|p5 (fP j) (W (pv 0) D) (pv 1) (bY (ud v) h.bw.cl j aG (pv 0)<|aa (pY (fP j) (W (W (pv 0) D) D) (pv 1) λ_ _=>D) aj) D) aD)<|ai<|aA<|pY (fP j) (W (pv 0) D) (pv 1) λ_ _=>D,?_⟩
 exists D,a.om.at_,h.bw.fo,D,f,_,D,jx.t a.oc.at_ y;cases Q:cW i (kT d) with
 |some C=>
  obtain⟨e,rfl,m⟩:=a.ch d C Q;refine dJ ⟨D,a.om.at_,h.bw.fo,D,f,.ref e,D,Q▸jx.t a.oc.at_ y,O H Y e o (av.refl _) ⟨l,p,q,f,i,r,s,a⟩ m⟩
 |none=>
  obtain⟨ay,az,aB,ae,aC,aE,aF,aH,aI,aK,aM,t⟩:=id a.doc;obtain⟨R,af,ag⟩:=t.ck.find ad;have E:=o.sub;have aO:=fY k Τ d;have aP:=M.blocks;refine bS ⟨x,l,_,D,a.om.at_,D,D,a.om.at_,h.bw.fo,D,D,E _ _ t.ob,h.doc.fo,D,ae,.ref R,D,af▸jx.t (E _ _ t.ch) y,?_⟩;refine⟨H,x,l,p,q,I,f,R,ř k Τ d,k,s,J,D,E,a.om.at_,a.doc,M,a.vv,a.kv,aN.of<|t.tc _ ag,λaQ ak=>let⟨al,S,_⟩:=dB.mp ak;⟨al,S⟩,aL,λV am e n m=>?_⟩;rw[<-g9]at m;have b:=a.ex n;have aR:L r<=200:=by have S:=jq r _ a.nd a.sb;have aS:=uz Τ k;lia
  have X:=n.sub _ _<|n.le _ _ N;exists D,b.om.at_,h.bw.fo,D,f,_,D,B_.t b.oc.at_ X (by rw[a.kc.len,Î];lia);have F:J9 K A ab V (T am f<|.dT<|c7 i (kT d)<|.ref e) x l p q f I (c7 i (kT d)<|.ref e) (Ċ r d) s k J:=
   ⟨b.om.other b.ne,b.oc.put,b.zm,b.zc,b.doc,b.vv,b.kv,b.kc.put d _,wV b.nd,λG an=>by rcases uJ.mp an with z|z;exact b.sb G z;rwa [z],λG C u=>by
    rw[mL]at u;split at u
    .rename_i ao;cases u;rw[u0 ao];exact⟨e,D,m⟩
    .exact b.ch G C u⟩
  refine⟨D,F.om.at_,h.bw.fo,D,f,.ref e,D,?_,O V _ e ((o.trans n).write (u:=.dT<|c7 i (kT d)<|.ref e) b.oc b.zc) n.le ⟨l,p,q,f,_,_,s,F⟩ m⟩;rw[<-(by rw[mL,à D]:cW (c7 i (kT d)<|.ref e) (kT d)=some (.ref e))];exact jx.t F.oc.at_<|by rwa [au<|bB X b.oc.at_ (by intro z;cases z)]
def H6(K:Ζ)(A:Ad)(ς:J ef->J ef)(G:Hp)(x:O×J ef)(y:V):Prop:=∃b,y=.ref b/\tZ K A G b (ς x.2)
def H6.mono{ς:J ef->J ef}{x:O×J ef}{y:V}(h:H6 K A ς G x y)(s:av G Κ):H6 K A ς Κ x y:=by obtain⟨a,b,d⟩:=h;exact⟨a,b,d.same s⟩
theorem fN.of{ς:J ef->J ef}{e:O}{Ô:J<|O×J ef}{Å:J V}(h:G e=B (.Y Å))(p:ď (H6 K A ς G) Ô Å):fN K A G e ((Ô.map (·.2)).map ς):=by
 have:∃a:J O,Å=a.map V.ref/\ď (tZ K A G) a ((Ô.map (·.2)).map ς):=by
  clear h
  induction p with
  |nil=>exact⟨[],D,.nil⟩
  |cons h _ f=>
   obtain⟨i,b,j⟩:=h;obtain⟨a,k,d⟩:=f;exact⟨i::a,by rw[b,k];rfl,.cons j d⟩
 obtain⟨a,b,d⟩:=this;exact⟨a,aN.of<|by rw[h,b],d⟩
inductive Lu(K:Ζ)(A:Ad)(vs:J V)(H:Hp)(Q:VK)(d:XK):Prop
 |mk(G a Υ b u:_)(_:vs=[.ref a,.ref b])(_:av G H)(_:fN K A G a Υ)(_:o7 K A G b u)(_:L Υ<=100000)(_:(∀r∈Υ,L r<=1000000))(_:∀Κ R D,Ex G H Κ R->fN K A Κ D (Υ.map<|b6 u)->Q (.ref D) R)
def WA:aB ["rows","blanks","row"] ["rows","blanks"]<|ay<|bU 70:=by decide+kernel
def x8(q:Wk K η A):Kn P w K η Ξ c9 1 "indented" ["rows","blanks"]<|Lu K A:=by
 refine q.kn 25 WA<|@λZ ab ad ae r ag ah ak al am i=>?_;obtain⟨an,G,ao,d,e,rfl,j,⟨ap,k,H⟩,I,s,J,M⟩:=i;obtain⟨t,N,l,u⟩:=Paired.zip H;have ar:L t<=100000:=by rw[l,Ε]at s;exact s
 refine⟨_,ai<|aA<|gV (Â:=tIf (HX<|OQ (E8 λO Q=>.bl<|ã<|Q<O) (SH K<|aV 2)<|tC<|.int 0) (OQ (Rl K) (J7<|bg (aV 1) cB)<|aV 2)<|aV 2) D WA.nd (bu<|pv 0) (bL (own:=[("row",2)])<|by kernel_rfl) (λ_ _ _ _ _=>bC 2 WA) (λ_ _ _ _ _=>cY) λ_ _ _ _ _=>A7 (aF kg (aQ q.md.a_<|pv 2) az<|aK _) (cQ gB (aI<|aa (pv 1) aj)<|pv 2)<|pv 2,?_⟩
 exists G,D,⟨_,av.seq j k⟩;refine sR (Χ:=H6 K A<|b6 e) (λ_ _ _ _ i r=>i.mono r) t (λa=>.ref a.1) (by rw[N,Ħ]at k;exact av.seq j k) j (by rw[Î];lia) (λa m f v au b x=>?_) λR f v aw S b lo W=>?_
 .obtain⟨h,y,z⟩:=(u a m).same b.le;have X:=z.length;have ax:=J a.2<|l▸ō m;refine⟨a.1,_,D,.inl<|av.seq b.sub y,nU (λC=>?_) λC=>?_⟩
  .have Y:b6 e a.2=e::a.2:=by
    unfold b6
    grind
   refine⟨by simp[sizeLine,Î],λn p=>⟨n,a.1,_,_,D,D,aN.of af,av.seq (aq p)<|av.seq b.sub y,by rw[Ε,Î];show 1+L h<=_;lia,λE F=>?_⟩⟩;have sg:av f<|T f E<|.Y<|[.ref d]++h.map V.ref:=aq<|b.sub.free<|(aq (o:=.Y [.ref d]) p).free F;refine x _ _ _ (((Ex.refl b.sub).more<|aq (o:=.Y [.ref d]) p).made (o:=.Y<|[.ref d]++h.map V.ref) F) ⟨E,D,d::h,aN.of af,?_⟩;rw[Y];exact .cons ((I.same b.le).same sg)<|Paired.cj (λ_ _ w=>w.same sg) z
  .refine(x f v (.ref a.1) (Ex.refl b.sub) ⟨a.1,D,?_⟩);have:b6 e a.2=a.2:=by rw[(Ŷ (by rw[Ε,X]at C;simp_all):a.2=[])];rfl
   rw[this];exact(u a m).same b.le
 .refine M _ _ R (b.stay lo S) ?_;rw[l];exact fN.of af<|Paired.cj (λ_ _ n=>n.mono<|aq lo.out) W
inductive Ov(K:Ζ)(A:Ad)(vs:J V)(H:Hp)(Q:VK)(d:XK):Prop
 |mk(G ð nm a p b θ args up way i t:_)(_:vs=[.ref ð,.ref a,.ref b])(_:av G H)(_:Nm G ð nm)(_:cD K G a p)(_:kU K A G b θ args up way)(_:θ[i]?=B nm)(_:(∀m,m<i->θ[m]?≠B nm))(_:args[i]?=B t)(_:∀Κ R r,Ex G H Κ R->tZ K A Κ r (if t.isEmpty then[] else[AG way up i p t])->Q (.ref r) R)
def T_:aB ["name","place","frame","number","signs","run"] ["name","place","frame"]<|ay<|bU 71:=by decide+kernel
def wQ(m:Wk K η A):Kn P w K η Ξ c9 3 "argument_runs" ["name","place","frame"]<|Ov K A:=by
 have k:=m.kl;refine m.kn 26 T_ λp aL aO aP y I=>?_;refine bx λaR L=>?_;obtain⟨n,N,O,j,aS,aT,Q,aU,aV,aZ,h,R,rfl,i,X,Y,⟨a0,Z,ab,b,d,ad,ae,⟨a1,ag,ak⟩,al,am⟩,an,ao,ap,z⟩:=I;have q:=i _ _ ad;obtain⟨ar,C,au⟩:=ae.same i;obtain⟨a,aw,E⟩:=Paired.at2 ak ap;apply L;refine⟨_,ah (aH 3 T_<|Uo y.units (W (pv 2) D)<|pv 0)<|ah (aH 4 T_<|aY aM (W (pv 2) D) (pv 3) λ_ _=>D)<|ah (aJ (aF ee (aQ m.md.a_<|pv 4) az<|aK _) (ai<|aA<|aI aj) aD)<|ah (aH 5 T_<|gR (FQ m) y D<|aa (aW m.md.oB)<|aa (pv 4)<|aa (W (pv 2) D)<|aa (W (pv 2) D) aj)<|ah (aX (pv 5) (pv 3) D)<|ah (aX (pv 5) (pv 1) D)<|ai<|aA<|aI<|aa (pv 5) aj,?_⟩
 exists D,q,k.frame.fo,D,.inl ⟨D,_,C⟩,Z,N,Q,O,h,D,D,⟨ar,C,au⟩,X.same i,an,ao;exists D,q,k.frame.fo,D,ab,_,_,.ref a,D,D,av.seq i ag,bN (by rw[Ë,aw];rfl);exists a,_,D,.inl<|E.same i,D;rw[cz,bP];refine gC (λo=>?_) λo=>?_
 .have ax:=Ŷ (by simpa using o);subst ax;refine⟨Ò _,λr s=>z _ _ r ((Ex.refl i).made s) ?_⟩;exact⟨[],aN.of af,.nil⟩
 have o:R≠[]:=λay=>by rw[ay]at o;exact absurd o bM
 refine⟨D,q,k.frame.fo,D,D,q,k.frame.fo,D,_,D,λe f l aB aC=>?_⟩;have s1:av p<|T (T p f<|.own e) e<|.aE A.run f [("kind",.int 1),("signs",.ref a),("place",.ref b),("way",.ref d),("argument",.int 0),("parameter",.ref A.np)]:=cN l aB aC;have t:Lo n (T (T p f<|.own e) e<|.aE A.run f [("kind",.int 1),("signs",.ref a),("place",.ref b),("way",.ref d),("argument",.int 0),("parameter",.ref A.np)]) e _:=⟨i.free l,af⟩;have F:=(Ex.refl i).more s1;generalize T (T p f<|.own e) e (.aE A.run f [("kind",.int 1),("signs",.ref a),("place",.ref b),("way",.ref d),("argument",.int 0),("parameter",.ref A.np)])=a2 at s1 t F;exists D,t.at_,k.run.fo,(by show 6<1000;decide);have aE:bf "argument" (.int (h:M)) ([("kind",.int 1),("signs",.ref a),("place",.ref b),("way",.ref d),("argument",.int 0),("parameter",.ref A.np)]:J<|S×V)=rW 1 a b d h A.np:=by rw[cM<|by decide+kernel,cM<|by decide+kernel,cM<|by decide+kernel,cM<|by decide+kernel,Oj];rfl
 rw[aE];have v:Lo n _ e _:=t.put (u:=.aE A.run f<|rW 1 a b d h A.np);exists D,v.at_,k.run.fo,(by show 6<1000;decide);have aG:bf "parameter" (.ref j) (rW 1 a b d h A.np)=rW 1 a b d h j:=by unfold rW;rw[cM<|by decide+kernel,cM<|by decide+kernel,cM<|by decide+kernel,cM<|by decide+kernel,cM<|by decide+kernel,Oj]
 rw[aG];have G:=(F.write (u:=.aE A.run f<|rW 1 a b d h A.np) t l).write (u:=.aE A.run f<|rW 1 a b d h j) v l;have x:Lo n _ e _:=v.put (u:=.aE A.run f<|rW 1 a b d h j);refine⟨by simp[sizeLine,Î],λr s=>?_⟩;have H:av (T n e<|.aE A.run f<|rW 1 a b d h j)<|T (T n e<|.aE A.run f<|rW 1 a b d h j) r<|.Y [.ref e]:=aq<|(G.stay x l).sub.free s;have sg:=(aq x.out).trans H;refine z _ _ r ((G.stay x l).made (o:=.Y [.ref e]) s) ?_;rw[Ó fX];exact⟨[e],aN.of af,.cons ⟨f,a,b,d,j,H _ _ af,E.same sg,al.same sg,am.same sg,Y.same sg⟩ .nil⟩
def uZ(d:ó)(Υ:J<|J ef):Prop:=∀r∈Υ,∀u∈r,yq d u
noncomputable def bR (Υ:J<|J ef):M:=(Υ.map L).sum
theorem pC(a b:J<|J ef):bR (a++b)=bR a+bR b:=by unfold bR;simp
def OkK(K:Ζ)(A:Ad)(Ú Ι G:Hp)(mk:O)(d:ó)(on:J Đ)(n c:M)(res:kY)(Q:VK):Prop:=∀l a,res=.ok (l,a)->∀Κ R b Υ,Ex Ú Ι Κ R->av G Κ->k6 K A Ι Κ R mk a d on->fN K A Κ b Υ->Υ.map aU=l->uZ d Υ->
 n<=a->a<=800->L Υ<=a -n->bR Υ<=c*(a -n)->Q (.ref b) R
def OkR(K:Ζ)(A:Ad)(Ú Ι G:Hp)(mk:O)(d:ó)(on:J Đ)(n a c:M)(res:di ł<|e8×M)(Q:VK):Prop:=∀m b,res=.ok (m,b)->∀Κ R e r,Ex Ú Ι Κ R->av G Κ->k6 K A Ι Κ R mk b d on->tZ K A Κ e r->aU r=m->(∀u∈r,yq d u)->
 n<=b->b<=800->L r<=a+c*(b -n)->Q (.ref e) R
def Oh(K:Ζ)(œ:O)(Ú Ι:Hp)(res:di ł Ν)(E:XK):Prop:=∀ı,res=.error ı->∀Ē ο p ξ ù,Ex Ú Ι Ē ο->ο p=B (XL œ p ξ)->ο ξ=B (XD ξ [("reason",nV ı.reason),("place",.ref ù)])->cD K Ē ù ı.place->E (.ref p) (B ξ) ο
def q8{Ú:Hp}{E:XK}{res:di ł Ν}{r:M}{q:ú}{a:O}(h:Oh K œ Ú Ι res E)(e:res=.error ⟨r,q⟩)(s:Ex Ú Ι Ē ο)(d:cD K Ē a q):
  ∀p ξ,ο p=g->ο ξ=g->ξ≠p->E (.ref p) (B ξ) (T (T ο p<|XL œ p ξ) ξ<|XD ξ [("reason",nV r),("place",.ref a)]):=λp ξ f i b=>by
 exact h ⟨r,q⟩ e Ē _ p ξ a (s.more<|(aq f).trans<|aq<|au b▸i) (au (Ϛ b)▸af) af d
def Oh.mono{b:Type}{Ú:Hp}{E:XK}{res:di ł Ν}{a:di ł b}(h:Oh K œ Ú Ι res E)(e:∀ı,a=.error ı->res=.error ı)(s:Ex Ú Ι Ē ο):Oh K œ Ē ο a E:=
 λı d f i j k l s2 m n o=>h ı (e ı d) f i j k l (s.trans s2) m n o
def Oh.U0{b:Type}{Ú:Hp}{E:XK}{res:di ł Ν}{a:di ł b}(h:Oh K œ Ú Ι res E)(e:∀ı,a=.error ı->res=.error ı):Oh K œ Ú Ι a E:=
 λı d f i j k l s2 m n o=>h ı (e ı d) f i j k l s2 m n o
structure uO(d:ó)(θ:J Đ)(c:fL):Prop where
 at_:∃ch,d[c.block]?=B (.chunk ch)/\ch.lines[c.line]?=B (.code c.pieces)
 par:∀n,XS n∈c.pieces->n∈θ
 len:L c.pieces<=200
 ok:∀p∈c.pieces,∃a,MF a p
theorem uO.piece{θ:J Đ}{c:fL}{p:Ť}(h:uO d θ c)(Á:c.pieces[i]?=B p):iI d (Ĕ c i)=B p:=by obtain⟨e,a,b⟩:=h.at_;unfold iI Ĕ;dsimp only;rw[a];dsimp only;rw[b];exact Á
def aal:Sp:=λ_ _ _ _=>Ϡ
inductive vG(K:Ζ)(A:Ad)(œ:O)(ς:M)(vs:J V)(H:Hp)(Q:VK)(E:XK):Prop
 |mk(Ú Ι G mk n d on b a e θ args up way:_)(_:vs=[.ref mk,.ref b,.ref e])(_:Ex Ú Ι G H)(_:k6 K A Ι G H mk n d on)(_:eN d)(_:n<=800)(_:p7 K A G b a)(_:(∀c∈a,uO d θ c))(_:kU K A G e θ args up way)(_:L θ=L args)(_:L way+ς=20)(_:((∃nm,iI d up=B (.use nm args))\/θ=[]))(_:OkK K A Ú Ι G mk d on n (201+ς) (ϩ (Ŋ d on ς way) (fD θ args up way) a n) Q)(_:Oh K œ Ú Ι (ϩ (Ŋ d on ς way) (fD θ args up way) a n) E)
def xm(K:Ζ)(A:Ad)(œ:O):M->Sp
 |0=>aal
 |ς+1=>vG K A œ ς
inductive Rm(K:Ζ)(A:Ad)(œ:O)(ς:M)(vs:J V)(H:Hp)(Q:VK)(E:XK):Prop
 |mk(Ú Ι G mk n d on a nm args b p e f h up way:_)(_:vs=[.ref mk,.ref a,.ref b,.ref e])(_:Ex Ú Ι G H)(_:k6 K A Ι G H mk n d on)(_:eN d)(_:n<=800)(_:ym K A G a nm args)(_:cD K G b p)(_:iI d p=B (.use nm args))(_:kU K A G e f h up way)(_:L way+ς=20)(_:OkK K A Ú Ι G mk d on n (200+ς) (Ŋ d on ς way p nm args n) Q)(_:Oh K œ Ú Ι (Ŋ d on ς way p nm args n) E)
def OB(h:eN d)(on:J Đ){θ:J Đ}(m:JQ d n=B θ):∀c∈jv d on Τ n,uO d θ c:=by
 intro c i;rw[g9]at i;obtain⟨o,p,j⟩:=ŋ.mp i;obtain⟨a,b,q,r⟩:=dB.mp p;rw[jI b]at j;obtain⟨s,t,rfl⟩:=ń.mp j;obtain⟨H,k,e⟩:=gi on a.lines 0 [] s t;rw[ύ]at k;rw[<-k]at e;have l:=bX.mpr ⟨o,b⟩;have f:=(h.chunk a l).1.lines _<|υ e;have u:a.params=θ:=by
  cases v:ř d Τ n with
  |nil=>simp_all
  |cons w I=>
   obtain⟨x,y,z,A,C⟩:=rQ v;rw[m]at C;have:=h.same a l x (bX.mpr ⟨w,y⟩) (by unfold Ō;rw[q,r,z,A];simp);simp_all
 refine⟨⟨a,b,e⟩,λK E=>?_,f.1,λF G=>⟨_,f.2.1 F G⟩⟩;rw[<-u];exact f.2.1 _ E
def AL(h:eN d)(on:J Đ)(n:Đ):∀c∈jv d on U n,uO d [] c:=by intro c i;rw[g9]at i;obtain⟨m,o,j⟩:=ŋ.mp i;obtain⟨a,b,p,v⟩:=dB.mp o;rw[jI b]at j;obtain⟨q,r,rfl⟩:=ń.mp j;obtain⟨w,k,e⟩:=gi on a.lines 0 [] q r;rw[ύ]at k;rw[<-k]at e;have l:=bX.mpr ⟨m,b⟩;have f:=(h.chunk a l).1.lines _<|υ e;refine⟨⟨a,b,e⟩,λx s=>?_,f.1,λt u=>⟨_,f.2.1 t u⟩⟩;rw[<-(h.chunk a l).1.file p];exact f.2.1 _ s
def qw.snoc{b:J ú}{q:ú}{as:J O}{a t:O}(á:ď (cD K G) as b)(í:cD K G a q)(d:gb K G t<|as.map V.ref++[.ref a]):qw K G t<|b++[q]:=
 ⟨as++[a],by rwa [Ý],Paired.rZ á í⟩
section
variable{ς:M}
def KH:aB ["self","use","place","frame","first_part","inner"] ["self","use","place","frame"]<|ay<|FW 8:=by decide+kernel
def C2(x:Wk K η A)(bj:pR P w K η Ξ (rG P w) (5+4*ς) A.bw "follow" ["self","lines","frame"]<|xm K A A.mf ς):pR P w K η Ξ (rG P w) (6+4*ς) A.bw "follow_use" ["self","use","place","frame"]<|Rm K A A.mf ς:=by
 have ak:=x.md;have e:=x.kl;rw[show 6+4*ς=(5+4*ς)+1 by lia];refine x.Ij 11 23 KH<|@λbk bl bm bn bo J cg aP E y bp=>?_;refine bx λaR Y=>?_;obtain⟨au,al,M,N,z,k,m,bq,l,n,f,h,br,ch,ci,cj,i,rfl,Z,aS,aw,bs,bt,F,aT,bu,ck,aU,ab⟩:=bp;have ax:PK (o8 (rG P w) P w K η Ξ ["self","use","place","frame","first_part","inner"] "Maker.follow_use" (ay<|FW 8) bk bl bm bn bo J E) E:=xh λ_ _ _ ad=>ad;obtain⟨cl,cm,cn,co,cp,cq,cr,am⟩:=id aS;obtain⟨cs,bv,ct,aB,cu,cv,cw,cx,bw,cy,cA,r⟩:=id am.doc;obtain⟨cC,aX,s,aZ,a0,a1⟩:=id bt;obtain⟨cD,cE,cF,cG,a2,a3,cH,cI,cJ,a4,a5,a6⟩:=id bu;apply Y;have d:av M J:=Z.sub;have an:=d _ _ aZ;have cK:=F.same d;have a7:∀aC,cW (bI bw) (kT l)=aC->jx J aB (.ref aX) aC:=λaC bz=>bz▸jx.t (d _ _ r.ch) (d _ _ a0);refine⟨_,ah (aJ (fy (pF (fP y) (W (pv 1) D)<|W (W (pv 0) D) D)<|by with_unfolding_all rfl) (ai<|lD (gX x) y D ax (aa az<|aa (pv 2) aj) (hk:=aL)) aD)<|ah (aH 4 KH<|aY aM (W (W (pv 0) D) D) (aY aM (pY (fP y) (W (W (pv 0) D) D) (W (pv 1) D) λ_ _=>D) az λ_ _=>D) λ_ _=>D)<|ah (aJ (aF I1 (aQ ak.a_<|W (pv 1) D) (aQ ak.a_<|W (pv 4) D)<|aK _) (ai<|lD (gX x) y D ax (aa az<|aa (pv 2) aj) (hk:=aL)) aD)<|ah (aJ (aF ee (aQ ak.a_<|W (pv 3) D) (aW ak.CS)<|aK _) (ai<|lD (gX x) y D ax (aa az<|aa (pv 2) aj) (hk:=aL)) aD)<|ah (aH 5 KH<|gR (I_ x) y D (aa (W (pv 4) D)<|aa (W (pv 1) D)<|aa (pv 2)<|aa (cQ Qm (W (pv 3) D)<|mO<|aa (pv 2) aj) aj) (hk:=aL))<|ai<|aA<|bY bj e.bw.cl y (Aj (E:=E) λ_ _ _ ad=>ad) (pv 0) (aa (bY (wR x) e.bw.cl y aG (pv 0) (aa (W (pv 1) D) aj) (hk:=aL))<|aa (pv 5) aj) (hk:=bh),?_⟩
 refine⟨D,an,e.use.fo,D,D,am.om.at_,e.bw.fo,D,D,d _ _ r.ob,e.doc.fo,D,aB,_,D,a7 _ D,?_⟩;have cL:=r.ck.keys.isSome l;refine gC (λbA=>?_) λbA=>?_
 .have bB:l∉b7 Τ k:=λO=>by simp_all
  have ae:Ŋ k m ς i h l n z=.error ⟨1,h⟩:=by unfold Ŋ;rw[CK bB]
  exact⟨_,_,D,xr<|q8 ab ae Z F⟩
 have aE:l∈b7 Τ k:=by simp_all
 obtain⟨a8,bC,bD⟩:=r.ck.find aE;cases aI:ř k Τ l with
 |nil=>exact absurd aI<|v_.mpr aE
 |cons bE cM=>
 refine bx λaR Y=>?_;obtain⟨ag,bF,cN,cO,a9⟩:=rQ aI;obtain⟨cP,bG,bH⟩:=Paired.at2 r.bs bF;obtain⟨a_,rfl,bJ⟩:=bH;obtain⟨cR,cS,t,cT,a',cU,ba,cV⟩:=id bJ;apply Y;refine⟨D,am.om.at_,e.bw.fo,D,D,d _ _ r.ob,e.doc.fo,D,D,am.om.at_,e.bw.fo,D,D,d _ _ r.ob,e.doc.fo,D,D,an,e.use.fo,D,aB,.ref a8,D,a7 _ bC,a8,_,0,nV bE,D,D,aI▸aN.of (d _ _<|r.tc _ bD),bN (j:=0) D,bv,_,_,.ref a_,D,D,av.seq d r.bl,bN bG,?_⟩;refine bx λaR Y=>?_;obtain⟨cX,bK,bL⟩:=id a1;obtain⟨cY,bO,bP⟩:=ba.len;apply Y;refine⟨D,an,e.use.fo,D,s,_,D,.inl<|av.seq d bK,D,d _ _ a',e.part.fo,D,t,_,D,.inl<|av.seq d bO,D,?_⟩;rw[Ε,Ε,bL.length,bP,cz];refine gC (λG=>?_) λG=>?_
 .have G:¬L ag.params=L n:=λO=>by rw[O]at G;simp at G
  have ae:Ŋ k m ς i h l n z=.error ⟨2,h⟩:=by simp_all[Ŋ,à]
  exact⟨_,_,D,xr<|q8 ab ae Z F⟩
 have G:L ag.params=L n:=by lia
 have aO:L a4=L i:=a6.length;refine⟨D,d _ _ a3,e.frame.fo,D,a2,_,D,.inr<|av.x_ d a5,D,?_⟩;rw[Ε,aO,cz];refine gC (λao=>?_) λao=>?_
 .have ao:L i=20:=by lia
  have bQ:ς=0:=fX;subst bQ;have ae:Ŋ k m 0 i h l n z=.error ⟨3,h⟩:=by simp_all[Ŋ,Ó]
  exact⟨_,_,D,xr<|q8 ab ae Z F⟩
 cases ς with
 |zero=>exact absurd (by omega) (λO=>by rw[O]at ao;exact absurd ao bM:L i≠20)
 |succ ς=>
 have bR:Ŋ k m (ς+1) i h l n z=ϩ (Ŋ k m ς<|i++[h]) (fD ag.params n h<|i++[h]) (jv k m Τ l) z:=by rw[Ŋ];rw[a9];dsimp only;rw[Ó λO=>O G];rfl
 rw[bR]at aU ab;have bb:∀u v p,Ex au al u v->av M u->k6 K A al u v N z k m->qw K u p (i++[h])->
   ∀a b,v a=g->v b=g->b≠a->tF (yb A.bw "follow" (xm K A A.mf<|ς+1) [] E (aV 0)<|bg (yb A.bw "code_of_chunk" (QU K A) [] E0 (aV 0)<|bg (i9 K (aV 1) "name") cB)<|bg (aV 5) cB)
    {nx:=λ_ bS=>aP .b_ bS,rt:=aP} [B<|.ref N,B<|.ref bq,B<|.ref f,B<|.ref br,B<|.ref a_,B<|.ref a] (T (T v b<|.own a) a<|.aE A.frame b<|ru t s f p):=by
  intro u v p Q g1 ap bT a b R S X;have aq:=Q.inst (C:=A.frame) (fs:=ru t s f p) R S X;have q:Ex u v (T (T u b<|.own a) a<|.aE A.frame b<|ru t s f p)<|T (T v b<|.own a) a<|.aE A.frame b<|ru t s f p:=(Ex.refl Q.sub).inst R S X;have ar:=ap.ex q;have sg:=q.le;have bc:kU K A (T (T u b<|.own a) a<|.aE A.frame b<|ru t s f p) a ag.params n h<|i++[h]:=⟨b,t,s,f,p,af,(ba.same g1).same sg,(a1.same g1).same sg,(F.same g1).same sg,bT.same sg⟩;generalize T (T u b<|.own a) a (.aE A.frame b<|ru t s f p)=bU at aq ar sg bc q;generalize T (T v b<|.own a) a (.aE A.frame b<|ru t s f p)=cZ at aq ar q;have g2:=g1.trans sg;obtain⟨bd,c0,c1,c2,c3,c4,c5,be⟩:=id ar;refine⟨N,bd,_,D,be.om.at_,D,N,bd,_,D,be.om.at_,D,D,(g2.trans aq.sub) _ _ aZ,e.use.fo,D,au,al,bU,N,z,k,m,aX,l,D,aq,ar,aw,a0.same g2,aE,λbV c6 bW bX g3 bZ b0=>?_⟩;have c7:iI k h=B (.use l n):=aT;refine⟨au,al,bV,N,z,k,m,bW,_,a,ag.params,n,h,i++[h],D,bX,bZ,aw,bs,b0,OB aw m a9,bc.same g3,G,by rw[Ω];show L i+1+ς=20;lia,.inl ⟨l,aT⟩,λb6 b8 b9 b_ b' ca cb cc cd=>?_,ab⟩;exact(show 200+(ς+1)=201+ς by lia)▸aU b6 b8 b9 b_ b' ca cb cc ((g2.trans g3).trans cd)
 refine⟨D,d _ _ a',e.part.fo,D,D,an,e.use.fo,D,D,d _ _ a3,e.frame.fo,D,by simp[sizeLine,Î],λH bf=>?_⟩;have Q:=Z.made (o:=.bO [.ref f]) bf;have I:Ex M J (T M H<|.bO [.ref f])<|T J H<|.bO [.ref f]:=(Ex.refl d).made bf;have ap:=aS.ex I;refine⟨a2,H,_,_,D,D,av.x_ I.same<|av.x_ d a5,gb.of af,bh,by rw[Ε,aO,Î];show L i+1<=_;lia,λce=>?_,λce bi cf=>?_⟩
 .refine⟨_,D,λa b R S X=>bb _ _ H Q I.le ap ?_ a b R S X⟩;rw[(Ŷ (by rw[<-aO];simp_all):i=[])];exact qw.snoc (as:=[]) .nil (F.same I.le)<|gb.of af
 .have q:Ex (T M H<|.bO [.ref f]) (T J H<|.bO [.ref f]) (T (T M H<|.bO [.ref f]) bi<|.bO<|a4.map V.ref++[.ref f]) _:=(Ex.refl Q.sub).made cf;refine⟨_,D,λa b R S X=>bb _ _ bi (Q.trans q) (I.le.trans q.le) (ap.ex q) ?_ a b R S X⟩;exact qw.snoc (Paired.cj (λ_ _ ad=>(ad.same I.le).same q.le) a6) ((F.same I.le).same q.le)<|gb.of af
end
noncomputable def Pd (res:kY) (p:ú):di ł<|e8×M:=res.bind λy=>match y.1 with
 |[]=>.ok ([],y.2)
 |[m]=>.ok (m,y.2)
 |_=>.error ⟨5,p⟩
inductive ML(K:Ζ)(A:Ad)(œ:O)(ς:M)(vs:J V)(H:Hp)(Q:VK)(E:XK):Prop
 |mk(Ú Ι G mk n d on a nm args b p e f h up way:_)(_:vs=[.ref mk,.ref a,.ref b,.ref e])(_:Ex Ú Ι G H)(_:k6 K A Ι G H mk n d on)(_:eN d)(_:n<=800)(_:ym K A G a nm args)(_:cD K G b p)(_:iI d p=B (.use nm args))(_:kU K A G e f h up way)(_:L way+ς=20)(_:OkR K A Ú Ι G mk d on n 0 (200+ς) (Pd (Ŋ d on ς way p nm args n) p) Q)(_:Oh K œ Ú Ι (Pd (Ŋ d on ς way p nm args n) p) E)
section
variable{ς:M}
def Rq:aB ["self","use","place","frame","rows"] ["self","use","place","frame"]<|ay<|FW 7:=by decide+kernel
def Nf(h:Wk K η A)(I:pR P w K η Ξ (rG P w) (6+4*ς) A.bw "follow_use" ["self","use","place","frame"]<|Rm K A A.mf ς):pR P w K η Ξ (rG P w) (7+4*ς) A.bw "follow_use_in_row" ["self","use","place","frame"]<|ML K A A.mf ς:=by
 rw[show 7+4*ς=(6+4*ς)+1 by lia];refine h.Ij 11 24 Rq<|@λaO aP aR aS aT aV aW aX E t J=>?_;obtain⟨L,M,N,u,O,Q,R,S,V,W,X,Y,Z,ab,ad,ae,ag,rfl,ak,v,al,am,n,x,an,ao,ap,y,z⟩:=J;obtain⟨aq,aZ,a0,a1,a2,a3,a4,ar⟩:=id v;refine⟨_,ah (aH 4 Rq<|bY I h.kl.bw.cl t (Aj (E:=E) λ_ _ _ o=>o) (pv 0) (aa (pv 1)<|aa (pv 2)<|aa (pv 3) aj) (hk:=bh))<|ah (aJ (aF kg (aQ h.md.a_<|pv 4) az<|aK _) (ai<|lD (gX h) t D (xh λ_ _ _ o=>o) (aa az<|aa (pv 2) aj) (hk:=aL)) aD)<|ah (aJ (aF ee (aQ h.md.a_<|pv 4) az<|aK _) (ai<|aA<|aI aj) aD)<|ai<|aA<|aY aM (pv 4) az λ_ _=>D,?_⟩
 refine⟨u,aq,_,D,ar.om.at_,D,L,M,N,u,O,Q,R,S,V,W,X,Y,Z,ab,ad,ae,ag,D,ak,v,al,am,n,x,an,ao,ap,λa5 C p q r l au k g1 F aw d ax G H a6 a7=>?_,z.U0 (λa8 ay=>by rw[ay];rfl)⟩;obtain⟨a9,aB,f⟩:=id aw;have e:=f.length;have m:=av.seq k.sub aB;exists l,_,D,.inl m;rw[Ε,e]
 match au,d,f,e with
 |[],d,f,e=>
  refine dJ ⟨l,_,D,.inl m,D,?_⟩;rw[Ε,e];refine bS ⟨Ò _,λa aC=>?_⟩;have s:Ex q r (T q a<|.Y [])<|T r a<|.Y []:=(Ex.refl k.sub).made aC;refine y [] C (by rw[p,<-d];rfl) _ _ a [] (k.trans s) (g1.trans s.le) (F.ex s) ⟨[],aN.of af,.nil⟩ D (λa_ n=>(nomatch n)) G H<|Ò _
 |[a],d,f,e=>
  obtain⟨b,aE,aG⟩:=Paired.at2 f (i:=0) (b:=a) D;refine dJ ⟨l,_,D,.inl m,D,?_⟩;rw[Ε,e];refine dJ ⟨l,_,_,.ref b,D,D,m,bN (j:=0) (by rw[Ë,aE];rfl),?_⟩;refine y (aU a) C (by rw[p,<-d];rfl) q r b a k g1 F aG D (ax a Ö) G H ?_
  grind[bR]
 |a'::ba::bb,d,f,e=>
  show if _ then _ else _
  rw[ő xV];refine bS ⟨_,_,D,xr<|q8 z ?_ k (x.same g1)⟩;rw[p,<-d];rfl
theorem Paired.take{Ν a:Type}{b:Ν->a->Prop}:∀{l:J Ν} {m:J a},ď b l m->∀n,ď b (l.take n) (m.take n)
 |_,_,.nil,n=>by rw[Gk,Gk];exact .nil
 |_,_,.cons d e,0=>.nil
 |_,_,.cons d e,n+1=>.cons d<|Paired.take e n
theorem Paired.drop{Ν b:Type}{d:Ν->b->Prop}:∀{l:J Ν} {m:J b},ď d l m->∀n,ď d (l.drop n) (m.drop n)
 |_,_,.nil,n=>by rw[Vl,Vl];exact .nil
 |_,_,.cons e a,0=>.cons e a
 |_,_,.cons e a,n+1=>Paired.drop a n
def yd{θ:J Ť}{a:GB}(h:oG θ=B a):(∃n args,θ=[.use n args]/\a=⟨[],0,n,args⟩)\/∃t n args,θ=[.lit t,.use n args]/\a=⟨t,1,n,args⟩:=by
 rcases θ with _|⟨_|_|_,_|⟨_|_|_,_|_⟩⟩<;>try cases h
 .have h:(if _ then B _ else g)=B a:=h;split at h
  .cases h;exact .inr ⟨_,_,_,D,D⟩
  .cases h
 exact .inl ⟨_,_,D,D⟩
def t6{b u:ef}(h:u∈b6 b r):u=b\/u∈r:=by unfold b6 at h;simp_all
def C5(b:ef)(r:J ef):(L<|b6 b r)<=L r+1:=by
 unfold b6;split
 .simp
 simp[Ñ,Õ]
theorem rM(b:ef):∀Υ:J<|J ef,bR (Υ.map<|b6 b)<=bR Υ+L Υ
 |[]=>Õ _
 |a::Υ=>by have f:=rM b Υ;have h:=C5 b a;have d:bR ((a::Υ).map<|b6 b)=(L<|b6 b a)+bR (Υ.map<|b6 b):=rfl;have e:bR (a::Υ)=L a+bR Υ:=rfl;rw[d,e,Ñ];lia
def zx(x o:ef)(Υ:J<|J ef):bR (gS x o Υ)<=bR Υ+L Υ:=by
 grind[gS,rM,bR,pC,Ĩ,Ω]
theorem Bb(x o:ef)(Υ:J<|J ef):(L<|gS x o Υ)=L Υ:=by unfold gS;rw[Ω,Ε,Ε,<-Ω,Ĩ]
def Di{x o:ef}(Ο:yq d x)(j:yq d o)(h:uZ d Υ):uZ d<|gS x o Υ:=by
 intro k i e f;rcases î.mp i with z|z
 .obtain⟨a,b,rfl⟩:=ń.mp z;rcases t6 f with q|q
  .rwa [q]
  .exact h a (LK b) e q
 .obtain⟨a,b,rfl⟩:=ń.mp z;rcases t6 f with q|q
  .rwa [q]
  .exact h a (LL b) e q
def Bf(h:r∈Υ):L r<=bR Υ:=by obtain⟨d,a,rfl⟩:=List.append_of_mem h;have b:bR (r::a)=L r+bR a:=rfl;rw[pC,b];lia
inductive GG(K:Ζ)(A:Ad)(œ:O)(ς:M)(vs:J V)(H:Hp)(Q:VK)(E:XK):Prop
 |mk (Ú Ι G mk n d on b c e θ args up way a:_) (_:vs=[.ref mk,.ref b,.ref e]) (_:Ex Ú Ι G H) (_:k6 K A Ι G H mk n d on) (_:eN d) (_:n<=800) (_:rF K A G b c) (_:uO d θ c) (_:oG c.pieces=B a) (_:kU K A G e θ args up way) (_:L way+ς=20) (_:OkK K A Ú Ι G mk d on n (201+ς) ((Ŋ d on ς way (Ĕ c a.piece) a.name a.args n).map λx=>(ϯ (fD θ args up way) c a x.1,x.2)) Q) (_:Oh K œ Ú Ι ((Ŋ d on ς way (Ĕ c a.piece) a.name a.args n).map λx=>(ϯ (fD θ args up way) c a x.1,x.2)) E)
def uR:aB ["self","line","frame","last","place","rows","blanks","first","other"] ["self","line","frame"]<|ay<|FW 5:=by decide+kernel
def za(m:Wk K η A)(bX:pR P w K η Ξ (rG P w) (6+4*ς) A.bw "follow_use" ["self","use","place","frame"]<|Rm K A A.mf ς):pR P w K η Ξ (rG P w) (7+4*ς) A.bw "follow_alone" ["self","line","frame"]<|GG K A A.mf ς:=by
 have bb:=m.np.2;have t:=m.kl;rw[show 7+4*ς=(6+4*ς)+1 by lia];refine m.Ij 11 20 uR λay cP cR E z b0=>?_;refine bx λaB C=>?_;obtain⟨b6,b7,ad,bc,aC,bd,be,ae,a,b8,aE,aI,aO,q,b,rfl,bf,bg,b9,b_,b',aP,bi,bj,ca,bk,cb⟩:=b0;obtain⟨ag,aS,F,cc,aT,aU⟩:=id b';obtain⟨cS,cT,cU,cV,h,bl,cW,cX,cY,bm⟩:=id bj;obtain⟨cZ,c0,c1,c2,c3,c4,c5,c6⟩:=id bg;have S:=bf.sub;have bn:=aU.length;have cd:a.pieces[b.piece]?=B (.use b.name b.args)/\(((L<|cc.map V.ref):M):Z) -1=((b.piece:M):Z):=by
  rcases yd bi with⟨N,aV,n,aX⟩|⟨r,N,aV,n,aX⟩
  .rw[Ε,bn,n,aX];exact⟨D,D⟩
  .rw[Ε,bn,n,aX];exact⟨D,D⟩
 obtain⟨bo,ce⟩:=cd;obtain⟨bp,cf,cg⟩:=Paired.at2 aU bo;apply C;refine⟨_,ah (aH 3 uR<|cQ J3 (aQ m.md.a_<|W (pv 1) D) az)<|ah (aH 4 uR<|bY (nS m) t.live.cl z aG (pv 1) (aa (pv 3) aj) (hk:=aL))<|ah (aH 5 uR<|bY bX t.bw.cl z (Aj (E:=E) λ_ _ _ d=>d) (pv 0) (aa (aY aM (W (pv 1) D) (pv 3) λ_ _=>D)<|aa (pv 4)<|aa (pv 2) aj) (hk:=bh))<|ah (aJ (aF ee (pv 3) az<|aK _) (ai<|aA<|pv 5) aD)<|ah (aH 6 uR<|W (aY aM (W (pv 1) D) az λ_ _=>D) D)<|ah (aH 7 uR<|gR (FQ m) z D (aa (aW m.md.l6)<|aa (pv 6)<|aa (bY (nS m) t.live.cl z aG (pv 1) (aa az aj) (hk:=aL))<|aa (W (pv 2) D) aj) (hk:=aL))<|ah (aH 8 uR<|gR (FQ m) z D (aa (aW m.md.NT)<|aa (pv 6)<|aa (pv 4)<|aa (W (pv 2) D) aj) (hk:=aL))<|ai<|aA<|cQ gB (aR (x8 m) z D aG (aa (bF bZ (pv 5) dz<|bD az)<|aa (pv 7) aj) (hk:=aL))<|aR (x8 m) z D aG (aa (bF bZ (pv 5) (bD az) dz)<|aa (pv 8) aj) (hk:=aL),?_⟩
 refine⟨D,S _ _ F,t.live.fo,D,aS,_,D,.inl<|av.seq S aT,?_⟩;dsimp only[tC,E8];rw[ce];refine⟨ae,ag,_,D,S _ _ F,D,ae,ag,_,_,_,b.piece,D,S _ _ F,λi ch=>?_⟩;have n:Ex ad ay (T ad i<|.bO<|wG ⟨a.block,a.line,b.piece⟩)<|T ay i<|.bO<|wG ⟨a.block,a.line,b.piece⟩:=(Ex.refl S).made ch;have ak:=bf.trans n;have al:=bg.ex n;have aZ:cD K (T ad i<|.bO<|wG ⟨a.block,a.line,b.piece⟩) i<|Ĕ a b.piece:=gb.of af;generalize T ad i (.bO<|wG ⟨a.block,a.line,b.piece⟩)=ci at n ak al aZ;generalize T ay i (.bO<|wG ⟨a.block,a.line,b.piece⟩)=c7 at n ak al;obtain⟨cj,c8,c9,c_,c',da,db,ck⟩:=id al;have bq:=n.le.trans ak.sub;refine⟨bc,cj,_,D,ck.om.at_,D,D,bq _ _ F,t.live.fo,D,aS,_,_,.ref bp,D,D,av.seq bq aT,bN (by rw[Ë,cf];rfl),b6,b7,ci,bc,aC,bd,be,bp,b.name,b.args,i,_,b8,aE,aI,aO,q,D,ak,al,b9,b_,cg.same n.le,aZ,aP.piece bo,bj.same n.le,ca,λcl N cm X am a0 u an g2 bs bt bu a1 bv bw cn co=>?_,cb.U0 (λdc cp=>by rw[cp];rfl)⟩;have bz:((Ŋ bd be ς q (Ĕ a b.piece) b.name b.args aC).map λbA=>(ϯ (fD aE aI aO q) a b bA.1,bA.2))=.ok (ϯ (fD aE aI aO q) a b cl,N):=by rw[cm];rfl
 have ao:=n.le.trans g2;have O:=ao.trans an.sub;exists D;rw[cz];rcases yd bi with⟨cq,aV,bB,Y⟩|⟨r,cq,aV,bB,Y⟩
 .rw[(by rw[Y]:b.piece=0)];refine bS<|bk _ N bz X am a0 u an ao bs bt ?_ a1 bv bw cn (Ć co<|M3 _ bh);rw[CD<|by rw[Y],bu]
 .rw[(by rw[Y]:b.piece=1)];refine dJ ?_;have a2:a.pieces[0]?=B (.lit r):=by rw[bB];rfl
  refine bx λaB C=>?_;obtain⟨cr,cs,ct⟩:=Paired.at2 aU a2;apply C;refine bx λaB C=>?_;obtain⟨dd,sg,cu,bC⟩:=id ct;obtain⟨de,bE⟩:=aP.ok (.lit r)<|υ a2;apply C;refine⟨D,O _ _ F,t.live.fo,D,aS,_,_,.ref cr,D,D,av.seq O aT,bN (j:=0) (by rw[Ë,cs];rfl),D,O _ _ cu,t.lit.fo,D,?_⟩;refine⟨ae,ag,_,D,O _ _ F,D,ae,ag,_,_,_,0,D,O _ _ F,λk bG=>⟨D,aq bG _ _<|O _ _ bl,t.frame.fo,D,_,D,λe l bH bI cv=>?_⟩⟩;have Q:Ex X am (T X k<|.bO<|wG ⟨a.block,a.line,0⟩)<|T am k<|.bO<|wG ⟨a.block,a.line,0⟩:=(Ex.refl an.sub).made bG;have bJ:cD K (T X k<|.bO<|wG ⟨a.block,a.line,0⟩) k<|Ĕ a 0:=gb.of af;generalize T X k (.bO<|wG ⟨a.block,a.line,0⟩)=ap at Q bJ;generalize T am k (.bO<|wG ⟨a.block,a.line,0⟩)=ar at Q bH bI;have s:Ex ap ar (T (T ap l<|.own e) e<|.aE A.run l<|rW 0 sg k h 0 A.np)<|T (T ar l<|.own e) e<|.aE A.run l<|rW 0 sg k h 0 A.np:=(Ex.refl Q.sub).inst bH bI cv;have a3:=ao.trans Q.le;have bK:o7 K A (T (T ap l<|.own e) e<|.aE A.run l<|rW 0 sg k h 0 A.np) e<|xK q (Ĕ a 0) r:=⟨l,sg,k,h,A.np,af,(bC.same a3).same s.le,bJ.same s.le,(bm.same a3).same s.le,bb _⟩;show qM _ _ _ _ (T (T ar l<|.own e) e<|.aE A.run l<|rW 0 sg k h 0 A.np);generalize T (T ap l<|.own e) e (.aE A.run l<|rW 0 sg k h 0 A.np)=au at s bK;generalize T (T ar l<|.own e) e (.aE A.run l<|rW 0 sg k h 0 A.np)=a4 at s;have a5:=a3.trans s.le;refine⟨D,(a5.trans s.sub) _ _ bl,t.frame.fo,D,_,D,λo p cw cx cy=>?_⟩;have x:Ex au a4 (T (T au p<|.own o) o<|.aE A.run p [("kind",.int 2),("signs",.ref sg),("place",.ref i),("way",.ref h),("argument",.int 0),("parameter",.ref A.np)])<|T (T a4 p<|.own o) o<|.aE A.run p [("kind",.int 2),("signs",.ref sg),("place",.ref i),("way",.ref h),("argument",.int 0),("parameter",.ref A.np)]:=(Ex.refl s.sub).inst cw cx cy;have bL:o7 K A (T (T au p<|.own o) o<|.aE A.run p [("kind",.int 2),("signs",.ref sg),("place",.ref i),("way",.ref h),("argument",.int 0),("parameter",.ref A.np)]) o<|vV q (Ĕ a b.piece) r:=⟨p,sg,i,h,A.np,af,(bC.same a5).same x.le,(((aZ.same g2).same Q.le).same s.le).same x.le,(bm.same a5).same x.le,bb _⟩;have bM:=bK.same x.le;generalize T (T au p<|.own o) o (.aE A.run p [("kind",.int 2),("signs",.ref sg),("place",.ref i),("way",.ref h),("argument",.int 0),("parameter",.ref A.np)])=aw at x bM bL;generalize T (T a4 p<|.own o) o (.aE A.run p [("kind",.int 2),("signs",.ref sg),("place",.ref i),("way",.ref h),("argument",.int 0),("parameter",.ref A.np)])=a6 at x;have a7:=(Q.trans s).trans x;refine bx λaB C=>?_;obtain⟨f,bO,a8⟩:=bt.same a7.le;apply C;have df:=a8.length;have dg:L u<=800:=aL;have bP:∀y∈u,L y<=1000000:=λy G=>by have cA:=Bf G;have dh:(200+ς)*(N -aC)<=220*800:=EX aL aL;lia
  refine⟨a0,_,D,av.seq a7.sub bO,λH cB=>?_⟩;have v:Ex aw a6 (T aw H<|.Y<|br (f.map V.ref) g<|B 1)<|T a6 H<|.Y<|br (f.map V.ref) g<|B 1:=(Ex.refl x.sub).made cB;have bQ:fN K A (T aw H<|.Y<|br (f.map V.ref) g<|B 1) H<|u.take 1:=⟨f.take 1,aN.of<|af.trans<|Ğ (λd=>B<|HO.Y d) (by have:=uK (f.map V.ref) 1;simp_all),Paired.take (Paired.cj (λ_ _ d=>d.same v.le) a8) 1⟩;generalize T aw H (.Y<|br (f.map V.ref) g<|B 1)=cC at v bQ;generalize T a6 H (.Y<|br (f.map V.ref) g<|B 1)=di at v;refine⟨cC,H,u.take 1,e,_,D,v.sub,bQ,bM.same v.le,by rw[ŀ];lia,λy G=>bP y<|LK G,λax a9 cE R cF=>?_⟩;refine⟨a0,_,D,av.seq ((v.trans R).le.trans R.sub) bO,λI cG=>?_⟩;have J:Ex ax a9 (T ax I<|.Y<|br (f.map V.ref) (B 1) g)<|T a9 I<|.Y<|br (f.map V.ref) (B 1) g:=(Ex.refl R.sub).made cG;have bR:fN K A (T ax I<|.Y<|br (f.map V.ref) (B 1) g) I<|u.drop 1:=⟨f.drop 1,aN.of<|af.trans<|Ğ (λd=>B<|HO.Y d) (by have:=o9 (f.map V.ref) 1;rw[<-Ge]at this;exact this),Paired.drop (Paired.cj (λ_ _ d=>(d.same (v.trans R).le).same J.le) a8) 1⟩;generalize T ax I (.Y<|br (f.map V.ref) (B 1) g)=cH at J bR;generalize T a9 I (.Y<|br (f.map V.ref) (B 1) g)=dj at J;refine⟨cH,I,u.drop 1,o,_,D,J.sub,bR,(bL.same (v.trans R).le).same J.le,by rw[Ϸ];lia,λy G=>bP y<|LL G,λbT bU cI ab cJ=>?_⟩;obtain⟨b1,cK,bV⟩:=id<|(cF.same J.le).same ab.le;obtain⟨b2,cL,bW⟩:=id cJ;have dk:L b1<=1:=by have:=bV.length;rw[Ε,ŀ]at this;lia
  have dl:L b2<=800:=by have:=bW.length;grind
  refine⟨cE,cI,_,_,D,D,av.seq ab.sub cK,av.seq ab.sub cL,by rw[Ε,Ε,Î];lia,λa_ cM=>?_⟩;have a':Ex bT bU (T bT a_<|.Y<|b1.map V.ref++b2.map V.ref)<|T bU a_<|.Y<|b1.map V.ref++b2.map V.ref:=(Ex.refl ab.sub).made cM;have ba:=((((a7.trans v).trans R).trans J).trans ab).trans a';refine bk _ N bz _ _ a_ (gS (xK q (Ĕ a 0) r) (vV q (Ĕ a b.piece) r) u) (an.trans ba) (ao.trans ba.le) (bs.ex ba) ⟨b1++b2,aN.of<|by simp[Ý,af],?_⟩ ?_ ?_ bv bw (by rwa [Bb]) ?_
  .exact Paired.app (Paired.cj (λ_ _ d=>d.same a'.le) bV)<|Paired.cj (λ_ _ d=>d.same a'.le) bW
  .rw[<-bu,GZ λy G cN cO=>(a1 y G cN cO).full,(by rw[Y]:b.blanks=r)];rfl
  .refine Di ⟨bE.1,(show 0<=2 by decide),λ_=>⟨aP.piece a2,D⟩,λd=>by cases d⟩ ⟨bE.1,(show 2<=2 by decide),(λd=>by cases d),λd=>by cases d⟩ a1
  .have cA:=zx (xK q (Ĕ a 0) r) (vV q (Ĕ a b.piece) r) u;lia
end
section
variable{yf:Hp}{mk y:O}{n:M}
theorem k6.base(h:k6 K A yf G H mk n d on)(s:av Ι yf):k6 K A Ι G H mk n d on:=by obtain⟨b,e,f,i,j,k,l,a⟩:=h;exact⟨b,e,f,i,j,k,l,{a with zm:=s.free a.zm,zc:=s.free a.zc}⟩
theorem k6.other{o:HO}(h:k6 K A Ι G H mk n d on)(b:H y=B (.Y N)):k6 K A Ι G (T H y o) mk n d on:=let⟨e,f,i,j,k,l,m,a⟩:=h
 ⟨e,f,i,j,k,l,m,{a with om:=a.om.other<|bB a.om.at_ b (by intro p;cases p),oc:=a.oc.other<|bB a.oc.at_ b bh}⟩
def k6.stay(h:k6 K A Ι G H mk n d on)(lo:Lo G H y<|.Y N):k6 K A Ι (T G y<|.Y N) H mk n d on:=let⟨b,e,f,i,j,k,l,a⟩:=h
 have sg:=aq lo.out
 ⟨b,e,f,i,j,k,l,⟨a.om.apart<|bB a.om.at_ lo.at_ (by intro m;cases m),a.oc.apart<|bB a.oc.at_ lo.at_ bh,a.zm,a.zc,a.doc.same sg,sg _ _ a.vv,a.kv,a.kc,a.nd,a.sb,λo p h=>let⟨q,r,s⟩:=a.ch o p h;⟨q,r,s.same sg⟩⟩⟩
end
theorem DW{n:Đ}:∀{θ:J Đ},n∈θ->∃i:M,θ[i]?=B n/\∀m,m<i->θ[m]?≠B n
 |b::θ,h=>by
  by_cases a:b=n
  .exact⟨0,by rw[<-a];rfl,λm d=>fX⟩
  .obtain⟨i,e,f⟩:=DW (xV:n∈θ);refine⟨i+1,by simpa using e,λm d=>?_⟩;cases m with
   |zero=>simpa using a
   |succ m=>simpa using f m fX
theorem CP(use_:u7)(env:GA)(p:ú)(x:e8)(n:M)(b:Đ)(as:J ê):kP use_ env p (.ok (x,n)) (.use b as)=(Pd (use_ p b as n) p).map λd=>(x++d.1,d.2):=by
 show((use_ p b as n).bind λa=>match a.1 with|[]=>tD (x,a.2)|[e]=>.ok (x++e,a.2)|_=>.error ⟨5,p⟩)=_;cases use_ p b as n with
 |error i=>rfl
 |ok a=>
  obtain⟨h,f⟩:=a
  match h with
  |[]=>show tD (x,f)=tD (x++[],f);simp
  |[e]=>rfl
  |_::_::_=>rfl
inductive Iv(K:Ζ)(A:Ad)(œ:O)(ς:M)(vs:J V)(H:Hp)(Q:VK)(E:XK):Prop
 |mk(Ú Ι G mk n d on a c b θ args up way:_)(_:vs=[.ref mk,.ref a,.ref b])(_:Ex Ú Ι G H)(_:k6 K A Ι G H mk n d on)(_:eN d)(_:n<=800)(_:rF K A G a c)(_:uO d θ c)(_:kU K A G b θ args up way)(_:L θ=L args)(_:L way+ς=20)(_:((∃nm,iI d up=B (.use nm args))\/θ=[]))(_:OkR K A Ú Ι G mk d on n 200 (200+ς) (joined (Ŋ d on ς way) (fD θ args up way) c c.pieces.zipIdx n) Q)(_:Oh K œ Ú Ι (joined (Ŋ d on ς way) (fD θ args up way) c c.pieces.zipIdx n) E)
theorem Pb{l:J Ν}{x:Ν}(h:l[i]?=B x):l.zipIdx.take (i+1)=l.zipIdx.take i++[(x,i)]:=by rw[Ĝ,(by rw[tS,h];simp:l.zipIdx[i]?=some (x,i))];rfl
section
variable{ς:M}
def AJ:aB ["self","line","frame","row","number","piece","place"] ["self","line","frame"]<|ay<|FW 6:=by decide+kernel
def xF(J:Wk K η A)(bV:pR P w K η Ξ (rG P w) (7+4*ς) A.bw "follow_use_in_row" ["self","use","place","frame"]<|ML K A A.mf ς):pR P w K η Ξ (rG P w) (8+4*ς) A.bw "follow_joined" ["self","line","frame"]<|Iv K A A.mf ς:=by
 have bW:∀an,gb K an A.np<|wG sU:=J.np.2;have aE:=J.md;have t:=J.kl;rw[show 8+4*ς=(7+4*ς)+1 by lia];refine J.Ij 11 22 AJ λan cK cL E aF a7=>?_;refine bx λO k=>?_;obtain⟨bX,aK,Q,R,o,v,C,a8,a,a9,r,f,h,way,rfl,aL,bZ,b0,b6,b7,ao,a_,bw,b8,b9,b_,b'⟩:=a7;obtain⟨bz,ca,a',ba,bA,bD⟩:=id b7;obtain⟨cM,cN,cO,cP,Z,cb,cQ,cR,cT,cc⟩:=id a_;refine k ?_;have cd:L ba=L a.pieces:=bD.length;have cU:=ao.len;refine⟨_,ah (aH 3 AJ<|aI aj)<|ah (cS Ar D (sQ D aE.jn<|aa (W (pv 1) D) aj) (xy D<|gk (bC 4 AJ)<|gk (bC 5 AJ) sW)<|ah (aH 6 AJ<|bY (nS J) t.live.cl aF aG (pv 1) (aa (pv 4) aj) (hk:=by lia))<|ai<|aJ (bQ<|f_ aE.bH (pv 5) t.use.mg) (ai<|aT<|kF (pv 3)<|bY bV t.bw.cl aF (Aj (E:=E) λ_ _ _ z=>z) (pv 0) (aa (pv 5)<|aa (pv 6)<|aa (pv 2) aj) (hk:=by simp))<|ai<|aJ (bQ<|f_ aE.bH (pv 5) t.par.mg) (ai<|aT<|kF (pv 3)<|aR (wQ J) aF D aG (aa (W (pv 5) D)<|aa (pv 6)<|aa (pv 2) aj) (hk:=by lia))<|ai<|aT<|ek (pv 3)<|gR (FQ J) aF D (aa (aW aE.l6)<|aa (W (pv 5) D)<|aa (pv 6)<|aa (W (pv 2) D) aj) (hk:=by lia))<|ai<|aA<|pv 3,?_⟩
 refine⟨Ò _,λs bb=>?_⟩;have bE:Ex Q an Q<|T an s<|.Y []:=Ex.heap aL.sub<|aq bb;have bF:=aL.trans bE;have aM:aK s=g:=aL.same.free bb;have bG:av Q<|T an s<|.Y []:=bF.sub;refine⟨D,bG _ _ a',t.live.fo,D,ca,_,D,av.seq bG bA,?_⟩;refine rH (K:=K) (N:=ba.map V.ref) (i:=4) (j:=5) (λi aO aP=>∃d b x e u bc bd,Ex bX aK d aP/\av Q d/\k6 K A aK d aP R b v C/\Lo d aP s (.Y<|x.map V.ref)/\ď (o7 K A d) x e/\joined (Ŋ v C ς way) (fD r f h way) a (a.pieces.zipIdx.take i) o=.ok (aU e,b)/\(∀u∈e,yq v u)/\ o<=b/\b<=800/\L e<=i+(200+ς)*(b -o)/\aO=[B<|.ref R,B<|.ref a8,B<|.ref a9,B<|.ref s,u,bc,bd]) ?_ ?_ ?_ ?_
 .exact⟨Q,o,[],[],g,g,g,bF,av.refl _,bZ.ex bE,Lo.new aL.sub bb,.nil,D,λu ab=>(nomatch ab),Õ _,b6,Ò _,D⟩
 .rintro i aO aP _ ⟨d,_,_,_,_,_,_,ap,sg,_⟩;exact av.seq (sg.trans ap.sub) bA
 .refineλi q aO aQ bH aS be=>bx λO k=>?_;obtain⟨d,b,x,e,u,bc,bd,aV,g1,bf,lo1,aX,ad,aY,ar,au,bI,rfl⟩:=be;refine k λce=>?_;rw[Ë]at aS;refine bx λO k=>?_;obtain⟨bg,cf,rfl⟩:=Ü.mp aS;obtain⟨bJ,ae,aZ⟩:=Paired.at_ bD cf;refine k ?_;have cV:i<L a.pieces:=(Ð.mp ae).1;have bh:∀aw,joined (Ŋ v C ς way) (fD r f h way) a (a.pieces.zipIdx.take<|i+1) aw=kP (Ŋ v C ς way) (fD r f h way) (Ĕ a i) (joined (Ŋ v C ς way) (fD r f h way) a (a.pieces.zipIdx.take i) aw) bJ:=λaw=>by rw[Pb ae,Hh]
  have cg:∀ag,joined (Ŋ v C ς way) (fD r f h way) a (a.pieces.zipIdx.take<|i+1) o=.error ag->joined (Ŋ v C ς way) (fD r f h way) a a.pieces.zipIdx o=.error ag:=λag a7=>by have:=Kp (Ŋ v C ς way) (fD r f h way) a (a.pieces.zipIdx.take<|i+1) (a.pieces.zipIdx.drop<|i+1) o ag a7;rw[Ĩ]at this;exact this
  have cW:(200+ς)*(b -o)<=220*800:=EX (by lia) (by lia);have cX:L x=L e:=aX.length;have a0:Ex d aQ d<|T aQ bH<|.bO [.int (i:M),.ref bg]:=Ex.heap aV.sub<|aq ce;have a1:=aV.trans a0;have bK:=bf.ex a0;have bL:=lo1.ex a0;generalize T aQ bH (.bO [.int (i:M),.ref bg])=a2 at a0 a1 bK bL;have bM:av Q a2:=g1.trans a1.sub;refine⟨a8,bz,_,D,bM _ _ a',D,a8,bz,_,_,_,i,D,bM _ _ a',λl ch=>?_⟩;have S:Ex d a2 (T d l<|.bO<|wG ⟨a.block,a.line,i⟩)<|T a2 l<|.bO<|wG ⟨a.block,a.line,i⟩:=(Ex.refl a1.sub).made ch;have a3:cD K (T d l<|.bO<|wG ⟨a.block,a.line,i⟩) l<|Ĕ a i:=gb.of af;have I:=a1.trans S;have ax:=bK.ex S;have F:=bL.ex S;have a4:ď (o7 K A<|T d l<|.bO<|wG ⟨a.block,a.line,i⟩) x e:=Paired.cj (λ_ _ z=>z.same S.le) aX;have g3:=g1.trans S.le;generalize T d l (.bO<|wG ⟨a.block,a.line,i⟩)=X at S a3 I ax F a4 g3;generalize T a2 l (.bO<|wG ⟨a.block,a.line,i⟩)=ak at S I ax F;have a5:av Q ak:=g3.trans I.sub;have bi:=aZ.same a5;refine bx λO k=>?_;obtain⟨ci,cj,ck⟩:=t.rE bi;refine k ?_;refine⟨_,_,ci,_,D,cj,ck,?_⟩;cases bJ with
  |use al bN=>
   refine bS ?_;obtain⟨bO,cl,cm,a6,cn,co,cp,ay⟩:=id ax;obtain⟨bj,cq⟩:=ay.less I;have cr:av aK<|Tf.less ak R a6:=bj.same;have cs:s≠R:=bB F.at_ ay.om.at_ (by intro z;cases z);have ct:s≠a6:=bB F.at_ ay.oc.at_ (by lia);have bk:=bh o;rw[ad,CP (Ŋ v C ς way) (fD r f h way) (Ĕ a i) (aU e) b al bN]at bk;refine⟨.inl ⟨D,_,aN.of F.at_⟩,R,bO,_,D,ay.om.at_,D,X,Tf.less ak R a6,X,R,b,v,C,bg,al,bN,l,_,a9,r,f,h,way,D,cq,⟨bO,cl,cm,a6,cn,co,cp,ay.low⟩,b0,au,aZ.same g3,a3,ao.piece ae,a_.same g3,b8,λaw az cu aB bP bl bR G g4 cv bm cw cY cx cy cZ=>?_,b'.mono (λag cz=>cg ag (by rw[bk,cz];rfl)) bj⟩;have n:=(F.less cs ct).ex G;refine bx λO k=>?_;obtain⟨aC,bn,am⟩:=id bm;refine k ?_;have cA:L aC=L bR:=am.length;have c0:(200+ς)*(az -b)<=220*800:=EX (by lia) (by lia);refine⟨s,bl,_,_,D,D,n.at_,.inl<|av.seq G.sub bn,by rw[Ε,Ε,Î];lia,?_⟩;refine⟨aB,az,x++aC,e++bR,_,_,_,(bj.trans G).write n aM,g3.trans g4,(cv.base cr).other n.at_,?_,Paired.app (Paired.cj (λ_ _ z=>z.same g4) a4) am,?_,λu ab=>?_,Ć ar cx,cy,?_,D⟩
   .rw[Ý];exact n.put
   .rw[bk,cu];show tD (aU e++aw,az)=_;rw[rm,cw]
   .grind
   .have c1:(200+ς)*(az -o)=(200+ς)*(b -o)+(200+ς)*(az -b):=by rw[<-M4];congr 1;lia
    rw[Ω];lia
  |param al=>
   refine dJ ?_;refine bx λO k=>?_;obtain⟨bo,bp,bq⟩:=t.Bk bi;refine k ?_;refine⟨_,_,bo,_,D,bp,bq,bS ?_⟩;refine bx λO k=>?_;obtain⟨cB,cC,br,bs⟩:=id aZ;obtain⟨Y,aD,bT⟩:=DW<|ao.par al<|υ ae;refine k ?_;have cE:Y<L f:=bw▸(Ð.mp aD).1;obtain⟨m,bt⟩:∃m,f[Y]?=B m:=⟨f[Y],ą cE⟩;refine⟨.inl ⟨D,_,aN.of F.at_⟩,D,a5 _ _ br,t.par.fo,D,X,cC,al,l,_,a9,r,f,h,way,Y,m,D,I.sub,bs.same g3,a3,a_.same g3,aD,bT,bt,λaB bP bl G bm=>?_⟩;have n:=F.ex G;obtain⟨aC,bn,am⟩:=id bm;have cA:L aC<=1:=by
    have:=am.length;split at this
    .rw[this];exact Ò _
    .rw[this];exact Õ _
   have cF:aU (if m.isEmpty=U then[] else[AG way h Y (Ĕ a i) m])=expand (AG way h Y (Ĕ a i) m):=by
    split
    .rename_i bu;have:m=[]:=by simpa using bu
     subst this;rfl
    .exact yy _
   refine⟨s,bl,_,_,D,D,n.at_,.inl<|av.seq G.sub bn,by rw[Ε,Ε,Î];lia,?_⟩;refine⟨aB,b,x++aC,e++(if m.isEmpty=U then[] else[AG way h Y (Ĕ a i) m]),_,_,_,(I.trans G).write n aM,g3.trans G.le,(ax.ex G).other n.at_,?_,Paired.app (Paired.cj (λ_ _ z=>z.same G.le) a4) am,?_,λu ab=>?_,ar,au,?_,D⟩
   .rw[Ý];exact n.put
   .rw[bh o,ad];show tD (aU e++qW (fD r f h way) (Ĕ a i) al,b)=_;rw[rm,cF,H9 (u:=h) (p:=Ĕ a i) (way:=way) bw aD bT bt]
   .rcases î.mp ab with z|z
    .exact aY u z
    .split at z
     .cases z
     .rename_i bu;rw[đ]at z;subst z;refine⟨λap=>bu (by rw[show m=[] from ap];rfl),(show 1<=2 by decide),(λz=>by cases z),λ_=>?_⟩;rcases b9 with⟨cG,bv⟩|bv
      .exact⟨cG,f,bv,bt⟩
      .rw[bv]at aD;cases aD
   .rw[Ω,<-am.length];lia
  |lit m=>
   refine dJ ?_;obtain⟨bo,bp,bq⟩:=t.Bk bi;refine⟨_,_,bo,_,D,bp,bq,dJ ?_⟩;obtain⟨cB,sg,br,bs⟩:=id aZ;obtain⟨c2,cH⟩:=ao.ok (.lit m)<|υ ae;refine⟨.inl ⟨D,_,aN.of F.at_⟩,D,a5 _ _ br,t.lit.fo,D,D,a5 _ _ cb,t.frame.fo,D,_,D,λq y aS cI cJ=>?_⟩;have H:Ex X ak (T (T X y<|.own q) q<|.aE A.run y [("kind",.int 0),("signs",.ref sg),("place",.ref l),("way",.ref Z),("argument",.int 0),("parameter",.ref A.np)])<|T (T ak y<|.own q) q<|.aE A.run y [("kind",.int 0),("signs",.ref sg),("place",.ref l),("way",.ref Z),("argument",.int 0),("parameter",.ref A.np)]:=(Ex.refl I.sub).inst aS cI cJ;have bU:o7 K A (T (T X y<|.own q) q<|.aE A.run y [("kind",.int 0),("signs",.ref sg),("place",.ref l),("way",.ref Z),("argument",.int 0),("parameter",.ref A.np)]) q<|xK way (Ĕ a i) m:=⟨y,sg,l,Z,A.np,af,(bs.same g3).same H.le,a3.same H.le,(cc.same g3).same H.le,bW _⟩;generalize T (T X y<|.own q) q (.aE A.run y [("kind",.int 0),("signs",.ref sg),("place",.ref l),("way",.ref Z),("argument",.int 0),("parameter",.ref A.np)])=aB at H bU;generalize T (T ak y<|.own q) q (.aE A.run y [("kind",.int 0),("signs",.ref sg),("place",.ref l),("way",.ref Z),("argument",.int 0),("parameter",.ref A.np)])=bP at H;have n:=F.ex H;refine⟨s,_,_,D,D,n.at_,by rw[Ε,Î];lia,?_⟩;refine⟨aB,b,x++[q],e++[xK way (Ĕ a i) m],_,_,_,(I.trans H).write n aM,g3.trans H.le,(ax.ex H).other n.at_,?_,Paired.rZ (Paired.cj (λ_ _ z=>z.same H.le) a4) bU,?_,λu ab=>?_,ar,au,?_,D⟩
   .rw[Ý];exact n.put
   .rw[bh o,ad];show tD (aU e++GC (fD r f h way) (Ĕ a i) m,b)=_;rw[rm,yy];rfl
   .rcases î.mp ab with z|z
    .exact aY u z
    .rw[đ]at z;subst z;exact⟨cH.1,(show 0<=2 by decide),λ_=>⟨ao.piece ae,D⟩,λz=>by cases z⟩
   .rw[Ω];show L e+1<=_;lia
 .refineλaO aQ be=>bx λO k=>?_;obtain⟨d,b,x,e,u,bc,bd,aV,g1,bf,lo1,aX,ad,aY,ar,au,bI,rfl⟩:=be;refine k ?_;have ap:(L<|ba.map V.ref)=L a.pieces.zipIdx:=by simp_all
  rw[ap,č]at ad;have sg:av d<|T d s<|.Y<|x.map V.ref:=aq lo1.out;refine(b_ _ b ad _ _ s e (aV.stay lo1 aM) (g1.trans sg) (bf.stay lo1) ⟨x,aN.of af,Paired.cj (λ_ _ z=>z.same sg) aX⟩ D aY ar au ?_);rw[Ε,cd]at bI;lia
end
def J9.count{mk Ź À Ì õ:O}{n:M}{Þ:J Đ}(χ:J9 K A Ι G H mk Ź À Ì õ n ϖ Þ ä d on):
 J9 K A Ι G (T H mk<|.aE A.bw Ź<|Nu (.ref À) (.ref Ì) (n+1) õ) mk Ź À Ì õ (n+1) ϖ Þ ä d on:={χ with om:=χ.om.put,oc:=χ.oc.other χ.ne.symm}
section
variable{ς:M}
def Ko:aB ["self","lines","frame","rows","line"] ["self","lines","frame"]<|ay<|FW 4:=by decide+kernel
def Np(J:Wk K η A)(bM:pR P w K η Ξ (rG P w) (7+4*ς) A.bw "follow_alone" ["self","line","frame"]<|GG K A A.mf ς)(bN:pR P w K η Ξ (rG P w) (8+4*ς) A.bw "follow_joined" ["self","line","frame"]<|Iv K A A.mf ς):pR P w K η Ξ (rG P w) (9+4*ς) A.bw "follow" ["self","lines","frame"]<|vG K A A.mf ς:=by
 have O:=J.kl;rw[show 9+4*ς=(8+4*ς)+1 by lia];refine J.Ij 11 19 Ko<|@λcj ck cl cm cn ba co cp E R ax=>?_;obtain⟨bO,ay,ae,j,e,h,k,bb,y,aB,m,n,o,b,rfl,ag,bP,bc,bT,⟨bU,bd,be⟩,bV,bg,bW,bi,bX,bZ,aC⟩:=ax;refine⟨_,ah (aH 3 Ko<|aI aj)<|ah (cS Ar D (bu<|pv 1) (bC 4 Ko)<|ah (aJ (aF ee (W (pv 0) D) (aW J.md.y_)<|aK _) (ai<|lD (gX J) R D (xh λ_ _ _ z=>z) (aa az<|aa (bY (nS J) O.live.cl R aG (pv 4) (aa az aj) (hk:=aL)) aj) (hk:=aL)) aD)<|ah (xC (pv 0) az Ka)<|ai<|aJ (bQ<|aR (Hz J) R D aG (aa (W (pv 4) D) aj) (hk:=aL)) (ai<|aT<|kF (pv 3)<|bY bM O.bw.cl R (Aj (E:=E) λ_ _ _ z=>z) (pv 0) (aa (pv 4)<|aa (pv 2) aj) (hk:=bh))<|ai<|aT<|ek (pv 3)<|bY bN O.bw.cl R (Aj (E:=E) λ_ _ _ z=>z) (pv 0) (aa (pv 4)<|aa (pv 2) aj) (hk:=bh))<|ai<|aA<|pv 3,?_⟩
 refine⟨Ò _,λC aE=>?_⟩;have bj:Ex ae ba ae<|T ba C<|.Y []:=Ex.heap ag.sub<|aq aE;have bk:=ag.trans bj;have aM:=ag.same.free aE;exists bb,D,⟨_,av.seq bk.sub bd⟩;refine c_ (N:=bU.map V.ref) (λr ak al=>∃d a s f u,Ex bO ay d al/\av ae d/\k6 K A ay d al j a h k/\Lo d al C (.Y<|s.map V.ref)/\ď (tZ K A d) s f/\ϩ (Ŋ h k ς b) (fD m n o b) (y.take r) e=.ok (f.map aU,a)/\uZ h f/\ e<=a/\a<=800/\L f<=a -e/\bR f<=(201+ς)*(a -e)/\ak=[B<|.ref j,B<|.ref bb,B<|.ref aB,B<|.ref C,u]) ?_ ?_ ?_ ?_
 .exact⟨ae,e,[],[],g,bk,av.refl _,bP.ex bj,Lo.new ag.sub aE,.nil,D,λF aO=>(nomatch aO),Õ _,bT,Ò _,Ò _,D⟩
 .rintro r ak al _ ⟨d,_,_,_,_,b0,sg,_⟩;exact av.seq (sg.trans b0.sub) bd
 .refineλr cq ak bl bm aP=>bx λbn S=>?_;obtain⟨d,a,s,f,u,X,g1,aQ,lo1,Y,am,an,bo,bp,bq,br,rfl⟩:=aP;apply S;rw[Ë]at bm;refine bx λbn S=>?_;obtain⟨ao,b6,rfl⟩:=Ü.mp bm;obtain⟨p,bs,aS⟩:=Paired.at_ be b6;have ap:=bV p<|υ bs;have aV:ϩ (Ŋ h k ς b) (fD m n o b) (y.take<|r+1) e=(gw (Ŋ h k ς b) (fD m n o b) p a).map λbt=>(f.map aU++bt.1,bt.2):=by rw[(by rw[Ĝ,bs];rfl:y.take (r+1)=y.take r++[p]),Bh,am];rfl
  have aX:∀t,gw (Ŋ h k ς b) (fD m n o b) p a=.error t->ϩ (Ŋ h k ς b) (fD m n o b) y e=.error t:=λt ax=>by have:=CH (Ŋ h k ς b) (fD m n o b) (y.take<|r+1) (y.drop<|r+1) e t (by rw[aV,ax];rfl);rw[Ĩ]at this;exact this
  obtain⟨v,G,H,l,bv,bw,bz,x⟩:=id aQ;obtain⟨bA,b7,aY,b8⟩:=id aS;apply S;have bD:=g1.trans X.sub;have cr:=Y.length;refine⟨D,x.om.at_,O.bw.fo,D,D,?_⟩;show if ã (V.int ((a:M):Z)=V.int 800)=U then _ else _
  rw[cz];refine gC (λar=>?_) λar=>?_
  .have ar:a=800:=by lia
   refine⟨ao,bA,_,D,bD _ _ aY,D,ao,bA,_,_,_,0,D,bD _ _ aY,λcs b9=>?_⟩;exact⟨_,_,D,xr<|q8 aC (aX _<|CL _ _ _ _ fX) (X.made b9)<|gb.of af⟩
  have ar:a<800:=by lia
  exists D,x.om.at_,O.bw.fo,D,_,_,D,D,v,_,x.om.at_,(by show 4<1000;decide);have aZ:=bB lo1.at_ x.om.at_ (by intro z;cases z);have bE:=bB lo1.at_ x.oc.at_ bh;have bF:=x.count;have au:=X.write (u:=.aE A.bw v<|Nu (.ref G) (.ref H) (a+1) l) x.om x.zm;have bG:=lo1.other (u:=.aE A.bw v<|Nu (.ref G) (.ref H) (a+1) l) aZ;have b_:bf "followed" (V.int<|((a:M):Z)+1) (Nu (.ref G) (.ref H) a l)=Nu (.ref G) (.ref H) (a+1) l:=by unfold Nu;rw[cM<|by decide+kernel,cM<|by decide+kernel,Oj];rfl
  rw[b_];generalize T bl j (.aE A.bw v<|Nu (.ref G) (.ref H) (a+1) l)=ct at bF au bG;have bH:=g1.trans au.sub;refine⟨D,bH _ _ aY,O.live.fo,D,b7,p.pieces,D,b8.same bH,by have:=ap.len;lia,λcu b'=>by obtain⟨cv,a0⟩:=ap.ok _ b';have:=a0.2;lia,λa1 s3=>(?_)⟩;have a2:=Ex.heap au.sub s3;have ab:=bF.ex a2;have aw:=bG.ex a2;obtain⟨ad,bI⟩:=ab.less<|au.trans a2;have bJ:av ay<|Tf.less a1 j l:=ad.same;have I:=I9 (Ŋ h k ς b) (fD m n o b) p a ar;cases a3:oG p.pieces with
  |some ca=>
   rw[a3]at I;dsimp only at I;refine bS ⟨.inl ⟨D,_,aN.of aw.at_⟩,j,v,_,D,ab.om.at_,D,d,Tf.less a1 j l,d,j,a+1,h,k,ao,p,aB,m,n,o,b,ca,D,bI,⟨v,G,H,l,bv,bw,bz,ab.low⟩,bc,by assumption,aS.same g1,ap,a3,bg.same g1,bi,λcw i a4 a5 cb a6 cc Q g4 a7 a8 a9 bK cd a_ ce cx=>?_,aC.mono (λt a'=>aX t<|by rw[I,a']) ad⟩;have q:=(aw.less aZ bE).ex Q;obtain⟨cf,cg,bL⟩:=id a8;have cy:=bL.length;exists C,a6,_,_,D,D,q.at_,.inl<|av.seq Q.sub cg,by grind[Ε,Î]
   refine⟨a5,i,s++cf,f++cc,_,(ad.trans Q).write q aM,g1.trans g4,(a7.base bJ).other q.at_,?_,Paired.app (Paired.cj (λ_ _ z=>z.same g4) Y) bL,?_,λF aO=>?_,aL,a_,?_,?_,D⟩
   .rw[Ý];exact q.put
   .rw[aV,I,a4,Ý,a9];rfl
   .rcases î.mp aO with z|z
    .exact an F z
    .exact bK F z
   .grind
   .have ch:(201+ς)*(a -e)+(201+ς)*(i -(a+1))<=(201+ς)*(i -e):=by rw[<-M4];exact OM _ aL
    rw[pC];lia
  |none=>
   rw[a3]at I;refine dJ ⟨.inl ⟨D,_,aN.of aw.at_⟩,j,v,_,D,ab.om.at_,D,d,Tf.less a1 j l,d,j,a+1,h,k,ao,p,aB,m,n,o,b,D,bI,⟨v,G,H,l,bv,bw,bz,ab.low⟩,bc,by assumption,aS.same g1,ap,bg.same g1,bW,bi,bX,λcA i a4 a5 cb a6 F Q g4 a7 a8 a9 bK cd a_ ce=>?_,aC.mono (λt a'=>aX t (by rw[I,a'];rfl)) ad⟩;have q:=(aw.less aZ bE).ex Q;exists C,_,_,D,D,q.at_,by grind[Ε,Î]
   refine⟨a5,i,s++[a6],f++[F],_,(ad.trans Q).write q aM,g1.trans g4,(a7.base bJ).other q.at_,?_,Paired.rZ (Paired.cj (λ_ _ z=>z.same g4) Y) a8,?_,λci a0=>?_,aL,a_,?_,?_,D⟩
   .rw[Ý];exact q.put
   .rw[aV,I,a4,Ý];rw[<-a9];rfl
   .rcases î.mp a0 with z|z
    .exact an ci z
    simp_all
   .rw[Ω];show L f+1<=_;lia
   .have ch:(201+ς)*(a -e)+(201+ς)*(i -(a+1)+1)<=(201+ς)*(i -e):=by rw[<-M4];exact OM _ aL
    have cB:(200+ς)*(i -(a+1))<=(201+ς)*(i -(a+1)):=M3 _ bh;have cC:(201+ς)*(i -(a+1)+1)=(201+ς)*(i -(a+1))+(201+ς):=by rw[Nat.mul_succ]
    rw[pC,(by rfl:bR [F]=F.length)];lia
 .refineλak bl aP=>bx λbn S=>?_;obtain⟨d,a,s,f,u,X,g1,aQ,lo1,Y,am,an,bo,bp,bq,br,rfl⟩:=aP;apply S;rw[Ε,be.length,č]at am;have sg:av d<|T d C<|.Y<|s.map V.ref:=aq lo1.out;exact(bZ _ a am _ _ C f (X.stay lo1 aM) (g1.trans sg) (aQ.stay lo1) ⟨s,aN.of af,Paired.cj (λ_ _ z=>z.same sg) Y⟩ D an bo bp bq br)
end
def kD(r:di ł Ν):Prop:=∀ı,r=.error ı->0<ı.reason
theorem kD.ok(x:Ν):kD (.ok x:di ł Ν):=λb a=>by cases a
theorem kD.map{Ν a:Type}{r:di ł Ν}(h:kD r)(ς:Ν->a):kD<|r.map ς:=by
 cases r with
 |error b=>intro e d;cases d;exact h b D
 |ok f=>exact kD.ok _
theorem kD.bind{Ν a:Type}{r:di ł Ν}(h:kD r){ς:Ν->di ł a}(b:∀x,kD<|ς x):kD<|r.bind ς:=by
 cases r with
 |error d=>intro f e;cases e;exact h d D
 |ok x=>exact b x
def Dk{use_:u7}(d:∀p n a k,kD<|use_ p n a k)(env:GA)(p:ú){acc:di ł<|e8×M}(b:kD acc)(q:Ť):kD<|kP use_ env p acc q:=by
 cases q with
 |lit i=>exact b.map _
 |param n=>exact b.map _
 |use n j=>
  refine b.bind λl=>(d _ _ _ _).bind λe=>?_;obtain⟨f,k⟩:=e
  match f with
  |[]=>exact kD.ok _
  |[m]=>exact kD.ok _
  |_::_::_=>intro o h;cases h;exact cU _
def FJ{use_:u7}(f:∀p n a k,kD<|use_ p n a k)(env:GA)(c:fL)(n:M):kD<|gw use_ env c n:=by
 unfold gw;split
 .intro l h;cases h;exact cU _
 .split
  .exact(f _ _ _ _).map _
  .refine kD.map ?_ _;have:∀(d:J<|Ť×M) (b:di ł<|e8×M),kD b->kD (d.foldl (λb e=>kP use_ env (Ĕ c e.2) b e.1) b):=by
    intro d
    induction d with
    |nil=>simp
    |cons e d i=>exactλb j=>i _<|Dk f env _ j _
   exact this _ _<|kD.ok _
def t7{use_:u7}(h:∀p n a k,kD<|use_ p n a k)(env:GA)(l:J fL)(n:M):kD<|ϩ use_ env l n:=by
 have:∀(d:J fL) (b:kY),kD b->kD (d.foldl (λb i=>b.bind λe=>(gw use_ env i e.2).map λf=>(e.1++f.1,f.2)) b):=by
  intro d
  induction d with
  |nil=>simp
  |cons j d m=>exactλb o=>m _<|o.bind λe=>(FJ h env j e.2).map _
 exact this _ _<|kD.ok _
def GU(d:ó)(on:J Đ):∀(ς:M) (way:J ú) (p:ú) (n:Đ) (a:J ê) (k:M),kD<|Ŋ d on ς way p n a k:=by
 intro ς
 induction ς with
 |zero=>
  intro way p n a k;rw[Ŋ];split
  .intro e b;cases b;exact cU _
  .split
   .intro e b;cases b;exact cU _
   .intro e b;cases b;exact cU _
 |succ ς f=>
  intro way p n a k;rw[Ŋ];split
  .intro e b;cases b;exact cU _
  .split
   .intro e b;cases b;exact cU _
   .exact t7 (λp n a k=>f _ p n a k) _ _ _
theorem A_(d:ó)(on:J Đ)(p:Đ):fS d on p=match ϩ (Ŋ d on 20 []) {args:=[],use_:=⟨0,0,0⟩,way:=[]} (jv d on U p) 0 with
 |.error b=>.error b
 |.ok a=>if a.1.length<=400/\(L<|ę a.1)<=20000 then .ok a.1 else .error ⟨6,⟨0,0,0⟩⟩:=rfl
theorem Je:∀l:J M,(l.map λn=>((n:M):Z)).sum=((l.sum:M):Z)
 |[]=>D
 |a::l=>by rw[þ,Gh,Gh,Je l];rfl
def Qd{Q:VK}(l:J Ν)(v:Ν->V)(f:Ν->M)(A:aN K ο a<|l.map v)(F:L l<=sizeLine)
  (C:∀x∈l,∀Θ (r:VK),av ο Θ->(∀h,av Θ h->r (nV<|f x) h)->Â ((cE σ [i]).set i<|B<|v x) Θ r)
  (k:∀R,av ο R->Q (nV (l.map f).sum) R):
  ∀d,ο d=g->∃o:M->M->Hp->Prop,(∃m,o 0 m<|T ο d<|.Y [])/\∀n m H,o n m H->
   ((xW K a).stop n H/\WR K [V.ref d] H Q)\/((xW K a).go n H/\∃p:Hp->Prop,(∀R,p R->∃s,s<m/\o (n+1) s R)/\∀x R,(xW K a).HW n H x R->c8 i x (cE σ [i]) R λq Θ=>cE q [i]=cE σ [i]/\CN q Θ λb h=> if b then Â q h λy t=>∃acc,t d=B (.Y acc)/\L acc<sizeLine/\p (T t d<|.Y<|acc++[y]) else p h):=by
 intro d u;refine zH (λn H=>av ο H/\H d=B (.Y<|((l.take n).map f).map nV)) ⟨aq u,af⟩ (λn H _ e=>av.seq e.1 A) (λn x H w e=>?_) λH e=>?_
 .rw[Ë]at w;obtain⟨y,z,rfl⟩:=Ü.mp w;exists HU σ i _;unfold CN;dsimp only;rw[à D];refine C y (υ z) H _ e.1 λh s3=>⟨_,s3 _ _ e.2,?_,λb E j=>?_,?_⟩
  .grind
  .rw[au<|ao j u];exact s3 _ _<|e.1 b E j
  .rw[af];rw[(by rw[Ĝ,z];rfl:l.take (n+1)=l.take n++[y]),Ý,Ý];rfl
 .have j:=e.2;rw[Ε,č]at j;exists d,(l.map f).map λn=>((n:M):Z),D,aN.of (by rw[j,Ħ (f:=λn=>((n:M):Z)) (g:=V.int)];rfl);have G:=k H e.1
  rwa [Je]
noncomputable def eX (r:J ef):M:=(r.map λu=>L u.signs).sum
inductive DV(K:Ζ)(A:Ad)(vs:J V)(H:Hp)(Q:VK)(b:XK):Prop
 |mk(a r:_)(_:vs=[.ref a])(_:tZ K A H a r)(_:L r<=1000000)(_:∀R,av H R->Q (nV<|eX r) R)
def Wn:aB ["row","run"] ["row"]<|ay<|bU 72:=by decide+kernel
def HH(b:Wk K η A):Kn P w K η Ξ c9 1 "row_size" ["row"]<|DV K A:=by
 refine b.kn 27 Wn λx y z C E i=>?_;obtain⟨j,k,rfl,⟨F,d,l⟩,f,m⟩:=i;obtain⟨e,n,h,o⟩:=Paired.zip l;have G:L e<=1000000:=by rw[h,Ε]at f;exact f
 exists _,ai (aA<|Rx D b.md.U7<|gV (Â:=SH K<|i9 K (aV 1) "signs") D Wn.nd (bu<|pv 0) (bL (own:=[("run",1)])<|by kernel_rfl) (λ_ _ _ _ _=>bC 1 Wn) (λ_ _ _ _ _=>cY) λ_ _ _ _ _=>aQ b.md.a_<|W (pv 1) D);exists j,D,⟨_,d⟩;refine Qd e (λa=>.ref a.1) (λa=>a.2.signs.length) (by rw[n,Ħ]at d;exact d) (by rw[Î];lia) (λa p q H s2 r=>?_) λs t=>?_
 .obtain⟨I,sg,J,M,N,u,v,_⟩:=(o a p).same s2;exists D,u,b.kl.run.fo,D,sg,_,D,.inl v;rw[bP];exact r q<|av.refl _
 .have:=m s t;rw[(by unfold eX;rw[h,Ħ];rfl:eX k=(e.map λa=>a.2.signs.length).sum)]at this;exact this
inductive Ht(K:Ζ)(A:Ad)(vs:J V)(H:Hp)(Q:VK)(b:XK):Prop
 |mk (a Υ:_) (_:vs=[.ref a]) (_:fN K A H a Υ) (_:L Υ<=1000000) (_:(∀r∈Υ,L r<=1000000)) (_:∀R,av H R->Q (nV (Υ.map λr=>eX r+1).sum) R)
def Wo:aB ["rows","row"] ["rows"]<|ay<|bU 73:=by decide+kernel
def t8(b:Wk K η A):Kn P w K η Ξ c9 2 "byte_count" ["rows"]<|Ht K A:=by
 refine b.kn 28 Wo λy z C E j k=>?_;obtain⟨l,F,rfl,⟨G,d,m⟩,f,n,o⟩:=k;obtain⟨h,p,e,q⟩:=Paired.zip m;have H:L h<=1000000:=by rw[e,Ε]at f;exact f
 exists _,ai (aA<|Rx D b.md.U7<|gV (Â:=OQ (E8 λr s=>.int<|r+s) (xZ (DV K A) [] E0<|bg (aV 1) cB)<|tC<|.int 1) D Wo.nd (bu<|pv 0) (bL (own:=[("row",1)])<|by kernel_rfl) (λ_ _ _ _ _=>bC 1 Wo) (λ_ _ _ _ _=>cY) λ_ _ _ _ _=>cQ iw (aR (HH b) j D aG<|aa (pv 1) aj) az);exists l,D,⟨_,d⟩;refine Qd h (λa=>.ref a.1) (λa=>eX a.2+1) (by rw[p,Ħ]at d;exact d) (by rw[Î];lia) (λa i I J s2 t=>?_) λu v=>?_
 .exact⟨a.1,a.2,D,(q a i).same s2,n a.2<|e▸ō i,λx s3=>(t x s3)⟩
 .have:=o u v;rw[e,Ħ]at this;exact this
noncomputable def gc (r:J ef):ê:=r.flatMap λu=>u.signs
noncomputable def dh (Υ:J<|J ef):ê:=Υ.flatMap λr=>gc r++[10]
theorem ID(Υ:J<|J ef):ę (Υ.map aU)=dh Υ:=by unfold ę dh;rw[lE];rw[dY,dY];congr 1;refine ϰ λa _=>?_;rw[rq];rfl
inductive QZ(K:Ζ)(A:Ad)(vs:J V)(H:Hp)(Q:VK)(b:XK):Prop
 |mk(a Υ:_)(_:vs=[.ref a])(_:fN K A H a Υ)(_:(L<|dh Υ)<=30000)(_:∀D R,H D=g->av H R->R D=B (.Y<|tV<|dh Υ)->Q (.ref D) R)
def SV:aB ["rows","text","row","run"] ["rows"]<|ay<|bU 74:=by decide+kernel
theorem Pk(s t:ê):tV (s++t)=tV s++tV t:=Ý
def Bm(q:Wk K η A):Kn P w K η Ξ c9 1 "text_of" ["rows"]<|QZ K A:=by
 refine q.kn 29 SV λz al am an ap O=>?_;obtain⟨r,d,rfl,⟨Q,C,E⟩,ar,R⟩:=O;have aw:∀b,(L<|dh<|d.take b)+(L<|dh<|d.drop b)=(L<|dh d):=λb=>by rw[<-Ω];unfold dh;rw[<-ċ,Ĩ]
 refine⟨_,ah (aH 1 SV<|aI aj)<|ah (cS ğ D (bu<|pv 0) (bC 2 SV)<|ah (cS ğ D (bu<|pv 2) (bC 3 SV)<|ai<|aT<|kF (pv 1)<|W (pv 3) D)<|ai<|aT<|ek (pv 1)<|aW q.md.uM)<|ai<|aA<|pv 1,?_⟩
 refine⟨Ò _,λi n=>?_⟩;refine⟨r,D,⟨_,av.seq (aq n) C⟩,?_⟩;refine c_ (N:=Q.map V.ref) (λb f j=>∃s h,av z j/\j i=B (.Y<|tV<|dh<|d.take b)/\f=[B<|.ref r,B<|.ref i,s,h]) ⟨g,g,aq n,af,D⟩ ?_ ?_ ?_
 .rintro b f j _ ⟨_,_,s1,_⟩;exact av.seq s1 C
 .refineλb S f F o t=>bx λu k=>?_;obtain⟨s,h,s1,v,rfl⟩:=t;apply k;rw[Ë]at o;refine bx λu k=>?_;obtain⟨G,T,rfl⟩:=Ü.mp o;obtain⟨a,X,Y⟩:=Paired.at_ E T;obtain⟨H,I,J⟩:=id Y;apply k;have Z:dh (d.take<|b+1)=dh (d.take b)++(gc a++[10]):=by rw[(by rw[Ĝ,X];rfl:d.take (b+1)=d.take b++[a])];unfold dh;simp
  have ax:(L<|dh<|d.take b)+((L<|gc a)+1)<=30000:=by
   grind
  refine⟨G,D,⟨_,av.seq s1 I⟩,?_⟩;refine c_ (N:=H.map V.ref) (λe f j=>∃h,av z j/\j i=B (.Y<|tV<|dh (d.take b)++gc (a.take e))/\f=[B<|.ref r,B<|.ref i,B<|.ref G,h]) ⟨h,s1,by simp_all[gc,ö],D⟩ ?_ ?_ ?_
  .rintro e f j _ ⟨_,s2,_⟩;exact av.seq s2 I
  .refineλe S f aa o t=>bx λu k=>?_;obtain⟨h,s2,m,rfl⟩:=t;apply k;rw[Ë]at o;refine bx λu k=>?_;obtain⟨ay,ab,rfl⟩:=Ü.mp o;obtain⟨p,ad,ae⟩:=Paired.at_ J ab;obtain⟨az,sg,aB,aC,aD,ag,ak,_⟩:=ae.same s2;apply k;have M:gc (a.take<|e+1)=gc (a.take e)++p.signs:=by rw[(by rw[Ĝ,ad];rfl:a.take (e+1)=a.take e++[p])];unfold gc;simp
   have aE:(L<|gc<|a.take e)+L p.signs<=(L<|gc a):=by rw[(by unfold gc;rw[<-ċ,Ĩ]:gc a=gc (a.take<|e+1)++gc (a.drop<|e+1)),M,Ω,Ω];simp
   refine⟨.inl ⟨D,_,aN.of m⟩,D,ag,q.kl.run.fo,D,i,sg,_,_,D,D,m,.inl ak,by rw[bP,bP,Ω,Î];lia,_,λx y l=>?_,?_,D⟩
   .rw[au<|ao l n];exact s2 x y l
   .rw[af,M,<-ϊ,Pk _ p.signs]
  .rintro f aa ⟨h,s2,m,rfl⟩;have l:(L<|H.map V.ref)=L a:=by rw[Ε];exact J.length
   rw[l,č]at m;refine⟨.inl ⟨D,_,aN.of m⟩,i,_,_,D,D,m,by rw[bP,Ω,Î];lia,_,_,λx y l=>?_,?_,D⟩
   .rw[au<|ao l n];exact s2 x y l
   .rw[af,Z,<-ϊ,Pk<|dh (d.take b)++gc a];rfl
 .rintro f F ⟨s,h,s1,v,rfl⟩;rw[Ε,E.length,č]at v;exact(R i F n s1 v)
def CZ(a:Wk K η A):∀ς,pR P w K η Ξ (rG P w) (9+4*ς) A.bw "follow" ["self","lines","frame"]<|vG K A A.mf ς:=by
 have step:∀ς,pR P w K η Ξ (rG P w) (5+4*ς) A.bw "follow" ["self","lines","frame"] (xm K A A.mf ς)->pR P w K η Ξ (rG P w) (9+4*ς) A.bw "follow" ["self","lines","frame"] (vG K A A.mf ς):=λς e=>
  have d:=C2 a e
  Np a (za a d) (xF a<|Nf a d)
 intro ς
 induction ς with
 |zero=>
  obtain⟨f,h,i,b⟩:=a.dm _ A.bw _ _ _ ["self","lines","frame"] (υ (i:=11) D) (υ (i:=19) D)<|b3 λ_ _ _ _ _ _ _ _ _=>D;exact step 0 ⟨f,h,b,⟨λ_ _ _ _ b=>b.elim,λ_ _ _ _ _ _ _ _ _ _ _ _ _ b=>b.elim⟩,i.bd⟩
 |succ ς j=>exact step (ς+1)<|by rwa [show 5+4*(ς+1)=9+4*ς by lia]
noncomputable def LY (d:ó) (on:J Đ) (p:Đ):kY:=ϩ (Ŋ d on 20 []) {args:=[],use_:=⟨0,0,0⟩,way:=[]} (jv d on U p) 0
inductive Pc(K:Ζ)(A:Ad)(œ:O)(vs:J V)(H:Hp)(Q:VK)(E:XK):Prop
 |mk(Ú Ι G mk d on b a:_)(_:vs=[.ref mk,.ref b])(_:Ex Ú Ι G H)(_:k6 K A Ι G H mk 0 d on)(_:eN d)(_:Nm H b a)(_:a∈Ŗ d)(_:OkK K A Ú Ι G mk d on 0 221 (LY d on a) Q)(_:Oh K œ Ú Ι (LY d on a) E)
def WN:aB ["self","path"] ["self","path"]<|ay<|FW 3:=by decide+kernel
def By(h:Wk K η A):pR P w K η Ξ (rG P w) 90 A.bw "follow_file" ["self","path"]<|Pc K A A.mf:=by
 have p:=h.kl;refine h.Ij 11 21 WN λaS aT aU E q X=>?_;refine bx λaV Y=>?_;obtain⟨Z,ab,ad,r,j,s,ae,k,rfl,F,G,t,ag,ah,ak,al⟩:=X;obtain⟨v,am,an,ao,aX,aY,ap,f⟩:=id G;obtain⟨aZ,a0,aq,a1,a2,a3,a4,ar,a5,a6,a7,u⟩:=id f.doc;have x:=F.sub;obtain⟨H,au,aw⟩:=u.fk.find ah;apply Y;have a8:=fY j U k;have a9:=t.blocks;exists _,ai<|aA<|bY (CZ h 20) p.bw.cl q (Aj (E:=E) λ_ _ _ ax=>ax) (pv 0)<|aa (bY (ud h) p.bw.cl q aG (pv 0)<|aa (pY (fP q) (W (W (pv 0) D) D) (pv 1) λ_ _=>D) aj)<|aa (gR (I_ h) q D<|aa (aI aj)<|aa (aI aj)<|aa (aW h.np.1)<|aa (mO aj) aj) aj;refine⟨r,v,_,D,f.om.at_,D,r,v,_,D,f.om.at_,D,D,f.om.at_,p.bw.fo,D,D,x _ _ u.ob,p.doc.fo,D,aq,.ref H,D,.inr ⟨bI ar,kT k,ae,av.rd x u.fi,D,ag,au.symm⟩,ad,r,v,am,an,0,ao,H,ř j U k,j,ap,s,D,x,f.om.at_,f.doc,t,f.vv,f.kv,aN.of<|u.tf _ aw,λa_ ay=>let⟨az,aB,_⟩:=dB.mp ay;⟨az,aB⟩,aL,λe i aC I J=>?_⟩
 rw[<-g9]at J;refine⟨Ò _,λa aD=>⟨Ò _,λb aE=>⟨Ò _,λd aF=>⟨_,D,λl m L M aH=>?_⟩⟩⟩⟩;have N:Ex e i (T e a<|.Y [])<|T i a<|.Y []:=(Ex.refl I.sub).made aD;have y:Ex (T e a<|.Y []) (T i a<|.Y []) (T (T e a<|.Y []) b<|.Y [])<|T (T i a<|.Y []) b<|.Y []:=(Ex.refl N.sub).made aE;have z:Ex (T (T e a<|.Y []) b<|.Y []) (T (T i a<|.Y []) b<|.Y []) (T (T (T e a<|.Y []) b<|.Y []) d<|.bO [])<|T (T (T i a<|.Y []) b<|.Y []) d<|.bO []:=(Ex.refl y.sub).made aF;have O:wF K (T (T (T e a<|.Y []) b<|.Y []) d<|.bO []) a []:=⟨[],aN.of<|(y.trans z).le _ _ af,.nil⟩;have Q:Gq K (T (T (T e a<|.Y []) b<|.Y []) d<|.bO []) b []:=⟨[],aN.of<|z.le _ _ af,.nil⟩;have R:qw K (T (T (T e a<|.Y []) b<|.Y []) d<|.bO []) d []:=⟨[],gb.of af,.nil⟩;have n:=(N.trans y).trans z;generalize T (T (T e a<|.Y []) b<|.Y []) d (.bO [])=S at n O Q R;generalize T (T (T i a<|.Y []) b<|.Y []) d (.bO [])=V at n L M;have o:Ex S V (T (T S m<|.own l) l<|.aE A.frame m [("parameters",.ref a),("arguments",.ref b),("place",.ref A.np),("way",.ref d)])<|T (T V m<|.own l) l<|.aE A.frame m [("parameters",.ref a),("arguments",.ref b),("place",.ref A.np),("way",.ref d)]:=(Ex.refl n.sub).inst L M aH;have C:=(I.trans n).trans o;refine⟨Z,ab,_,r,0,j,s,aC,jv j s U k,l,[],[],sU,[],D,F.trans C,G.ex C,t,Ò _,(J.same n.le).same o.le,AL t s k,⟨m,a,b,A.np,d,af,O.same o.le,Q.same o.le,h.np.2 _,R.same o.le⟩,D,D,.inr D,λaJ aK aM aO aP aQ aR b1 b2=>?_,al⟩;exact ak aJ aK aM aO aP aQ aR b1<|C.le.trans b2
inductive sD(K:Ζ)(A:Ad)(G:Hp)(m:O)(d:ó)(res:di ł<|J e8):Prop
 |mk(ξ a n ù q:_)(_:G m=B (.aE A.made ξ [("rows",.ref a),("reason",nV n),("place",.ref ù)]))(_:cD K G ù q)(_:match res with
 |.ok l=>n=0/\∃Υ,fN K A G a Υ/\Υ.map aU=l/\uZ d Υ
 |.error ı=>n=ı.reason/\q=ı.place/\0<n)
theorem sD.same{G Κ:Hp}{m:O}{d:ó}{res:di ł<|J e8}(h:sD K A G m d res)(e:av G Κ):sD K A Κ m d res:=by
 obtain⟨b,f,i,j,k,l,n,a⟩:=h;exists b,f,i,j,k,e _ _ l,n.same e;cases res with
 |ok s=>obtain⟨o,p,q,r⟩:=a;exact⟨o,p,q.same e,r⟩
 |error t=>exact a
inductive Xr(K:Ζ)(A:Ad)(vs:J V)(H:Hp)(Q:VK)(e:XK):Prop
 |mk(G À d Ì ä on b a:_)(_:vs=[.ref À,.ref Ì,.ref b])(_:av G H)(_:oU K A G À d)(_:eN d)(_:G Ì=B (.dT ä))(_:dg ä on)(_:Nm H b a)(_:a∈Ŗ d)(_:∀Κ R m,Ex G H Κ R->sD K A Κ m d (fS d on a)->Q (.ref m) R)
def S2:aB ["document","variant","path","maker","rows","fault"] ["document","variant","path"]<|ay<|bU 75:=by decide+kernel
def zV{v:V}(h:i<L σ):(σ.set i<|B v)[i]?=B (B v):=by rw[dM h]
def Fx(b:Wk K η A):Kn P w K η Ξ c9 91 "make_file" ["document","variant","path"]<|Xr K A:=by
 have aw:=b.np.2;have ax:=b.np.1;have S:=b.kl;obtain⟨ay,aB,_,_,V⟩:=b.mf;refine b.kn 30 S2 λh br aC bs t W=>?_;obtain⟨N,z,e,E,aY,f,aE,u,rfl,X,aZ,a0,a1,a2,a3,a4,Y⟩:=W;refine⟨_,ah (aH 3 S2<|HF (Qa b) t D<|aa (pv 0)<|aa (pv 1) aj)<|ah (QF (i:=5) (tb:=λaM=>Hj (yb A.bw "follow_file" (Pc K A A.mf) [] aM (aV 3)<|bg (aV 2) cB)<|c8 4) (th:=tF<|QA A.made (f3 "rows" "reason" "place")<|bg (J7 cB)<|bg (IX K η (aV 5) "reason")<|bg (IX K η (aV 5) "place") cB) V D D D S2.nd D D (λbt bu aM a5=>ai<|aH 4 S2<|bY (By b) S.bw.cl t a5 (pv 3)<|aa (pv 2) aj) λO=>ai<|aA<|T5 (Qy b) (Tf.c6.s t O) D<|aa (aI aj)<|aa (zX (pv 5) D)<|aa (zX (pv 5) D) aj)<|ah (aJ (PW.pt<|lz (aF kg (aQ b.md.a_<|pv 4) (aW b.md.IU)<|aK _)<|iu<|aF kg (aR (t8 b) t D aG<|aa (pv 4) aj) (aW b.md.EY)<|aK _) (ai<|aA<|gR (Mj b) t D<|aa (aI aj)<|aa az<|aa (aW ax) aj) aD)<|ai<|aA<|gR (Mj b) t D<|aa (pv 4)<|aa az<|aa (aW ax) aj,?_⟩
 refine(λa d Q a6 a7=>⟨a,d,_,_,D,af,λm Z=>⟨D,?_⟩⟩);have s1:av h<|T (T h d<|.own a) a<|.aE A.bw d []:=cN Q a6 a7;have aN:=s1.free Z;have a8:av h<|T (T (T (T h d<|.own a) a<|.aE A.bw d []) m<|.dT []) a<|.aE A.bw d<|Nu (.ref z) (.ref E) 0 m:=λa9 o O=>by rw[au<|ao O Q];exact(s1.trans<|aq Z) a9 o O
 have ab:k6 K A h N (T (T (T (T h d<|.own a) a<|.aE A.bw d []) m<|.dT []) a<|.aE A.bw d<|Nu (.ref z) (.ref E) 0 m) a 0 e f:=
  ⟨d,z,E,m,[],[],aY,⟨X.free Q,af⟩,⟨X.free aN,au ((ao af Z).symm)▸af⟩,Q,aN,aZ,a1,a2,dg.nil,fU,λn j=>(nomatch j),λn bv W=>(nomatch W)⟩
 have ad:=Ex.heap X a8;generalize T (T (T (T h d<|.own a) a<|.aE A.bw d []) m<|.dT []) a (.aE A.bw d<|Nu (.ref z) (.ref E) 0 m)=bw at ab ad;obtain⟨a_,bx,bz,bA,bB,bC,bD,a'⟩:=id ab;have aO:=A_ e f u;refine⟨a,a_,_,D,a'.om.at_,D,N,h,N,a,e,f,aE,u,D,ad,ab,a0,ad.same _ _ a3,a4,λk ba bb aP aS F v p g2 bE ae ag bc bF bG bH bI=>?_,λq aT aP aS G ak al p am aU bd=>?_⟩
 .have x:fS e f u=if L k<=400/\(L<|ę k)<=20000 then .ok k else .error ⟨6,⟨0,0,0⟩⟩:=by rw[aO,show ϩ (Ŋ e f 20 []) {args:=[],use_:=⟨0,0,0⟩,way:=[]} (jv e f U u) 0=.ok (k,ba) from bb]
  obtain⟨bJ,l,be⟩:=id ae;have bf:∀R∈v,L R<=1000000:=λR bh=>by have an:=Bf bh;lia
  have aX:∀H,Ex N h aP H->¬(L k<=400/\(L<|ę k)<=20000)->tF (QA A.made (f3 "rows" "reason" "place")<|bg (J7 cB)<|bg (tC<|.int 6)<|bg (tC<|.ref A.np) cB) {nx:=λ_ bi=>aC .b_ bi,rt:=aC} [B<|.ref z,B<|.ref E,B<|.ref aE,B<|.ref a,B<|.ref F,g] H:=by intro H y bj;rw[Ó bj]at x;refine⟨Ò _,λI bk=>⟨_,D,λn J j r s=>?_⟩⟩;refine Y _ _ n ((y.made (o:=.Y []) bk).inst (C:=A.made) (fs:=[("rows",.ref I),("reason",.int 6),("place",.ref A.np)]) j r s) ?_;rw[x];exact⟨J,I,6,A.np,sU,af,aw _,D,D,bM⟩
  exists F,_,D,.inl<|av.seq p.sub l;rw[Ε,be.length,<-(by rw[<-ag,Ε]:k.length=v.length)];refine nU (λbl=>bS<|aX aS p λbm=>aL) λbl=>?_;refine⟨F,v,D,ae.same p.sub,aL,bf,λH s3=>?_⟩;rw[<-(ag▸kQ v:(L<|ę k)=(v.map λR=>eX R+1).sum)];have y:=p.more s3;refine(nU (λap=>aX H y λbm=>?_) λap=>?_)
  .lia
  have ap:(L<|ę k)<=20000:=by lia
  rw[à ⟨aL,ap⟩]at x;refine⟨_,D,λn J j r s=>?_⟩;refine Y _ _ n (y.inst (C:=A.made) (fs:=[("rows",.ref F),("reason",.int 0),("place",.ref A.np)]) j r s) ?_;rw[x];exact⟨J,F,0,A.np,sU,af,aw _,D,v,ae.same<|cN (y.sub.free j) (y.sub.free r) s,ag,bc⟩
 .have x:fS e f u=.error q:=by rw[aO,show ϩ (Ŋ e f 20 []) {args:=[],use_:=⟨0,0,0⟩,way:=[]} (jv e f U u) 0=.error q from aT]
  refine⟨G,ak,D,D,am,λbn bo=>?_⟩;have an:(5:M)<L bn:=by rw[bo];show 5<6;decide
  refine⟨Ò _,λI l=>aV.of (zV an) ⟨G,A.mf,ak,ay,aB,_,_,_,nV q.reason,D,aq l _ _ am,aq l _ _ aU,V,bM,D,aV.of (zV an) ⟨G,A.mf,ak,ay,aB,_,_,_,.ref al,D,aq l _ _ am,aq l _ _ aU,V,bM,D,_,D,λn J j r s=>?_⟩⟩⟩;have ar:=p.made (o:=.Y []) l;refine Y _ _ n (ar.inst (C:=A.made) (fs:=[("rows",.ref I),("reason",nV q.reason),("place",.ref al)]) j r s) ?_;rw[x];exact⟨J,I,q.reason,al,q.place,af,(bd.same<|aq<|p.sub.free l).same<|cN (ar.sub.free j) (ar.sub.free r) s,D,D,t7 (λG bp bq S=>GU e f 20 [] G bp bq S) _ _ _ q aT⟩
theorem Q7(q:ú):wG q=(ϓ q).map nV:=rfl
def IZ(H:Hp)(l:J M)(Q:VK):Prop:=∀a R,H a=g->av H R->R a=B (.Y<|l.map nV)->Q (.ref a) R
inductive ZS(K:Ζ)(N:J V)(H:Hp)(Q:VK):Prop
 |mk(p Å:_)(_:N=[.ref p])(_:(aN K H p Å\/gb K H p Å))(_:∀l,H l=g->Q (.ref l) (T H l<|.Y Å))
def sM{p pos:kX}(b:X.mg "list"=g)(d:PE X e Â)(f:Gl X "list":=by rfl)(a:ë [e] X.env=(Τ,Ŧ e X.env)::ë [] X.env:=by rfl):PE X (.Call (.Name "list" p) [e] [] pos)<|Ek (ZS K)<|bg Â cB:=
 mw (ig.imp F4 λ_ _ _ h=>let⟨p,i,j,k,l⟩:=h;⟨p,i,j,k,l⟩) f b (by decide+kernel) (aa d aj a) bM bM a
inductive K9(K:Ζ)(A:Ad)(vs:J V)(H:Hp)(Q:VK)(b:XK):Prop
 |mk(a u:_)(j:M)(_:vs=[.ref a,nV j])(_:o7 K A H a u)(_:u.kind<=2)(_:IZ H (gQ u j) Q)
def aap:aB ["run","offset"] ["run","offset"]<|ay<|bU 78:=by decide+kernel
def yT(r:Wk K η A):Kn P w K η Ξ c9 1 "home_numbers" ["run","offset"]<|K9 K A:=by
 have e:=r.md;have f:=r.kl;refine r.kn 32 aap λj al am an ao J=>?_;obtain⟨L,a,p,rfl,⟨ap,sg,N,ar,O,h,au,Q,aw,R⟩,ax,s⟩:=J;have b:∀t:M,t<=100->t<=sizeLine:=λt ay=>by rw[Î];lia
 refine⟨_,ah (aJ (aF ee (W (pv 0) D) (aW e.l6)<|aK _) (ai<|aA<|cQ gB (cQ gB (aI<|aa (W (pv 0) D) aj)<|sM e.xw<|W (pv 0) D)<|aI<|aa (pv 1) aj) aD)<|ah (aJ (aF ee (W (pv 0) D) (aW e.oB)<|aK _) (ai<|aA<|cQ gB (cQ gB (cQ gB (aI<|aa (W (pv 0) D) aj)<|sM e.xw<|W (pv 0) D)<|aI<|aa (W (pv 0) D)<|aa (pv 1) aj)<|sM e.xw<|W (pv 0) D) aD)<|ai<|aA<|cQ gB (aI<|aa (W (pv 0) D) aj)<|sM e.xw<|W (pv 0) D,?_⟩
 have u:∀v:VK,(∀x y,j x=g->av j y->y x=B (.Y<|(a.kind::ϓ a.place).map nV)->v (.ref x) y)->
   OQ (Rl K) (J7<|bg (i9 K (aV 0) "kind") cB) (Ek (ZS K)<|bg (i9 K (aV 0) "place") cB) [B<|.ref L,B<|nV p] j v:=by
  intro v S;refine⟨D,h,f.run.fo,D,b 1 bM,λG X=>?_⟩;have s1:av j<|T j G<|.Y [nV a.kind]:=aq X;refine⟨D,s1 _ _ h,f.run.fo,D,N,_,D,.inr<|av.x_ s1 Q,λY ab=>?_⟩;have s2:=aq (o:=.Y<|wG a.place) ab;refine⟨G,Y,_,_,D,D,aN.of<|s2 _ _ af,aN.of af,b 4 bM,λad H=>?_⟩;exact S ad _ (s1.free<|s2.free H) ((s1.trans s2).trans<|aq H) af
 refine⟨D,h,f.run.fo,D,D,?_⟩;show if ã (V.int ((a.kind:M):Z)=V.int 0)=U then _ else _
 rw[cz];refine gC (λk=>?_) λk=>?_
 .refine u _ λl d z s1 m=>?_;refine⟨b 1 bM,λn C=>?_⟩;have s2:av d<|T d n<|.Y [nV p]:=aq C;refine⟨l,n,_,_,D,D,aN.of<|s2 _ _ m,aN.of af,b 5 bM,λE q=>?_⟩;refine s E _ (s1.free<|s2.free q) ((s1.trans s2).trans<|aq q)<|af.trans ?_;unfold gQ;rw[(by simpa using k:a.kind=0)];rfl
 have k:a.kind≠0:=λF=>by rw[F]at k;exact absurd k bM
 refine⟨D,h,f.run.fo,D,D,?_⟩;show if ã (V.int ((a.kind:M):Z)=V.int 1)=U then _ else _
 rw[cz];refine gC (λi=>?_) λi=>?_
 .have i:a.kind=1:=by lia
  refine u _ λl d z s1 m=>?_;refine⟨D,s1 _ _ h,f.run.fo,D,b 2 bM,λn C=>?_⟩;have s2:av d<|T d n<|.Y [nV a.argument,nV p]:=aq C;refine⟨l,n,_,_,D,D,aN.of<|s2 _ _ m,aN.of af,b 6 bM,λE q=>?_⟩;have s3:=aq (o:=.Y<|(a.kind::ϓ a.place).map nV++[nV a.argument,nV p]) q;refine⟨D,s3 _ _<|s2 _ _<|s1 _ _ h,f.run.fo,D,O,_,D,.inr<|av.x_ s3<|av.x_ s2<|av.x_ s1 R,λae ag=>?_⟩;have s4:=aq (o:=.Y<|wG a.parameter) ag;refine⟨E,ae,_,_,D,D,aN.of<|s4 _ _ af,aN.of af,b 9 bM,λak I=>?_⟩;refine s ak _ (s1.free<|s2.free<|s3.free<|s4.free I) ((((s1.trans s2).trans s3).trans s4).trans<|aq I)<|af.trans ?_;unfold gQ;rw[i];rfl
 have i:a.kind≠1:=λF=>by rw[F]at i;exact absurd i bM
 refine u _ λl d z s1 m=>s l d z s1<|m.trans ?_;unfold gQ;rw[(aL:a.kind=2)];rfl
inductive Nq(K:Ζ)(vs:J V)(H:Hp)(Q:VK)(d:XK):Prop
 |mk(a b:_)(_:vs=[.ref a])(_:qw K H a b)(_:L b<=1000)(_:IZ H (qg b) Q)
def Wh:aB ["way","numbers","place"] ["way"]<|ay<|bU 79:=by decide+kernel
theorem Dd(q:ú):(L<|ϓ q)=3:=rfl
theorem Kw:∀a:J ú,(L<|a.flatMap ϓ)=3*L a
 |[]=>D
 |q::a=>by rw[ĕ,Ω,Kw a,Ñ,Dd];lia
def AW(n:Wk K η A):Kn P w K η Ξ c9 1 "way_numbers" ["way"]<|Nq K:=by
 refine n.kn 33 Wh λh I J M O v=>?_;obtain⟨i,e,rfl,⟨o,j,p⟩,Q,x⟩:=v;have q:=p.length;refine⟨_,ah (aH 1 Wh<|aI<|aa (aQ n.md.a_<|pv 0) aj)<|ah (cS ğ D (V9<|pv 0) (bC 2 Wh)<|ai<|aT<|kF (pv 1)<|pv 2)<|ai<|aA<|pv 1,?_⟩
 refine⟨i,_,D,.inr j,by simp[sizeLine,Î],λa k=>?_⟩;have r:av h<|T h a<|.Y [.int<|L<|o.map V.ref]:=aq k;refine⟨i,D,⟨_,av.x_ r j⟩,?_⟩;refine Ub (N:=o.map V.ref) (λb f l=>∃m,av h l/\l a=B (.Y<|(L e::(e.take b).flatMap ϓ).map nV)/\f=[B<|.ref i,B<|.ref a,m]) ⟨g,r,?_,D⟩ ?_ ?_ ?_
 .rw[af,Ε,q];rfl
 .rintro b f l _ ⟨_,s1,_⟩;exact av.x_ s1 j
 .rintro b R f s t ⟨m,s1,d,rfl⟩;rw[Ë]at t;obtain⟨y,z,rfl⟩:=Ü.mp t;obtain⟨C,E,F⟩:=Paired.at_ p z;refine⟨.inl ⟨D,_,aN.of d⟩,a,y,_,_,D,D,d,.inr<|av.x_ s1 F,?_,_,λG H u=>?_,?_,D⟩
  .rw[Ε,Ñ,Kw,ŀ,Î];show _+3<=_;lia
  .rw[au<|ao u k];exact s1 G H u
  .rw[af,(by rw[Ĝ,E];rfl:e.take (b+1)=e.take b++[C]),ċ,ĕ,Ů,ö,Q7,<-Ý];rfl
 .rintro f s ⟨m,s1,d,rfl⟩;rw[Ε,q,č]at d;exact(x a s k s1 d)
noncomputable def iN (Υ:J<|J ef) (i j:Z):J M:=if 0<=i/\0<=j then(match((Υ.map aU)[i.toNat]?).bind λm=>m[j.toNat]? with
 |some b=>b.value.toNat::fG b
 |none=>[]) else[]
inductive RB(K:Ζ)(A:Ad)(vs:J V)(H:Hp)(Q:VK)(b:XK):Prop
 |mk(a Υ i j:_)(_:vs=[.ref a,.int i,.int j])(_:fN K A H a Υ)(_:(∀r∈Υ,∀u∈r,u.kind<=2/\L u.way<=1000))(_:IZ H (iN Υ i j) Q)
def Tp:aB ["rows","line","column","offset","run"] ["rows","line","column"]<|ay<|bU 77:=by decide+kernel
def Kg(h:Wk K η A):Kn P w K η Ξ c9 2 "home_at" ["rows","line","column"]<|RB K A:=by
 have t:=h.kl;refine h.kn 31 Tp λp a7 H a8 I au=>?_;obtain⟨u,m,i,F,rfl,⟨a9,J,O⟩,aw,Q⟩:=au;have v:∀f,av p f->iN m i F=[]->∀j,tF (J7 cB) {nx:=λ_ x=>H .b_ x,rt:=H} j f:=λf s1 ax j=>
  ⟨Ò _,λay R=>Q ay _ (s1.free R) (s1.trans<|aq R)<|ax▸af⟩
 refine⟨_,ah (aJ (PW.pt<|lz (cG<|lB jG iP az (pv 1)<|aQ h.md.a_<|pv 0)<|iu<|aF iP (pv 2) az<|aK _) (ai<|aA<|aI aj) aD)<|ah (aH 3 Tp<|pv 2)<|ah (cS ğ D (bu<|aY aM (pv 0) (pv 1) λ_ _=>D) (bC 4 Tp)<|ah (aJ (aF iP (pv 3) (aQ h.md.a_<|W (pv 4) D)<|aK _) (ai<|aA<|cQ gB (cQ gB (aI<|aa (aY aM (W (pv 4) D) (pv 3) λ_ _=>D) aj)<|aR (yT h) I D aG<|aa (pv 4)<|aa (pv 3) aj)<|aR (AW h) I D aG<|aa (W (pv 4) D) aj) aD)<|ai<|qq (i:=3) Tp.nd D (nv D) (aQ h.md.a_<|W (pv 4) D) VN)<|ai<|aA<|aI aj,?_⟩
 refine⟨_,D,nU (λS=>?_) λS=>?_⟩
 case refine_2=>exact(bS<|bS<|v p (av.refl _) (Ó λX=>S X.1) [])
 obtain⟨k,rfl⟩:∃d:M,i=(d:Z):=⟨i.toNat,aL⟩;exists u,_,D,.inl J;rw[Ε,O.length];refine gC (λq=>?_) λq=>?_
 .have q:¬((k:M):Z)<((L m:M):Z):=by simpa using q
  refine bS<|v p (av.refl _) ?_ _;unfold iN;split
  .rw[Ţ,eg (by rw[Ε];simp_all)];rfl
  .rfl
 have q:k<L m:=by simp_all
 refine(nU (λaB=>?_) λaB=>?_)
 .exact v p (av.refl _) (Ó λX=>aL) _
 obtain⟨l,rfl⟩:∃d:M,F=(d:Z):=⟨F.toNat,aL⟩;obtain⟨b,Y⟩:∃b,m[k]?=B b:=⟨m[k],ą q⟩;obtain⟨r,aC,aE⟩:=Paired.at2 O Y;obtain⟨ab,ad,ae⟩:=id aE;have n:iN m (k:Z) (l:Z)=match(aU b)[l]? with|some r=>r.value.toNat::fG r|none=>[]:=by simp_all[iN,à,Ţ,Ë]
 exists u,_,_,.ref r,D,D,J,bN (by rw[Ë,aC];rfl),r,D,⟨_,ad⟩;refine c_ (N:=ab.map V.ref) (λd j x=>∃(o:M) (y:É V),x=p/\(aU b)[l]?=(aU<|b.drop d)[o]?/\j=[B<|.ref u,B<|.int (k:M),B<|.int (l:M),B<|.int (o:M),y]) ⟨l,g,D,D,D⟩ ?_ ?_ ?_
 .rintro d j x _ ⟨_,_,rfl,_⟩;exact ad
 .rintro d a_ j f ag ⟨o,y,rfl,e,rfl⟩;rw[Ë]at ag;obtain⟨ak,aO,rfl⟩:=Ü.mp ag;obtain⟨a,al,am⟩:=Paired.at_ ae aO;have a':=(Ð.mp al).1;have aP:b.drop d=a::b.drop (d+1):=by
   grind[ĩ]
  rw[aP]at e;obtain⟨ba,sg,bb,aS,bc,z,G,bd,aT,be⟩:=id am;have an:=(aw b<|υ Y) a<|υ al;refine⟨D,z,t.run.fo,D,sg,_,D,.inl G,?_⟩;rw[bP];refine nU (λC=>?_) λC=>?_
  .have C:o<L a.signs:=fX;rw[FT C]at e;obtain⟨s,ao⟩:∃s,a.signs[o]?=B s:=⟨a.signs[o],ą C⟩;obtain⟨bf,aV,aW,aX⟩:=KY ao;rw[aV]at e;rw[e]at n;dsimp only at n;rw[aW,aX]at n;refine⟨D,z,t.run.fo,D,sg,_,_,bV s,D,D,G,bN<|HN ao,by simp[sizeLine,Î],λap aZ=>?_⟩;have s1:av f<|T f ap<|.Y [bV s]:=aq aZ;refine⟨ak,a,o,D,am.same s1,an.1,λa0 bg bh s2 a1=>?_⟩;have bi:(L<|gQ a o)<=100:=by
    unfold gQ;split
    .simp[ϓ]
    .simp[ϓ]
    .simp[ϓ]
   refine⟨ap,a0,_,_,D,D,aN.of<|s2 _ _ af,aN.of a1,by rw[Ε,Î];show 1+_<=_;lia,λa2 a3=>?_⟩;have E:=(s1.trans s2).trans<|aq (o:=.Y<|[bV s]++(gQ a o).map nV) a3;refine⟨D,E _ _ z,t.run.fo,D,aS,a.way,D,aT.same E,an.2,λa4 bj bk s4 a5=>?_⟩;have bl:(L<|qg a.way)<=3001:=by unfold qg;rw[Ñ,Kw];lia
   refine⟨a2,a4,_,_,D,D,aN.of<|s4 _ _ af,aN.of a5,by rw[Ω,Ε,Ε,Î];show 1+_+_<=_;lia,λa6 ar=>?_⟩;refine Q a6 _ (E.free<|s4.free ar) ((E.trans s4).trans<|aq ar)<|af.trans ?_;rw[n,þ,Ý];rfl
  .rw[FF fX]at e;exists D,z,t.run.fo,D,sg,_,D,.inl G,o -L a.signs,B<|.ref ak,D,e;have bm:((o:M):Z) -(((L<|tV a.signs):M):Z)=((o -L a.signs:M):Z):=by rw[bP];lia
   simp_all[tV,L2.St]
 .rintro j f ⟨o,y,rfl,e,rfl⟩;rw[(by rw[Ε];exact ae.length:(ab.map V.ref).length=b.length),zE]at e;have:(aU b)[l]?=g:=by rw[e];rfl
  rw[this]at n;exact v f (av.refl _) n [B<|.ref u,B<|.int (k:M),B<|.int (l:M),B<|.int (o:M),y]
noncomputable def X5 (q:ú):J Z:=[(q.block:M),(q.line:M),(q.piece:M)]
theorem UT(q:ú):(X5 q).map V.int=wG q:=rfl
theorem W7(a b:ú):ã (X5 a=X5 b)=(a==b):=by
 obtain⟨d,e,f⟩:=a;obtain⟨b1,b2,b3⟩:=b
 grind[b1,b2,b3,X5,List.cons.injEq]
noncomputable def fC (a:M) (p:ú) (n:M) (u:ef):ě:=u.kind==a&&(u.place==p&&u.argument==n)
noncomputable def lW (l:J<|M×M):J M:=l.flatMap λx=>[x.1,x.2]
theorem ku:∀l:J<|M×M,(L<|lW l)=2*L l
 |[]=>D
 |x::l=>by show(L<|x.1::x.2::lW l)=_;rw[Ñ,Ñ,ku l,Ñ];rfl
theorem EB(a b:J<|M×M):lW (a++b)=lW a++lW b:=ċ
theorem B7(m:ef->ě)(o:M):∀(r:J ef) (k:M),(L<|fu m o k r)<=L r
 |[],k=>Õ _
 |u::r,k=>by
  have:=B7 m o r<|k+L u.signs;show(L<|(if m u then[k+o] else[])++fu m o (k+L u.signs) r)<=_
  grind
theorem KJ(m:ef->ě)(o:M)(l:J<|J ef)(r:J ef):cC m o (l++[r]) 0=cC m o l 0++(fu m o 0 r).map λc=>(L l,c):=by
 unfold cC
 grind
theorem sL(m:ef->ě)(o:M):∀(Υ:J<|J ef) (k:M),(L<|cC m o Υ k)<=bR Υ
 |[],k=>Õ _
 |a::Υ,k=>by
  have f:=sL m o Υ<|k+1;have h:=B7 m o a 0;have b:cC m o (a::Υ) k=(fu m o 0 a).map (λd=>(k,d))++cC m o Υ (k+1):=by rfl
  have e:bR (a::Υ)=L a+bR Υ:=rfl;rw[b,e,Ω,Ε];lia
inductive Sw(K:Ζ)(A:Ad)(vs:J V)(H:Hp)(Q:VK)(e:XK):Prop
 |mk(a Υ b d p n o:_)(_:vs=[.ref a,nV b,.ref d,nV n,nV o])(_:fN K A H a Υ)(_:cD K H d p)(_:bR Υ<=100000)(_:IZ H (cV<|cC (fC b p n) o Υ 0) Q)
def KX:aB ["rows","kind","place","argument","sign","found","line","row","column","run"] ["rows","kind","place","argument","sign"]<|ay<|bU 80:=by decide+kernel
theorem UW(a b:M):ã (nV a=nV b)=(a==b):=by show ã (V.int _=V.int _)=_;lia
def yl(x:Wk K η A):Kn P w K η Ξ c9 1 "pairs_of" ["rows","kind","place","argument","sign"]<|Sw K A:=by
 have I:=x.kl;refine x.kn 34 KX λp bh bi bj aR aS=>?_;obtain⟨y,f,a,z,d,b,o,rfl,⟨aU,am,an⟩,aW,bk,aX⟩:=aS;have bl:∀i,bR (f.take i)+bR (f.drop i)=bR f:=λi=>by rw[<-pC,Ĩ]
 refine⟨_,ah (aH 5 KX<|aI aj)<|ah (cS ğ D (sQ D x.md.jn<|aa (pv 0) aj) (xy D<|gk (bC 6 KX)<|gk (bC 7 KX) sW)<|ah (aH 8 KX az)<|ai<|cS ğ D (bu<|pv 7) (bC 9 KX)<|ah (aJ (PW.pt<|w_ (aF ee (W (pv 9) D) (pv 1)<|aK _)<|w_ (aF (V4 aR.units) (W (pv 9) D) (pv 2)<|aK _)<|vY<|aF ee (W (pv 9) D) (pv 3)<|aK _) (ai<|aT<|kF (pv 5)<|aI<|aa (pv 6)<|aa (cQ iw (pv 8)<|pv 4) aj) aD)<|ai<|qq (i:=8) KX.nd D (nv D) (aQ x.md.a_<|W (pv 9) D) sj)<|ai<|aA<|cQ gB (aI<|aa (cQ Uh (aQ x.md.a_<|pv 5) az) aj)<|pv 5,?_⟩
 refine⟨Ò _,λk ap=>?_⟩;have ar:av p<|T p k<|.Y []:=aq ap;refine⟨y,_,D,av.seq ar am,?_⟩;refine rH (K:=K) (N:=aU.map V.ref) (i:=6) (j:=7) (λi m h=>∃R S X l,av p h/\h k=B (.Y<|(lW<|cC (fC a d b) o (f.take i) 0).map nV)/\m=[B<|.ref y,B<|nV a,B<|.ref z,B<|nV b,B<|nV o,B<|.ref k,R,S,X,l]) ⟨g,g,g,g,ar,af,D⟩ ?_ ?_ ?_
 .rintro i m h _ ⟨_,_,_,_,s1,_⟩;exact av.seq s1 am
 .refineλi aY m Y aw C ab=>bx λJ n=>?_;obtain⟨R,S,X,l,s1,E,rfl⟩:=ab;refine n λax=>?_;rw[Ë]at C;refine bx λJ n=>?_;obtain⟨q,aZ,rfl⟩:=Ü.mp C;obtain⟨e,ay,a0⟩:=Paired.at_ an aZ;obtain⟨aB,aC,aE⟩:=id a0;apply n;have bm:i<L f:=(Ð.mp ay).1;have a1:f.take (i+1)=f.take i++[e]:=by rw[Ĝ,ay];rfl
  have a2:(L<|f.take i)=i:=xV;have s2:av p<|T Y aw<|.bO [.int (i:M),.ref q]:=s1.trans<|aq ax;have a3:=aq (o:=.bO [.int (i:M),.ref q]) ax _ _ E;generalize T Y aw (.bO [.int (i:M),.ref q])=bn at s2 a3;have bo:bR (f.take i)+L e<=100000:=by
   grind[pC,bR]
  refine⟨q,D,⟨_,av.seq s2 aC⟩,?_⟩;refine c_ (N:=aB.map V.ref) (λj m h=>∃l,av p h/\h k=B (.Y<|(lW<|cC (fC a d b) o (f.take i) 0++(fu (fC a d b) o 0<|e.take j).map λr=>(i,r)).map nV)/\m=[B<|.ref y,B<|nV a,B<|.ref z,B<|nV b,B<|nV o,B<|.ref k,B<|nV i,B<|.ref q,B<|nV<|eX<|e.take j,l])
   ⟨l,s2,by simp_all[fu,fC,iA,ö],D⟩ ?_ ?_ ?_
  .rintro j m h _ ⟨_,s3,_⟩;exact av.seq s3 aC
  .refineλj aY m F C ab=>bx λJ n=>?_;obtain⟨l,s3,u,rfl⟩:=ab;apply n;rw[Ë]at C;refine bx λJ n=>?_;obtain⟨aG,a4,rfl⟩:=Ü.mp C;obtain⟨s,aL,aM⟩:=Paired.at_ aE a4;apply n;have bp:j<L e:=(Ð.mp aL).1;have aO:e.take (j+1)=e.take j++[s]:=by rw[Ĝ,aL];rfl
   refine bx λJ n=>?_;obtain⟨bq,sg,a5,br,bs,ad,bt,a6,bv,bw⟩:=aM.same s3;apply n;have a7:fu (fC a d b) o 0 (e.take<|j+1)=fu (fC a d b) o 0 (e.take j)++(if fC a d b s then[eX (e.take j)+o] else[]):=by rw[aO,B5];congr 1;show(if fC a d b s then[0+eX (e.take j)+o] else[])++[]=_;simp
   have bz:eX (e.take<|j+1)=eX (e.take j)+L s.signs:=by rw[aO];unfold eX;simp
   have jk:∀O,av p O->O k=B (.Y<|(lW<|cC (fC a d b) o (f.take i) 0++(fu (fC a d b) o 0<|e.take<|j+1).map λr=>(i,r)).map nV)->∀ae:qO,(∀v h,(∃l,av p h/\h k=B (.Y<|(lW<|cC (fC a d b) o (f.take i) 0++(fu (fC a d b) o 0<|e.take<|j+1).map λr=>(i,r)).map nV)/\v=[B<|.ref y,B<|nV a,B<|.ref z,B<|nV b,B<|nV o,B<|.ref k,B<|nV i,B<|.ref q,B<|nV<|eX<|e.take<|j+1,l])->ae.nx v h)->
     OE 8 (SH K<|i9 K (aV 9) "signs") (UJ λi j=>i+j) ae [B<|.ref y,B<|nV a,B<|.ref z,B<|nV b,B<|nV o,B<|.ref k,B<|nV i,B<|.ref q,B<|nV<|eX<|e.take j,B<|.ref aG] O:=by
    intro O s4 a8 ae a9;obtain⟨bA,a_,bB,bD,bE,a',ba,_⟩:=aM.same s4;refine⟨D,a',I.run.fo,D,a_,_,D,.inl ba,a9 _ _ ⟨B<|.ref aG,s4,a8,?_⟩⟩;simp_all[eX,tV,bP,nV,L2.St]
   have ag:fC a d b s=Τ->F k=B (.Y<|(lW<|cC (fC a d b) o (f.take i) 0++(fu (fC a d b) o 0<|e.take<|j+1).map λr=>(i,r)).map nV):=λbF=>by simp_all[Ó,ö]
   refine⟨D,ad,I.run.fo,D,D,?_⟩;rw[UW];refine gC (λG=>?_) λG=>?_
   case refine_2=>exact dJ<|jk F s3 (ag (by unfold fC;rw[G];rfl)) _ λv h t=>t
   refine⟨D,ad,I.run.fo,D,a5,z,X5 s.place,X5 d,D,D,by rw[UT];exact a6,by rw[UT];exact aW.same s3,?_⟩;rw[W7];refine gC (λQ=>?_) λQ=>?_
   case refine_2=>exact dJ<|jk F s3 (ag (by unfold fC;rw[G,Q];rfl)) _ λv h t=>t
   refine⟨D,ad,I.run.fo,D,D,?_⟩;rw[UW];refine gC (λak=>?_) λak=>?_
   case refine_2=>exact jk F s3 (ag (by unfold fC;rw[G,Q,ak];rfl)) _ λv h t=>t
   refine⟨.inl ⟨D,_,aN.of u⟩,by simp[sizeLine,Î],λal H=>?_⟩;refine⟨k,al,_,_,D,D,by rw[au<|ao u H];exact u,.inl<|aN.of af,?_,?_⟩
   .have bb:=sL (fC a d b) o (f.take i) 0;have bc:=B7 (fC a d b) o (e.take j) 0;rw[ŀ]at bc;rw[Ε,ku,Ω,Ε,Î];show _+2<=_;lia
   .refine jk _ (λbd be aP=>?_) ?_ _ λv h t=>t
    .rw[au<|ao aP ap];exact(s3.trans<|aq (o:=.Y [nV i,.int<|((eX (e.take j):M):Z)+((o:M):Z)]) H) bd be aP
    .rw[af,a7,(by unfold fC;rw[G,Q,ak];rfl:fC a d b s=true),à D,Ý,<-ϊ,EB _<|List.map _ [_],Ý];rfl
  .rintro m F ⟨l,s3,u,rfl⟩;rw[(by rw[Ε];exact aE.length:(aB.map V.ref).length=e.length),č]at u;refine⟨_,_,_,_,s3,?_,D⟩;rw[a1,KJ,a2];exact u
 .rintro m Y ⟨R,S,X,l,s1,E,rfl⟩;rw[Ε,an.length,č]at E;have bb:=sL (fC a d b) o f 0;refine⟨k,_,D,.inl<|aN.of E,_,_,D,D,⟨bM,bM⟩,by simp[sizeLine,Î],λbf bg=>?_⟩;have s2:=aq (o:=.Y [.int<|((L<|(lW<|cC (fC a d b) o f 0).map nV):M)/2]) bg;refine⟨bf,k,_,_,D,D,aN.of af,aN.of<|s2 _ _ E,by rw[Ε,ku,Î];show 1+_<=_;lia,λal H=>?_⟩;refine aX al _ (s1.free<|s2.free H) ((s1.trans s2).trans<|aq H)<|af.trans ?_;show B (HO.Y<|[V.int<|(((L<|(lW<|cC (fC a d b) o f 0).map nV):M):Z)/2]++_)=_;rw[(by simp[Ε,ku]:((((lW<|cC (fC a d b) o f 0).map nV).length:M):Z)/2=(((cC (fC a d b) o f 0).length:M):Z))];rfl
def aaG:aB ["rows","place","sign"] ["rows","place","sign"]<|ay<|bU 81:=by decide+kernel
inductive JW(K:Ζ)(A:Ad)(vs:J V)(H:Hp)(Q:VK)(d:XK):Prop
 |mk(a Υ b p o:_)(_:vs=[.ref a,.ref b,nV o])(_:fN K A H a Υ)(_:cD K H b p)(_:bR Υ<=100000)(_:IZ H (cV<|cC (oV p) o Υ 0) Q)
def tG(a:Wk K η A):Kn P w K η Ξ c9 2 "pairs_of_literal" ["rows","place","sign"]<|JW K A:=by refine a.kn 35 aaG λo p q r b d=>?_;obtain⟨e,f,h,i,j,rfl,k,l,m,n⟩:=d;exists _,ai<|aA<|aR (yl a) b D aG<|aa (pv 0)<|aa (aW a.md.l6)<|aa (pv 1)<|aa az<|aa (pv 2) aj;exact⟨e,f,0,h,i,0,j,D,k,l,m,n⟩
def aau:aB ["rows","place","argument","sign"] ["rows","place","argument","sign"]<|ay<|bU 82:=by decide+kernel
inductive JZ(K:Ζ)(A:Ad)(vs:J V)(H:Hp)(Q:VK)(d:XK):Prop
 |mk(a Υ b p n o:_)(_:vs=[.ref a,.ref b,nV n,nV o])(_:fN K A H a Υ)(_:cD K H b p)(_:bR Υ<=100000)(_:IZ H (cV<|cC (oX p n) o Υ 0) Q)
def sF(a:Wk K η A):Kn P w K η Ξ c9 2 "pairs_of_argument" ["rows","place","argument","sign"]<|JZ K A:=by refine a.kn 36 aau λp q r s b d=>?_;obtain⟨e,f,h,i,j,k,rfl,l,m,n,o⟩:=d;exists _,ai<|aA<|aR (yl a) b D aG<|aa (pv 0)<|aa (aW a.md.oB)<|aa (pv 1)<|aa (pv 2)<|aa (pv 3) aj;exact⟨e,f,1,h,i,j,k,D,l,m,n,o⟩
def HP{d:ó}(h:eN d)(on:J Đ)(i:M):(L<|lT d on i)<=80000:=by
 unfold lT wN fM;cases k:d[i]? with
 |none=>exact Ò _
 |some l=>
  cases l with
  |prose q=>exact Ò _
  |chunk f=>
   have j:=bX.mpr ⟨i,k⟩;have r:=jO on f.lines 0 [];have s:=nc j;have t:=h.IP;rw[lE];have m:∀b:J<|M×J Ť,(∀a∈b,a∈Œ on 0 [] f.lines)->(L<|b.flatMap λa=>ŷ a.2)<=200*L b:=by
    intro b
    induction b with
    |nil=>exactλ_=>Ò _
    |cons a b n=>
     intro e;have u:=n λo p=>e o<|Ç _ p;have v:(L<|ŷ a.2)<=a.2.length:=jh _ _;have w:=((h.chunk f j).1.lines _<|DU<|e a Ö).1
     grind
   have:=m _ λa e=>e;exact Ć this aL
theorem IV{d:ó}(a:eN d)(on:J Đ):∀l:J M,(L<|l.flatMap<|lT d on)<=80000*L l
 |[]=>Ò _
 |i::l=>by
  have b:=IV a on l;have e:=HP a on i
  grind
inductive JX(K:Ζ)(A:Ad)(vs:J V)(H:Hp)(Q:VK)(b:XK):Prop
 |mk(G À d Ì ä on Ĳ:_)(nums:J M)(_:vs=[.ref À,.ref Ì,.ref Ĳ])(_:av G H)(_:oU K A G À d)(_:eN d)(_:G Ì=B (.dT ä))(_:dg ä on)(_:aN K H Ĳ<|nums.map nV)(_:(∀i∈nums,∃c,d[i]?=B (fc c)))(_:L nums<=200)(_:∀D R a,H D=g->av H R->R D=B (.Y<|a.map V.ref)->ď (Nm G) a (nums.flatMap<|lT d on)->Q (.ref D) R)
def Pn:aB ["document","variant","numbers","names","block","part","number"] ["document","variant","numbers"]<|ay<|bU 84:=by decide+kernel
def vI(m:Wk K η A):Kn P w K η Ξ c9 2 "names_used_live" ["document","variant","numbers"]<|JX K A:=by
 refine m.kn 37 Pn λu bb bc bd ad aD=>?_;obtain⟨C,ae,v,E,aE,a,F,n,rfl,ag,⟨be,aF,bf,bg,bh,bi,bj,bk,bl,bm,bn,G⟩,q,aJ,aK,ak,aO,bo,aP⟩:=aD;refine⟨_,ah (aH 3 Pn<|aI aj)<|ah (cS ğ D (bu<|pv 2) (bC 4 Pn)<|ah (aH 5 Pn<|aY aM (W (pv 0) D) (pv 4) λ_ _=>D)<|ai<|cS ğ D (bu<|aR (iU m) ad D aG<|aa (pv 5)<|aa (pv 1) aj) (bC 6 Pn)<|ai<|aT<|kF (pv 3)<|aR (ue m) ad D aG<|aa (W (aY aM (W (pv 5) D) (pv 6) λ_ _=>D) D) aj)<|ai<|aA<|pv 3,?_⟩
 refine⟨Ò _,λi H=>?_⟩;have al:av u<|T u i<|.Y []:=aq H;exists F,D,⟨_,av.seq al ak⟩;refine c_ (N:=n.map nV) (λj f h=>∃o I J x,av u h/\h i=B (.Y<|o.map V.ref)/\ď (Nm C) o ((n.take j).flatMap<|lT v a)/\f=[B<|.ref ae,B<|.ref E,B<|.ref F,B<|.ref i,I,J,x]) ⟨[],g,g,g,al,af,.nil,D⟩ ?_ ?_ ?_
 .rintro j f h _ ⟨_,_,_,_,s1,_⟩;exact av.seq s1 ak
 .refineλj d f am r M=>bx λs e=>?_;obtain⟨o,I,J,x,s1,O,Q,rfl⟩:=M;apply e;rw[Ë]at r;refine bx λs e=>?_;obtain⟨k,R,rfl⟩:=Ü.mp r;obtain⟨b,S⟩:=aO k<|υ R;obtain⟨bp,aQ,aS⟩:=Paired.at2 G.bs S;obtain⟨X,rfl,an⟩:=aS;apply e;have bq:=(Ð.mp R).1;have g1:=ag.trans s1;have Y:=bX.mpr ⟨k,S⟩;have br:=nc Y;have bs:=q.IP;exists D,g1 _ _ G.ob,m.kl.doc.fo,D,aF,_,_,.ref X,D,D,av.seq g1 G.bl,bN aQ;refine⟨X,E,b,aE,a,D,an.same g1,g1 _ _ aJ,aK,(q.chunk b Y).2,aL,λap bt bv s2 ar=>?_⟩;exists ap,D,⟨_,aN.of ar⟩;refine bx λs e=>?_;obtain⟨bw,bz,bA,aU,aV,_,_,bB,aW,aX⟩:=id an;apply e;have aw:lT v a k=(Œ a 0 [] b.lines).flatMap λd=>ŷ d.2:=by unfold lT wN;rw[jI S,lE]
  refine c_ (N:=((Œ a 0 [] b.lines).map λd=>d.1).map nV) (λl f h=>∃p Z,av u h/\h ap=B (.Y<|((Œ a 0 [] b.lines).map λd=>d.1).map nV)/\h i=B (.Y<|p.map V.ref)/\ď (Nm C) p ((n.take j).flatMap (lT v a)++((Œ a 0 [] b.lines).take l).flatMap λd=>ŷ d.2)/\ f=[B<|.ref ae,B<|.ref E,B<|.ref F,B<|.ref i,B<|nV k,B<|.ref X,Z]) ?_ ?_ ?_ ?_
  .refine⟨o,x,s1.trans s2,ar,s2 _ _ O,?_,D⟩
   rwa [nI,Ů,ö]
  .rintro l f h _ ⟨_,_,_,aZ,_⟩;exact aN.of aZ
  .refineλl d f a0 r M=>bx λs e=>?_;obtain⟨p,Z,s3,ax,y,t,rfl⟩:=M;apply e;rw[Ħ,Ë]at r;refine bx λs e=>?_;obtain⟨z,ay,rfl⟩:=Ü.mp r;have g3:=ag.trans s3;obtain⟨bD,az,ab⟩:=gi a b.lines 0 [] z<|υ ay;apply e;rw[ύ]at az;rw[<-az]at ab;refine bx λs e=>?_;obtain⟨a1,a2,a3⟩:=Paired.at2 aX ab;obtain⟨dl,a4,a5,a6⟩:=id a3;apply e;have aB:(Œ a 0 [] b.lines).take (l+1)=(Œ a 0 [] b.lines).take l++[z]:=by rw[Ĝ,ay];rfl
   refine⟨.inl ⟨D,_,aN.of y⟩,D,g3 _ _ aV,m.kl.part.fo,D,aU,_,_,.ref a1,D,D,av.seq g3 aW,bN (by rw[Ë,a2];rfl),D,g3 _ _ a5,m.kl.code.fo,D,C,a4,z.2,D,g3,a6,by have:=((q.chunk b Y).1.lines _<|υ ab).1;lia,λa7 bE a8 bF s4 a9 a_=>?_⟩;refine⟨i,a7,_,_,D,D,s4 _ _ y,.inl<|aN.of a9,?_,p++a8,_,λa' ba aC=>?_,?_,?_,?_,D⟩
   .have bG:=t.length;have bH:=IV q a<|n.take j;have bI:=HP q a k;have bJ:=a_.length;have bK:(L<|((Œ a 0 [] b.lines).take l).flatMap λd=>ŷ d.2)+(L<|ŷ z.2)<=(L<|lT v a k):=by
     rw[aw]
     conv=>rhs;rw[<-Ĩ (l+1) (Œ a 0 [] b.lines),ċ,Ω,aB,ċ,Ω]
     simp
    grind[Ω,ŀ,Ε,Î]
   .rw[au<|ao aC H];exact(s3.trans s4) a' ba aC
   .rw[au λbL=>aL];exact s4 _ _ ax
   .simp[af,Ý]
   .rw[aB,ċ,<-ϊ];refine Paired.app t ?_;simp_all
  .rintro f a0 ⟨p,Z,s3,ax,y,t,rfl⟩;refine⟨p,_,_,_,s3,y,?_,D⟩;rw[(by rw[Ĝ,R];rfl:n.take (j+1)=n.take j++[k]),ċ,ĕ,Ů,ö,aw];rw[Ε,Ε,č]at t;exact t
 .rintro f am ⟨o,I,J,x,s1,O,Q,rfl⟩;rw[Ε,č]at Q;exact(aP i am o H s1 O Q)
theorem Ul(h:¬n∈l):Ċ l n=l++[n]:=by unfold Ċ;simp_all
def WW(h:n∈l):Ċ l n=l:=by simp_all[Ċ,à]
inductive QD(K:Ζ)(vs:J V)(H:Hp)(Q:VK)(j:XK):Prop
 |mk(G ð ņ a d e Þ f W:_)(_:vs=[.ref ð,.ref ņ,.ref a])(_:av G H)(_:H ð=B (.Y<|d.map V.ref))(_:ď (Nm G) d Þ)(_:G ð=g)(_:G ņ=g)(_:a≠ð)(_:a≠ņ)(_:H ņ=B (.dT e))(_:dg e Þ)(_:aN K H a<|f.map V.ref)(_:ď (Nm G) f W)(_:(L<|W.foldl Ċ Þ)<=1000000)(_:∀R h i,(∀b,b≠ð->b≠ņ->R b=H b)->R ð=B (.Y<|h.map V.ref)->ď (Nm G) h (W.foldl Ċ Þ)->R ņ=B (.dT i)->dg i (W.foldl Ċ Þ)->Q .b_ R)
def Y4:aB ["names","known","more","name"] ["names","known","more"]<|ay<|bU 85:=by decide+kernel
def Q_(h:aN K H a N)(e:R a=H a):aN K R a N:=by
 rcases h with h|h
 .rcases h with h|⟨b,h⟩
  .exact .inl<|.inl<|by rwa [e]
  .exact .inl<|.inr ⟨b,by rwa [e]⟩
 .exact .inr h
def Aw(a:Wk K η A):Kn P w K η Ξ c9 1 "add_new" ["names","known","more"]<|QD K:=by
 refine a.kn 38 Y4 λT ao ap aq z W=>?_;obtain⟨s,p,l,t,X,Y,i,C,a,rfl,Z,E,aa,ar,av,ab,ad,F,ae,G,H,aw,ag⟩:=W;have u:=bB E F bh;refine⟨_,ai<|cS ğ D (bu<|pv 2) (bC 3 Y4)<|ai<|aJ (fy (pF (fP z) (pv 3)<|pv 1)<|by with_unfolding_all rfl) (ah (p5 (fP z) (pv 1) (pv 3) lg D)<|ai<|aT<|ek (pv 0)<|pv 3) aD,?_⟩
 exists t,D,⟨_,G⟩;refine c_ (N:=C.map V.ref) (λb q r=>∃d f v,(∀h,h≠p->h≠l->r h=T h)/\r p=B (.Y<|d.map V.ref)/\ď (Nm s) d ((a.take b).foldl Ċ i)/\r l=B (.dT f)/\dg f ((a.take b).foldl Ċ i)/\q=[B<|.ref p,B<|.ref l,B<|.ref t,v]) ⟨X,Y,g,λ_ _ _=>D,E,aa,F,ae,D⟩ ?_ ?_ ?_
 .rintro b q r _ ⟨_,_,_,j,_⟩;exact Q_ G<|j t ab ad
 .refineλb ax q x I aj=>bx λak y=>?_;obtain⟨d,f,v,j,m,n,o,k,rfl⟩:=aj;apply y;rw[Ë]at I;refine bx λak y=>?_;obtain⟨h,al,rfl⟩:=Ü.mp I;obtain⟨e,J,M⟩:=Paired.at_ H al;apply y;have ay:=(Ð.mp J).1;have az:=Z _ _ M;have O:x h=B (.bO<|(kT e).map kV):=xV;have aA:(L<|(a.take b).foldl Ċ i)<=(L<|a.foldl Ċ i):=by have:=(lC (a.drop b)<|(a.take b).foldl Ċ i).length_le;rw[<-ļ,Ĩ]at this;exact this
  rw[(by rw[Ĝ,J];rfl:a.take (b+1)=a.take b++[e]),ļ];exists l,_,D,jx.t o O;rw[k.isSome e];refine gC (λam=>?_) λam=>?_
  .exists l,_,D,B_.t o O (by rw[k.len,Î];lia);exists .inl ⟨D,_,aN.of (by rw[au u];exact m)⟩,p,_,_,D,D,by rw[au u];exact m,by rw[Ε];exact by rw[n.length,Î];lia
   refine⟨d++[h],c7 f (kT e)<|.bl U,_,λan Q R=>?_,?_,?_,?_,?_,D⟩
   .rw[au Q,au R];exact j an Q R
   .rw[af,Ý];rfl
   .show ď (Nm s) (d++[h]) (Ċ _ e);rw[Ul λaB=>fX];exact Paired.rZ n M
   .rw[au u.symm];exact af
   .exact k.put e _
  .have S:=WW (ē.mp aL:e∈(a.take b).foldl Ċ i);refine⟨d,f,_,j,m,?_,o,?_,D⟩
   .show ď (Nm s) d (Ċ _ e)
    rwa [S]
   .show dg f (Ċ _ e)
    rwa [S]
 .rintro q x ⟨d,f,v,j,m,n,o,k,rfl⟩;rw[(by rw[Ε];exact H.length:(C.map V.ref).length=a.length),č]at n k;exact ag x d f j m n o k
inductive NC(K:Ζ)(A:Ad)(vs:J V)(H:Hp)(Q:VK)(b:XK):Prop
 |mk(G À d Ì ä on Ĳ:_)(nums:J M)(_:vs=[.ref À,.ref Ì,.ref Ĳ])(_:av G H)(_:oU K A G À d)(_:eN d)(_:G Ì=B (.dT ä))(_:dg ä on)(_:aN K H Ĳ<|nums.map nV)(_:(∀i∈nums,∃c,d[i]?=B (fc c)))(_:L nums<=200)(_:∀D R a,H D=g->av H R->R D=B (.Y<|a.map V.ref)->ď (Nm G) a (fq d on nums)->Q (.ref D) R)
def Oo:aB ["document","variant","numbers","names","known","at","parts"] ["document","variant","numbers"]<|ay<|bU 86:=by decide+kernel
def o5(r:Wk K η A):Kn P w K η Ξ c9 3 "names_reached" ["document","variant","numbers"]<|NC K A:=by
 refine r.kn 39 Oo λl bS bT bU E a6=>?_;obtain⟨v,N,a,Q,aJ,d,ag,m,rfl,s,ak,R,aO,aP,a7,a8,a9,a_⟩:=a6;obtain⟨bV,bX,bY,a',bZ,b0,b6,b8,ba,b9,b_,x⟩:=id ak;have b':=Ć (mZ _) R.names;refine⟨_,ah (aH 3 Oo<|aI aj)<|ah (aH 4 Oo gY)<|ah (aT<|aR (Aw r) E D aG<|aa (pv 3)<|aa (pv 4)<|aa (aR (vI r) E D aG<|aa (pv 0)<|aa (pv 1)<|aa (pv 2) aj) aj)<|ah (aH 5 Oo az)<|ah (wj ğ (aF iP (pv 5) (aQ r.md.a_<|pv 3)<|aK _)<|ah (aH 6 Oo<|HE (fP E) (W (pv 0) D) (aY aM (pv 3) (pv 5) λ_ _=>D) (aI aj) ⟨D,D,D,D⟩)<|ah (aT<|aR (Aw r) E D aG<|aa (pv 3)<|aa (pv 4)<|aa (aR (vI r) E D aG<|aa (pv 0)<|aa (pv 1)<|aa (pv 6) aj) aj)<|ai<|qq (i:=5) Oo.nd D (nv D) az sj)<|ai<|aA<|pv 3,?_⟩
 refine⟨Ò _,λh y=>?_⟩;refineλk S=>?_;have aS:=ao af S;have X:l k=g:=by rw[au aS.symm]at S;exact S
 have Y:av l<|T (T l h<|.Y []) k<|.dT []:=(aq y).trans<|aq S;have al:(T (T l h<|.Y []) k<|.dT []) h=B (.Y []):=au aS▸af;have F:(T (T l h<|.Y []) k<|.dT []) k=B (.dT []):=af;generalize T (T l h<|.Y []) k (.dT [])=ca at Y al F;have g1:=s.trans Y;refine⟨v,N,a,Q,aJ,d,ag,m,D,g1,ak,R,aO,aP,av.seq Y a7,a8,a9,λbb cb bc aU s2 bd be=>?_⟩;refine⟨v,h,k,bb,[],[],[],bc,_,D,g1.trans s2,s2 _ _ al,.nil,s.free y,s.free X,(ao al aU).symm,(ao F aU).symm,s2 _ _ F,dg.nil,aN.of bd,be,?_,λbf bg bh bi bj bk b3 bl=>?_⟩
 .have:=jq _ _ (mh a d m)<|p8 a d m;show(L<|qi a d m)<=_;lia
 have s3:av l bf:=λG o j=>by rw[bi G (ao j y)<|ao j X];exact(Y.trans s2) G o j
 refine⟨λC aV p=>∃(e:M) (q:J O) (t:J<|J bW×V) (b:J Đ) (Z:É V),C=(L<|Ĺ a) -e/\av l p/\p h=B (.Y<|q.map V.ref)/\ď (Nm v) q b/\p k=B (.dT t)/\dg t b/\b.Nodup/\(∀n∈b,n∈Ĺ a)/\e<=L b/\ (∀f∈b.take e,∀C∈lA a d f,C∈b)/\cg (lA a d) ((L<|Ĺ a)+1) b=fq a d m/\aV=[B<|.ref N,B<|.ref Q,B<|.ref ag,B<|.ref h,B<|.ref k,B<|.int (e:M),Z],⟨_,0,bg,bh,qi a d m,g,D,s3,bj,bk,b3,bl,mh a d m,p8 a d m,Ò _,(λf am=>fX),D,D⟩,?_⟩
 refineλC aV an bm=>bx λaW H=>?_;obtain⟨e,q,t,b,Z,rfl,s4,ab,ap,b4,bn,ar,aw,cc,ax,bo,rfl⟩:=bm;apply H;have cd:=jq b _ ar aw;exists h,_,D,.inl<|aN.of ab;rw[Ε,ap.length];refine nU (λu=>?_) λu=>?_
 .have u:e<L b:=fX;refine bx λaW H=>?_;obtain⟨f,am⟩:∃f,b[e]?=B f:=⟨b[e],ą u⟩;obtain⟨ay,bp,bq⟩:=Paired.at2 ap am;apply H;have g4:=s.trans s4;refine⟨λaX p=>∃aZ,aZ<(L<|Ĺ a) -e/\∃(e:M) (q:J O) (t:J<|J bW×V) (b:J Đ) (Z:É V),aZ=(L<|Ĺ a) -e/\av l p/\p h=B (.Y<|q.map V.ref)/\ď (Nm v) q b/\p k=B (.dT t)/\dg t b/\b.Nodup/\(∀n∈b,n∈Ĺ a)/\e<=L b/\ (∀f∈b.take e,∀C∈lA a d f,C∈b)/\cg (lA a d) ((L<|Ĺ a)+1) b=fq a d m/\aX=[B<|.ref N,B<|.ref Q,B<|.ref ag,B<|.ref h,B<|.ref k,B<|.int (e:M),Z],λaX p ay=>ay,?_⟩
  refine⟨D,g4 _ _ x.ob,r.kl.doc.fo,D,a',D,.inr ⟨_,.inl<|g4 _ _ x.ch⟩,h,_,_,.ref ay,D,D,aN.of ab,bN (by rw[Ë,bp];rfl),Ò _,λj aB=>?_⟩;have aC:=s4.trans<|aq (o:=.Y []) aB;have aD:=aq (o:=.Y []) aB _ _ ab;have b5:=aq (o:=.Y []) aB _ _ b4;have a0:T an j (.Y []) j=B (.Y []):=af;generalize T an j (.Y [])=br at aC aD b5 a0;have I:=s.trans aC;exists _,jx.t (I _ _ x.ch)<|I _ _ bq;have bs:∃ad,(cW (bI ba)<|kT f).getD (.ref j)=.ref ad/\aN K br ad ((ř a Τ f).map nV):=by
   by_cases aE:f∈b7 Τ a
   .obtain⟨bt,bu,bv⟩:=x.ck.find aE;exact⟨bt,by rw[bu];rfl,aN.of<|I _ _<|x.tc _ bv⟩
   .exact⟨j,by rw[x.ck.miss aE];rfl,(gZ λz=>aE<|v_.mp z)▸aN.of a0⟩
  refine bx λaW H=>?_;obtain⟨ad,bw,bz⟩:=bs;apply H;rw[bw];have ce:=fY a Τ f;have cf:=R.blocks;refine⟨v,N,a,Q,aJ,d,ad,ř a Τ f,D,I,ak,R,aO,aP,bz,λi bA=>let⟨bB,F,_⟩:=dB.mp bA;⟨bB,F⟩,aL,λbC ch bD a1 ae bE bF=>?_⟩;have a2:((lA a d f).foldl Ċ b).Nodup:=kE _ _ ar;have a3:∀n∈(lA a d f).foldl Ċ b,n∈Ĺ a:=λn a4=>by
   rcases(cF _ _).mp a4 with z|z
   .exact aw n z
   .exact sP a d f n z
  refine⟨v,h,k,bC,q,t,b,bD,_,D,I.trans ae,ae _ _ aD,ap,s.free y,s.free X,(ao aD a1).symm,(ao b5 a1).symm,ae _ _ b5,bn,aN.of bE,bF,?_,λbG bH bJ bK bL bM bO bP=>?_⟩
  .have:=jq _ _ a2 a3;show(L<|(lA a d f).foldl Ċ b)<=_;lia
  have bQ:av l bG:=λG o j=>by rw[bK G (ao j y)<|ao j X];exact(aC.trans ae) G o j
  have a5:b<+:(lA a d f).foldl Ċ b:=lC _ _;refine⟨(L<|Ĺ a) -(e+1),aL,e+1,bH,bJ,(lA a d f).foldl Ċ b,_,D,bQ,bL,bM,bO,bP,a2,a3,Ć u a5.length_le,λn a4 ci cj=>?_,?_,D⟩
  .have j:((lA a d f).foldl Ċ b).take (e+1)=b.take (e+1):=by obtain⟨ck,bR⟩:=a5;rw[<-bR,List.take_append_of_le_length u]
   grind[Ĝ,cF]
  .rwa [HB (sP a d) (d9 _) ar aw am ax]
 .have u:e=L b:=aL;subst u;rw[č]at ax;have:b=fq a d m:=by rw[<-bo,t_ _ ax]
  exact(a_ h an q y s4 ab<|by rwa [<-this])
section
variable{tt:TT}{Q:VK}
noncomputable def mR (p:Ν->ě) (l:J Ν):J M:=(l.zipIdx.filter λa=>p a.1).map λa=>a.2
def zP(p:Ν->ě)(l:J Ν):(L<|mR p l)<=L l:=by unfold mR;rw[Ε];exact Ć (gH _ _) bh
theorem G2(p:Ν->ě)(l:J Ν)(x:Ν):mR p (l++[x])=mR p l++if p x then[L l] else[]:=by
 unfold mR
 grind
def Su(l:J Ν)(v:Ν->V)(p:Ν->ě)(N:aN K ο a<|l.map v)(ab:L l<=1000000)(O:i≠j)(Á:i<L σ)
  (P:∀x y,cE (((cE σ [i,j]).set i<|B x).set j<|B y) [i,j]=cE σ [i,j])
  (S:∀n x,l[n]?=B x->∀Θ (w:ě->Hp->Prop),av ο Θ->w (p x) Θ->tt (((cE σ [i,j]).set i<|B<|nV n).set j<|B<|v x) Θ w)
  (W:∀d Θ,ο d=g->av ο Θ->Θ d=B (.Y<|(mR p l).map nV)->Q (.ref d) Θ):
  ∀d,ο d=g->∃f:M->M->Hp->Prop,(∃m,f 0 m<|T ο d<|.Y [])/\∀n m H,f n m H->
   ((U1 K a).stop n H/\Q (.ref d) H)\/((U1 K a).go n H/\∃h:Hp->Prop,(∀R,h R->∃z,z<m/\f (n+1) z R)/\∀x R,(U1 K a).HW n H x R->TU K 2 (Bg (c8 i)<|Bg (c8 j) S8) x (cE σ [i,j]) R λk Θ=>cE k [i,j]=cE σ [i,j]/\tt k Θ λb A=> if b then aV i k A λy C=>∃acc,C d=B (.Y acc)/\L acc<sizeLine/\h (T C d<|.Y<|acc++[y]) else h A):=by
 intro d q;existsλn m H=>m=L l -n/\n<=L l/\av ο H/\H d=B (.Y<|(mR p<|l.take n).map nV),⟨_,D,Ò _,aq q,af⟩;rintro n m H ⟨rfl,ad,s1,r⟩;have s:=av.seq s1 N;by_cases E:n<L l
 .obtain⟨x,t⟩:∃x,l[n]?=B x:=⟨l[n],ą E⟩;have F:(l.map v)[n]?=B (v x):=by rw[Ë,t];rfl
  have ae:l.take (n+1)=l.take n++[x]:=by rw[Ĝ,t];rfl
  have ag:(L<|l.take n)=n:=fX;refine .inr ⟨⟨l.map v,v x,s,F⟩,λR=>av ο R/\R d=B (.Y<|(mR p<|l.take<|n+1).map nV),λR X=>⟨L l -(n+1),aL,D,E,X⟩,λy R u=>?_⟩;obtain⟨G,ah,rfl,I,rfl,u⟩:=u;have Y:=ĥ<|(u _ s).symm.trans F;subst Y;exists G,_,D,gb.of af,D,_,_,D,_,_,D,D,P _ _;have s2:av ο<|T H G<|.bO [.int (n:M),v x]:=s1.trans<|aq I;have Z:=aq (o:=.bO [.int (n:M),v x]) I _ _ r;refine S n x t _ _ s2 ?_;have ai:=zP p<|l.take n;refine gC (λaa=>?_) λaa=>?_
  .refine aV.of (v:=nV n) ?_ ⟨_,Z,by rw[Ε,Î];lia,λb o e=>?_,?_⟩
   .rw[lU<|Ϛ O,dM (by rw[k9];exact Á)];rfl
   .rw[au<|ao e q];exact s2 b o e
   simp_all[af,G2,à,Ý]
  .simp_all[G2,Ó,ö]
 .have e:n=L l:=aL;subst e;rw[č]at r;exact .inl ⟨⟨_,s,bh⟩,W d H q s1 r⟩
end
inductive K4(K:Ζ)(A:Ad)(vs:J V)(H:Hp)(Q:VK)(a:XK):Prop
 |mk(p c:_)(_:vs=[.ref p])(_:qk K A H p c)(_:L c.lines<=1000)(_:IZ H (mR lS c.lines) Q)
def Td:aB ["part","number","line"] ["part"]<|ay<|bU 88:=by decide+kernel
def yV(a:Wk K η A):Kn P w K η Ξ c9 1 "code_numbers" ["part"]<|K4 K A:=by
 refine a.kn 41 Td λE F G H I f=>?_;refine bx λJ h=>?_;obtain⟨L,M,rfl,⟨N,O,Q,k,l,R,S,T,d,m⟩,V,n⟩:=f;obtain⟨o,p,q,r⟩:=Paired.zip m;apply h;refine⟨_,ai<|aA<|gV (ς:=TU K 2<|Bg (c8 1)<|Bg (c8 2) S8) (tt:=tB<|Ek (Eb K)<|bg (aV 2)<|bg (tC<|.ref A.code) cB) (Â:=aV 1) D Td.nd (sQ D a.md.jn<|aa (W (pv 0) D) aj) (bL (own:=[("number",1),("line",2)])<|by kernel_rfl) (λ_ _ _ _ _=>xy D<|gk (bC 1 Td)<|gk (bC 2 Td) sW) (λ_ _ _ _ _=>vt<|bQ<|f_ a.md.bH (pv 2) a.kl.code.mg) λ_ _ _ _ _=>pv 1,?_⟩
 exists D,l,a.kl.part.fo,D,k,_,D,d;refine Su (i:=1) (j:=2) o (λb=>.ref b.1) (λb=>lS b.2) (by rw[p,Ħ]at d;exact d) xV bM (by show 1<3;decide) (λ_ _=>D) (λX b s e Y s2 t=>?_) λu e v s2 x=>n u e v s2 ?_
 .obtain⟨y,z,C⟩:=a.kl.o_<|(r b<|υ s).same s2;exact⟨_,_,y,_,D,z,C,t⟩
 .rw[x];congr 2;congr 1;unfold mR;rw[q,List.zipIdx_map,Sm,Ħ];rfl
theorem yp{Ν:Type}(p q:Ν->ě):∀N:J Ν,(∀x∈N,p x=U->q x=Τ)->(L<|N.filter p)+(L<|N.filter q)=(L<|N.filter λx=>p x||q x)
 |[],_=>D
 |x::N,a=>by
  have e:=yp p q N λb d=>a b<|Ç _ d
  grind
def GW(d:ó)(l:J Đ)(j:l.Nodup):(L<|l.flatMap λp=>ř d U p)<=L d:=by
 have k:∀l:J Đ,l.Nodup->(L<|l.flatMap λp=>ř d U p)=(L<|d.zipIdx.filter λa=>l.any λp=>dX U p a.1):=by
  intro l
  induction l with
  |nil=>
   intro _;have:(d.zipIdx.filter λa=>([]:J Đ).any λp=>dX U p a.1)=[]:=List.filter_eq_nil_iff.mpr λa _=>bh;rw[this];rfl
  |cons m l n=>
   intro f;rw[ϐ]at f;rw[ĕ,Ω,n f.2,jd,Ε,yp]
   .rfl
   .intro a _ b;cases o:(l.any λp=>dX U p a.1) with
    |false=>rfl
    |true=>
     obtain⟨p,q,h⟩:=RX.mp o;exfalso;cases i:a.1 with
     |prose r=>rw[i]at b;cases b
     |chunk e=>
      rw[i]at b h;have s:(e.isFile==U&&e.name==m)=U:=b;have t:(e.isFile==U&&e.name==p)=U:=h;simp_all
 rw[k l j];exact Ć (gH _ _) bh
def DY{d:O}{ς:TG}{tb:TS}{b:qO}(a:M->L2.St->Hp->Prop)(p:a 0 σ H)(r:∀i σ H,i<=L Β->a i σ H->H d=B (.jZ o<|.dT Β))
  (s:∀i k v q σ H,Β[i]?=B (k,v)->a i σ H->H q=B (.bO<|k.map kV)->ς (.ref q) σ H λe Θ=>tb {b with nx:=a<|i+1,ct:=a<|i+1,bk:=b.nx} e Θ) (t:∀σ H,a (L Β) σ H->b.nx σ H):
  ∃f:M->M->L2.St->Hp->Prop,(∃m,f 0 m σ H)/\∀i m σ H,f i m σ H->
   ((Rt d o Β).stop i H/\b.nx σ H)\/((Rt d o Β).go i H/\∃Δ:L2.St->Hp->Prop,(∀h R,Δ h R->∃l,l<m/\f (i+1) l h R)/\∀x R,(Rt d o Β).HW i H x R->ς x σ R λe Θ=>tb {b with nx:=Δ,ct:=Δ,bk:=b.nx} e Θ):=by
 existsλi m σ H=>m=L Β -i/\i<=L Β/\a i σ H,⟨L Β,bh,Ò _,p⟩;rintro i m σ H ⟨rfl,u,j⟩;have q:=r i σ H u j;by_cases n:i<L Β
 .refine .inr ⟨⟨q,n⟩,a<|i+1,λh R w=>⟨L Β -(i+1),by omega,D,n,w⟩,λx R y=>?_⟩;obtain⟨rfl,k,v,z,A,rfl,C⟩:=y;exact s i k v z σ _ A j C
 .have E:i=L Β:=aL;subst E;exact .inl ⟨⟨q,Õ _⟩,t σ H j⟩
theorem dg.merge:∀(Ô:J<|O×Đ) (acc:J<|J bW×V) (Þ:J Đ),dg acc Þ->dg (mX acc<|Ô.map λz=>(z.1,kT z.2,.bl U)) ((Ô.map λz=>z.2).foldl Ċ Þ)
 |[],acc,Þ,a=>a
 |z::Ô,acc,Þ,a=>by have:=dg.merge Ô (c7 acc (kT z.2)<|.bl U) (Ċ Þ z.2)<|a.put z.2 _;exact this
theorem Paired.mapR{Ν d e:Type}{f:Ν->e->Prop}{ς:d->e}:∀{l:J Ν} {m:J d},ď (λa b=>f a<|ς b) l m->ď f l (m.map ς)
 |_,_,.nil=>.nil
 |_,_,.cons h i=>.cons h<|Paired.mapR i
theorem Paired.refs{Ν:Type}{χ:O->Ν->Prop}:∀{l:J Ν} {Å:J V},ď (λx y=>∃b,y=V.ref b/\χ b x) l Å->∃θ:J O,Å=θ.map V.ref/\ď χ θ l
 |_,_,.nil=>⟨[],D,.nil⟩
 |_,_,.cons a d=>by obtain⟨b,rfl,e⟩:=a;obtain⟨θ,rfl,f⟩:=Paired.refs d;exact⟨b::θ,D,.cons e f⟩
def Pe(Β:J<|bW×V)(l:J M):Prop:=∀n:M,(cW Β<|.inl (n:Z)).isSome=l.contains n
theorem ya:∀(a:J M) (Β:J<|bW×V) (l:J M),Pe Β l->Pe (oA Β<|a.map λn=>(.inl ((n:M):Z),.bl U)) (l++a)
 |[],Β,l,d=>by rwa [ö]
 |m::a,Β,l,d=>by
  have:=ya a (c7 Β (.inl ((m:M):Z))<|.bl U) (l++[m]) (λn=>by
   rw[mL];by_cases b:n=m
   .subst b;simp
   .rw[Ó λe=>b aL,d n];rw[ϱ,ē,ē];simp[b])
  rw[ϊ]at this;exact this
noncomputable def yz (on:J Đ) (a:Đ->ě) (i:M):zF->J (M×M)
 |.prose _=>[]
 |.chunk c=>((mR lS c.lines).filter λn=> !(if(c.isFile||a c.name) then(Œ on 0 [] c.lines).map (λx=>x.1) else[]).contains n).map λn=>(i,n)
theorem Mx(d:ó)(on:J Đ):dZ d on=d.zipIdx.flatMap λa=>yz on (λn=>(fq d on<|(Ŗ d).flatMap λp=>ř d U p).contains n) a.2 a.1:=by
 unfold dZ;dsimp only;have h:∀(b:J<|zF×M) (e f:zF×M->J (M×M)),(∀a∈b,e a=f a)->b.flatMap e=b.flatMap f:=λb e f i=>by rw[dY,dY,ϰ i]
 refine h _ _ _ λa _=>?_;cases k:a.1 with
 |prose l=>rfl
 |chunk j=>
  dsimp only[yz];rw[KD d on j.name];unfold mR;rw[Sm,Ħ,List.filter_filter];congr 1;refine List.filter_congr λb _=>?_;rw[Bool.and_comm];congr 1
def Og(on:J Đ)(a:Đ->ě)(i:M)(c:iz):(L<|yz on a i<|.chunk c)<=L c.lines:=by show(L<|List.map _<|List.filter _ _)<=_;rw[Ε];exact Ć (gH _ _)<|zP _ _
def Al(d:ó)(on:J Đ)(b:Đ->ě)(i:M):J<|M×M:=(d.take i).zipIdx.flatMap λa=>yz on b a.2 a.1
def Io(on:J Đ)(a:Đ->ě){b:zF}(h:d[i]?=B b):Al d on a (i+1)=Al d on a i++yz on a i b:=by
 have e:=(Ð.mp h).1;have f:d.take (i+1)=d.take i++[b]:=by rw[Ĝ,h];rfl
 unfold Al
 grind
def Y7(i:M)(G:Hp)(n:M)(y:V):Prop:=∃b,y=.ref b/\G b=B (.bO [nV i,nV n])
inductive W3(K:Ζ)(A:Ad)(vs:J V)(H:Hp)(Q:VK)(b:XK):Prop
 |mk (G À d Ì ä on:_) (_:vs=[.ref À,.ref Ì]) (_:av G H) (_:Ua K A G À d) (_:eN d) (_:G Ì=B (.dT ä)) (_:dg ä on) (_:∀D R as,av H R->R D=B (.Y<|as.map V.ref)->ď (λa (z:M×M)=>R a=B (.bO [nV z.1,nV z.2])) as (dZ d on)->Q (.ref D) R)
def YL{t u:TT}{Q:ě->Hp->Prop}(b1 b2:ě)(á:∀a:ě->Hp->Prop,a b1 H->t σ H a)(í:∀a:ě->Hp->Prop,a b2 H->u σ H a)(h:Q (b1||b2) H):tOr t u σ H Q:=by
 refine á _ ?_;cases b1
 .exact dJ<|í _ h
 .exact bS h
def uI:aB ["document","variant","numbers","path","reached","name","places","block","part","live","number"] ["document","variant"]<|ay<|bU 87:=by decide+kernel
def CT(an:Wk K η A):Kn P w K η Ξ c9 4 "idle_lines" ["document","variant"]<|W3 K A:=by
 have k:=an.kl;refine an.kn 40 uI λS dM Q dN aB y=>?_;obtain⟨G,aC,d,bq,co,z,rfl,H,⟨cT,cp,C,cU,cV,cX,cq,o,cZ,c0,c1,q,cr⟩,aE,cs,a2,c2⟩:=y;refine⟨_,ah (aH 2 uI<|aI aj)<|ah (L3<|cS ğ D (LZ<|W (pv 0) D) (bC 3 uI)<|ai<|aT<|kF (pv 2)<|pY (fP aB) (W (pv 0) D) (pv 3) λ_ _=>D)<|ah (aH 4 uI<|mw (AX D aB.units) D an.md.J_ (by decide+kernel)<|aa (gV (Â:=Ig<|bg (aV 5)<|bg (tC<|.bl U) cB) D uI.nd (bu<|aR (o5 an) aB D aG<|aa (pv 0)<|aa (pv 1)<|aa (pv 2) aj) (bL (own:=[("name",5)])<|by kernel_rfl) (λ_ _ _ _ _=>bC 5 uI) (λ_ _ _ _ _=>cY) λ_ _ _ _ _=>mO<|aa (pv 5)<|aa lg aj) aj)<|ah (aH 6 uI<|aI aj)<|ah (cS ğ D (sQ D an.md.jn<|aa (W (pv 0) D) aj) (xy D<|gk (bC 7 uI)<|gk (bC 8 uI) sW)<|ai<|aJ (fy<|zR<|pv 8) (ah (aH 9 uI P_)<|ah (aJ (PW.pt<|lz (bQ<|W (pv 8) D)<|iu<|fy (Fw (fP aB) (W (pv 8) D)<|pv 4)<|by with_unfolding_all rfl) (ai<|aH 9 uI<|mw (KZ<|by rfl) D an.md.J_ (by decide+kernel)<|aa (gV (Â:=Ig<|bg (aV 10)<|bg (tC<|.bl U) cB) D uI.nd (bu<|aR (iU an) aB D aG<|aa (pv 8)<|aa (pv 1) aj) (bL (own:=[("number",10)])<|by kernel_rfl) (λ_ _ _ _ _=>bC 10 uI) (λ_ _ _ _ _=>cY) λ_ _ _ _ _=>mO<|aa (pv 10)<|aa lg aj) aj) aD)<|ai<|aT<|kF (pv 6)<|gV (tt:=tB<|zM (aV 10)<|aV 9) (Â:=Ig<|bg (aV 7)<|bg (aV 10) cB) D uI.nd (bu<|aR (yV an) aB D aG<|aa (pv 8) aj) (bL (own:=[("number",10)])<|by kernel_rfl) (λ_ _ _ _ _=>bC 10 uI) (λ_ _ _ _ _=>vt<|fy (pF (fP aB) (pv 10)<|pv 9)<|by with_unfolding_all rfl) λ_ _ _ _ _=>mO<|aa (pv 7)<|aa (pv 10) aj) aD)<|ai<|aA<|pv 6,?_⟩
 refine⟨Ò _,λs bM=>?_⟩;have br:av S<|T S s<|.Y []:=aq bM;have a3:(T S s<|.Y []) C=B (.dT<|bI o):=br _ _<|H _ _ cr;have bN:(T S s<|.Y []) s=B (.Y []):=af;generalize T S s (.Y [])=a4 at br a3 bN;have g1:av G a4:=H.trans br;have bO:s≠C:=bB bN a3 bh;have ct:aC≠C:=bB (g1 _ _ q.ob) a3 (by intro a;cases a);refine⟨C,_,a3,Ϗ,λbs=>?_⟩;have bP:∀b,b≠C->T a4 C (.jZ bs<|.dT<|bI o) b=a4 b:=λb aF=>au aF;refine⟨D,bP aC ct▸g1 _ _ q.ob,k.doc.fo,D,C,bs,D,.inr ⟨_,af,?_⟩⟩;have dO:L o<=200:=by have r:=q.fk.len;have ap:=aE.blocks;unfold bI at r;rw[Ε]at r;lia
 refine DY (λi ae h=>∃u,(∀b,b≠C->b≠s->h b=a4 b)/\h C=B (.jZ bs<|.dT<|bI o)/\h s=B (.Y<|((o.take i).flatMap λa=>a.2.2).map nV)/\ae=[B<|.ref aC,B<|.ref bq,B<|.ref s,u,g,g,g,g,g,g,g]) ⟨g,λb r ap=>bP b r,af,bP s bO▸bN,D⟩ ?_ ?_ ?_
 .rintro i ae h _ ⟨_,_,y,_⟩;exact y
 .refineλi dP ar f ae ag bt a5=>bx λaK E=>?_;obtain⟨u,a6,f2,a1,rfl⟩:=a5;refine E λc3=>?_;unfold bI at bt;rw[Ë]at bt;refine bx λaK E=>?_;obtain⟨a,ak,l⟩:=Ü.mp bt;apply E;cases l;have a7:=υ ak;have cu:o.take (i+1)=o.take i++[a]:=by rw[Ĝ,ak];rfl
  have cv:a4 a.2.1=B (.Y<|a.2.2.map nV):=g1 _ _<|q.tf a a7;have c4:a.2.1≠s:=λw=>by have:=H _ _<|q.tf a a7;rw[w,bM]at this;cases this
  have c5:aC≠s:=λw=>by have:=H _ _ q.ob;simp_all
  refine bx λaK E=>?_;obtain⟨cw,cx,c6⟩:=q.fk.find (n:=a.1)<|q.fk.names▸ō a7;apply E;have c7:cw=a.2.1/\ř d U a.1=a.2.2:=by
   refine⟨?_,(q.fk.parts a a7).symm⟩;have dQ:cW (bI o) (kT a.1)=B (.ref a.2.1):=by
    have cy:=ql U d;rw[<-q.fk.names]at cy;clear cx c6 bt cu;have:∀(t:m8),(t.map λa=>a.1).Nodup->a∈t->cW (bI t) (kT a.1)=B (.ref a.2.1):=by
     intro t
     induction t with
     |nil=>simp
     |cons v t aM=>
      intro bR ad;rw[þ,ϐ]at bR;rcases ç.mp ad with w|w
      .subst w;exact gj (p:=(kT a.1,V.ref a.2.1)) D
      .have:cW (bI<|v::t) (kT a.1)=cW (bI t) (kT a.1):=fO (p:=(kT v.1,V.ref v.2.1)) λl=>bR.1<|u0 l▸ō w;rw[this];exact aM bR.2 w
    exact this o cy a7
   simp_all
  obtain⟨rfl,c_⟩:=c7;have bv:=fY d U a.1;have aF:=aE.blocks;refine⟨.inl ⟨D,_,aN.of a1⟩,D,a6 aC ct c5▸g1 _ _ q.ob,k.doc.fo,D,C,.ref a.2.1,D,.inr ⟨bI o,kT a.1,f,.inr ⟨bs,f2⟩,D,c3,cx.symm⟩,s,a.2.1,_,_,D,D,a1,.inl<|aN.of (a6 _ (bB cv a3 (by intro w;cases w)) c4▸cv:ag a.2.1=B (.Y<|a.2.2.map nV)),?_,_,λb r ap=>?_,?_,?_,D⟩
  .have dR:(L<|(o.take i).flatMap λa=>a.2.2)<=200*i:=by
    have:∀t:m8,(∀v∈t,v∈o)->(L<|t.flatMap λa=>a.2.2)<=200*L t:=by
     intro t
     induction t with
     |nil=>intro _;exact Ò _
     |cons v t aM=>
      intro bw;have r:=aM λw c'=>bw w<|Ç _ c';have ap:v.2.2.length<=200:=by rw[q.fk.parts v<|bw v Ö];have:=fY d U v.1;lia
      grind
    grind
   have da:i<L o:=(Ð.mp ak).1;rw[Ε,Ε,<-c_,Î];lia
  .rw[au ap];exact a6 b r ap
  .rw[au bO.symm];exact f2
  .rw[af,cu,ċ,ĕ,Ů,ö,Ý]
 .refineλae ag a5=>bx λaK E=>?_;obtain⟨u,a6,f2,a1,rfl⟩:=a5;apply E;have db:(L<|bI o)=L o:=Ε _;rw[db,č]at a1;refine⟨f2,?_⟩;have dc:(o.flatMap λa=>a.2.2)=(Ŗ d).flatMap λp=>ř d U p:=by rw[jc,<-q.fk.names,lE,dY,dY];congr 1;exact ϰ λa ak=>q.fk.parts a ak
  rw[dc]at a1;have s3:av S<|T ag C<|.dT<|bI o:=λb a8 l=>by
   by_cases f:b=C
   .subst f;rw[af];have:=H _ _ cr;rw[this]at l;exact l
   .rw[au f,a6 b f<|ao l bM];exact br b a8 l
  have cz:T ag C (.dT<|bI o) s=B (.Y<|((Ŗ d).flatMap λp=>ř d U p).map nV):=au bO▸a1;generalize T ag C (.dT<|bI o)=dd at s3 cz;have g3:av G dd:=H.trans s3;have dS:=GW d (Ŗ d) (by simp[jc,ql]);have aF:=aE.blocks;have de:∀i∈(Ŗ d).flatMap (λp=>ř d U p),∃m,d[i]?=B (fc m):=λi df=>by obtain⟨p,_,r⟩:=ŋ.mp df;obtain⟨m,ap,_⟩:=dB.mp r;exact⟨m,ap⟩
  refine⟨G,aC,d,bq,co,z,s,_,D,g3,⟨cT,cp,C,cU,cV,cX,cq,o,cZ,c0,c1,q⟩,aE,cs,a2,aN.of cz,de,aL,λdh di dT dU s4 bT dj=>?_⟩;refine bx λaK E=>?_;obtain⟨aO,dk,cA,dl⟩:=Paired.zip dj;apply E;have dV:L aO<=82460:=by have r:=KS d z<|(Ŗ d).flatMap λp=>ř d U p;have ap:=Ć (mZ _) aE.names;rw[cA,Ε]at r;lia
  refine⟨dh,D,⟨_,aN.of bT⟩,?_⟩;refine sR (G:=di) (Q:=λar h=>∃e F al,[ar]=[V.ref e]/\aN K h e (F.map V.ref)/\ď (λp (a:O×J bW×V)=>gb K h p [.ref a.1,a.2.2]/\h a.1=B (.bO<|a.2.1.map kV)) F al/\∀p,h p=g->c8 4 (.ref p) _ (T h p<|.dT<|mX [] al) _) (Χ:=λG (aw:O×Đ) v=>∃b,v=.ref b/\G b=B (.bO [.ref aw.1,.bl U])) (λ_ _ _ _ y l=>let⟨b,aP,aQ⟩:=y;⟨b,aP,l _ _ aQ⟩) aO (λa=>.ref a.1) (by rw[dk,Ħ]at bT;exact aN.of bT) (av.refl _) (by rw[Î];lia) (λa ad a9 a_ aS X Y=>?_) λbU cC ax bV dm aU bz ay=>?_
  .refine⟨by simp[sizeLine,Î],λb aW=>Y _ _ _ ((Ex.refl X.sub).made aW) ⟨b,D,af⟩⟩
  obtain⟨F,rfl,dn⟩:=Paired.refs ay;have dp:ď (λp (a:O×J bW×V)=>gb K ax p [.ref a.1,a.2.2]/\ax a.1=B (.bO<|a.2.1.map kV)) F<|aO.map λa=>(a.1,kT a.2,V.bl U):=by
   have:∀(al:J<|O×Đ) (F:J O),(∀a∈al,a∈aO)->ď (λb (aw:O×Đ)=>cC b=B (.bO [.ref aw.1,.bl U])) F al->ď (λp (a:O×J bW×V)=>gb K ax p [.ref a.1,a.2.2]/\ax a.1=B (.bO<|a.2.1.map kV)) F (al.map λa=>(a.1,kT a.2,V.bl U)):=by
    intro al
    induction al with
    |nil=>intro F _ y;cases y;exact .nil
    |cons a al aM=>
     intro F ad y;cases y with
     |cons r t=>exact .cons ⟨gb.of<|aU.sub _ _ r,aU.same _ _<|(g3.trans s4) _ _<|dl a<|ad a Ö⟩<|aM _ (λv bw=>ad v<|Ç _ bw) t
   exact this aO F (λa ak=>ak) dn
  refine⟨bU,F,_,D,aN.of bz.at_,dp,λI cD=>?_⟩;have cE:=dg.merge aO [] [] dg.nil;generalize mX [] (aO.map λa=>(a.1,kT a.2,V.bl U))=az at cE;have dq:∀n:Đ,(cW az<|kT n).isSome=(fq d z<|(Ŗ d).flatMap λp=>ř d U p).contains n:=λn=>by rw[cE.isSome n,cA,ϱ,ē,ē,cF];simp
  have bY:av S<|T ax I<|.dT az:=((s3.trans s4).trans aU.same).trans<|aq cD;have bZ:(T ax I<|.dT az) I=B (.dT az):=af;show c8 4 (.ref I) _ (T ax I<|.dT az) _;generalize T ax I (.dT az)=bA at bY bZ;refine⟨Ò _,λx bv=>?_⟩;have b0:av S<|T bA x<|.Y []:=bY.trans<|aq bv;have cG:S x=g:=bY.free bv;have b6:I≠x:=ao bZ bv;have cH:(T bA x<|.Y []) I=B (.dT az):=au b6▸bZ;have cI:(T bA x<|.Y []) x=B (.Y []):=af;generalize T bA x (.Y [])=dr at b0 cH cI;have cJ:av G dr:=H.trans b0;have dW:S I=g:=by have:=cD;exact((s3.trans s4).trans aU.same).free this
  refine⟨D,cJ _ _ q.ob,k.doc.fo,D,cp,_,D,av.seq cJ q.bl,?_⟩;have dX:Đ->ě:=λn=>(fq d z<|(Ŗ d).flatMap λp=>ř d U p).contains n;refine rH (K:=K) (N:=cq) (i:=7) (j:=8) (λi ae h=>∃R b7 b8 b9,av S h/\h I=B (.dT az)/\h x=B (.Y<|R.map V.ref)/\ď (λe (a:M×M)=>h e=B (.bO [nV a.1,nV a.2])) R (Al d z (λn=>(fq d z<|(Ŗ d).flatMap λp=>ř d U p).contains n) i)/\L R<=400*i/\ ae=[B<|.ref aC,B<|.ref bq,B<|.ref s,u,B<|.ref I,g,B<|.ref x,b7,b8,b9,g]) ⟨[],g,g,g,b0,cH,cI,.nil,Ò _,D⟩ ?_ ?_ ?_
  .rintro i ae h _ ⟨_,_,_,_,s1,_⟩;exact av.seq (H.trans s1) q.bl
  .refineλi aw ae a' cK ds a5=>bx λaK E=>?_;obtain⟨R,b7,b8,b9,b_,cL,b',ba,dt,rfl⟩:=a5;refine E λdu=>?_;refine bx λaK E=>?_;obtain⟨b,aF,cM⟩:=Paired.at_ q.bs ds;apply E;have da:i<L d:=(Ð.mp aF).1;have sT:av a'<|T a' cK<|.bO [.int (i:M),aw]:=aq du;have bD:=b_.trans sT;have ca:=sT _ _ cL;have cb:=sT _ _ b';have cc:=Paired.cj (λe (a:M×M) f=>sT e _ f) ba;generalize T a' cK (.bO [.int (i:M),aw])=bb at bD ca cb cc;have cd:=Io (d:=d) z (λn=>(fq d z<|(Ŗ d).flatMap λp=>ř d U p).contains n) aF;cases b with
   |prose t=>
    cases cM;refine(dJ ⟨R,_,_,_,bD,ca,cb,?_,aL,D⟩);rw[cd];show ď _ R (_++[]);rw[ö];exact cc
   |chunk m=>
    obtain⟨p,rfl,bE⟩:=cM;have cN:m∈ć d:=bX.mpr ⟨i,aF⟩;have dZ:=nc cN;have d0:=aE.IP;have d1:av G bb:=H.trans bD;refine(bS λbc dv=>?_);have bF:av bb<|T bb bc<|.dK []:=aq dv;have bG:=bD.trans bF;have bH:=bF _ _ ca;have ce:=bF _ _ cb;have cf:=Paired.cj (λe (a:M×M) f=>bF e _ f) cc;have cO:(T bb bc<|.dK []) bc=B (.dK []):=af;generalize T bb bc (.dK [])=cg at bG bH ce cf cO;have bd:av G cg:=H.trans bG;refine bx λaK E=>?_;obtain⟨d2,n,d3,cw,cP,dw,d4,d5⟩:=id bE;apply E;dsimp only[c8,Lm,qM];refine YL (t:=tB<|i9 K (aV 8)<|yM "of_file") (u:=tB<|Uc (i9 K (aV 8)<|yM "name")<|aV 4) m.isFile ((fq d z<|(Ŗ d).flatMap λp=>ř d U p).contains m.name) (λaS f=>by exact⟨D,bd _ _ cP,k.part.fo,D,f⟩) (λaS f=>by exact⟨D,bd _ _ cP,k.part.fo,D,I,_,D,jx.t bH<|bd _ _ dw,by rw[dq];exact f⟩) ?_;obtain⟨ab,aX⟩:=(⟨_,D⟩:∃ab:J M,ab=(if(m.isFile||(fq d z<|(Ŗ d).flatMap λp=>ř d U p).contains m.name) then(Œ z 0 [] m.lines).map (λaw=>aw.1) else[]));have ch:yz z (λn=>(fq d z<|(Ŗ d).flatMap λp=>ř d U p).contains n) i (.chunk m)=((mR lS m.lines).filter λn=> !ab.contains n).map λn=>(i,n):=by rw[aX];rfl
    refine gC (λci=>?_) λci=>?_
    .rw[à ci]at aX;refine⟨p,bq,m,co,z,D,bE.same bd,bd _ _ cs,a2,(aE.chunk m cN).2,aL,λdx dy d6 dz bJ=>?_⟩;rw[<-aX]at bJ;have dA:L ab<=400:=by have:=jO z m.lines 0 [];rw[aX,Ε];lia
     refine⟨dx,D,⟨_,aN.of bJ⟩,?_⟩;refine sR (G:=dy) (Q:=λar h=>∃e F cQ,[ar]=[V.ref e]/\aN K h e (F.map V.ref)/\ď (λp a2=>gb K h p [kV a2.1,a2.2]) F cQ/\∀p,h p=g->c8 9 (.ref p) _ (T h p<|.dK<|oA [] cQ) _) (Χ:=λG (n:M) v=>∃b,v=.ref b/\G b=B (.bO [nV n,.bl U])) (λ_ _ _ _ y l=>let⟨b,aP,aQ⟩:=y;⟨b,aP,l _ _ aQ⟩) ab (λn=>nV n) (aN.of bJ) (av.refl _) (by rw[Î];lia) (λa ad a9 a_ aS X Y=>?_) λbU cC bK bV dm aU bz ay=>?_
     .refine⟨by simp[sizeLine,Î],λb aW=>Y _ _ _ ((Ex.refl X.sub).made aW) ⟨b,D,af⟩⟩
     obtain⟨dC,rfl,dD⟩:=Paired.refs ay;refine⟨bU,dC,ab.map λn=>(.inl ((n:M):Z),.bl U),D,aN.of bz.at_,?_,λaY dE=>?_⟩
     .clear ch aX bJ dA bz ay
      induction dD with
      |nil=>exact .nil
      |cons r t aM=>exact .cons (gb.of<|aU.sub _ _ r) aM
     have cj:=ya ab [] [] λn=>D;rw[mu]at cj;generalize oA [] (ab.map λn=>(Dl ((n:M):Z),V.bl U))=be at cj;show c8 9 (.ref aY) _ (T bK aY<|.dK be) _;have bf:av cg<|T bK aY<|.dK be:=(dz.trans aU.same).trans<|aq dE;have cR:(T bK aY<|.dK be) aY=B (.dK be):=af;generalize T bK aY (.dK be)=dF at bf cR;have bi:=bG.trans bf;have bj:=bf _ _ ce;refine⟨.inl ⟨D,_,aN.of bj⟩,p,m,D,bE.same<|H.trans bi,aL,λck cl dG bk bl=>?_⟩;have dH:=zP lS m.lines;refine⟨ck,D,⟨_,aN.of bl⟩,?_⟩;refine Lw (K:=K) (i:=10) (Q:=λar h=>Uw K (.ref x) [ar] h λ_ ag=>qO.nx _ _ ag) (tt:=tB<|zM (aV 10)<|aV 9) (Â:=Ig<|bg (aV 7)<|bg (aV 10) cB) (G:=cl) (Χ:=Y7 i) (λ_ _ _ _ y l=>let⟨b,aP,aQ⟩:=y;⟨b,aP,l _ _ aQ⟩) (mR lS m.lines) (λn=>nV n) (λn=> !ab.contains n) (aN.of bl) (av.refl _) (by rw[Î];lia) (λa ad a9 a_ aS X Y=>?_) (λa ad ak a9 a_ aS X Y=>?_) λcm dI aZ bV dK bm cn ay=>?_
     .refine⟨aY,_,D,jx.k (k:=.inl ((a:M):Z))<|X.same _ _<|bk _ _ cR,?_⟩;rw[cj a];exact Y
     .refine⟨by simp[sizeLine,Î],λb aW=>Y _ _ _ ((Ex.refl X.sub).made aW) ⟨b,D,af⟩⟩
     obtain⟨a0,rfl,bn⟩:=Paired.refs ay;have am:av dF aZ:=bk.trans bm.same;have bo:=am _ _ bj;have dL:L a0<=400:=by
      have r:=bn.length
      grind
     refine⟨x,cm,_,_,D,D,bo,.inl<|aN.of cn.at_,by rw[Ε,Ε,Î];lia,R++a0,_,_,_,λb a8 l=>?_,?_,?_,?_,xV,D⟩
     .rw[au<|ao l cG];exact(bi.trans am) b a8 l
     .rw[au b6];exact am _ _<|bf _ _ bH
     .simp[af,Ý]
     .rw[cd];have bp:∀e (a:M×M),aZ e=B (.bO [nV a.1,nV a.2])->T aZ x (.Y<|R.map V.ref++a0.map V.ref) e=B (.bO [nV a.1,nV a.2]):=λe a f=>by rw[au<|bB f bo (by intro w;cases w)];exact f
      refine Paired.app (Paired.cj (λe a f=>bp e a<|am e _ f)<|Paired.cj (λe (a:M×M) f=>bf e _ f) cf) ?_;rw[ch];refine Paired.mapR<|Paired.cj (λe (n:M) f=>bp e (i,n)<|bm.sub _ _ f) bn
    .rw[Ó (by rw[ci];decide)]at aX;have bi:=bG;have bj:=ce;refine⟨.inl ⟨D,_,aN.of bj⟩,p,m,D,bE.same<|H.trans bi,aL,λck cl dG bk bl=>?_⟩;have dH:=zP lS m.lines;refine⟨ck,D,⟨_,aN.of bl⟩,?_⟩;refine Lw (K:=K) (i:=10) (Q:=λar h=>Uw K (.ref x) [ar] h λ_ ag=>qO.nx _ _ ag) (tt:=tB<|zM (aV 10)<|aV 9) (Â:=Ig<|bg (aV 7)<|bg (aV 10) cB) (G:=cl) (Χ:=Y7 i) (λ_ _ _ _ y l=>let⟨b,aP,aQ⟩:=y;⟨b,aP,l _ _ aQ⟩) (mR lS m.lines) (λn=>nV n) (λn=> !ab.contains n) (aN.of bl) (av.refl _) (by rw[Î];lia) (λa ad a9 a_ aS X Y=>?_) (λa ad ak a9 a_ aS X Y=>?_) (λcm dI aZ bV dK bm cn ay=>?_)
     .refine⟨bc,_,D,jx.k (k:=.inl ((a:M):Z))<|X.same _ _<|bk _ _ cO,?_⟩;rw[(aX▸λn=>D:Pe ([]:J<|bW×V) ab) a];exact Y
     .refine⟨by simp[sizeLine,Î],λb aW=>Y _ _ _ ((Ex.refl X.sub).made aW) ⟨b,D,af⟩⟩
     obtain⟨a0,rfl,bn⟩:=Paired.refs ay;have am:av cg aZ:=bk.trans bm.same;have bo:=am _ _ bj;have dL:L a0<=400:=by
      have r:=bn.length
      grind
     refine⟨x,cm,_,_,D,D,bo,.inl<|aN.of cn.at_,by rw[Ε,Ε,Î];lia,R++a0,_,_,_,λb a8 l=>?_,?_,?_,?_,xV,D⟩
     .rw[au<|ao l cG];exact(bi.trans am) b a8 l
     .rw[au b6];exact am _ _ bH
     .simp[af,Ý]
     .rw[cd];have bp:∀e (a:M×M),aZ e=B (.bO [nV a.1,nV a.2])->T aZ x (.Y<|R.map V.ref++a0.map V.ref) e=B (.bO [nV a.1,nV a.2]):=λe a f=>by rw[au<|bB f bo (by intro w;cases w)];exact f
      refine Paired.app (Paired.cj (λe a f=>bp e a<|am e _ f) cf) ?_;rw[ch];refine Paired.mapR<|Paired.cj (λe (n:M) f=>bp e (i,n)<|bm.sub _ _ f) bn
  .rintro ae a' ⟨R,b7,b8,b9,b_,cL,b',ba,dt,rfl⟩;refine(c2 x a' R b_ b' ?_);rw[Mx];unfold Al at ba;rw[q.bs.length,č]at ba;exact ba
noncomputable def iL (À Ì ÿ:O):J<|S×V:=[("document",.ref À),("variant",.ref Ì),("made",.ref ÿ)]
structure uW(K:Ζ)(A:Ad)(Ι G H:Hp)(h Ο À Ì ÿ:O)(ä ĵ:J<|J bW×V)(Į:J Đ)(d:ó)(on:J Đ):Prop where
 oh:Lo G H h<|.aE A.bG Ο<|iL À Ì ÿ
 om:Lo G H ÿ<|.dT ĵ
 zh:Ι h=g
 zm:Ι ÿ=g
 doc:oU K A G À d
 FY:eN d
 vv:G Ì=B (.dT ä)
 kv:dg ä on
 km:dg ĵ Į
 nd:Į.Nodup
 sb:∀p∈Į,p∈Ŗ d
 mv:∀p v,cW ĵ (kT p)=B v->∃m,v=.ref m/\sD K A G m d (fS d on p)
section
variable{Ú:Hp}{h Ο À Ì ÿ:O}{Į:J Đ}
theorem uW.ne(s:uW K A Ι G H h Ο À Ì ÿ ä ĵ Į d on):h≠ÿ:=bB s.oh.at_ s.om.at_ (by intro a;cases a)
theorem uW.ex(s:uW K A Ι G H h Ο À Ì ÿ ä ĵ Į d on)(e:Ex G H Κ R):uW K A Ι Κ R h Ο À Ì ÿ ä ĵ Į d on:=
 ⟨s.oh.ex e,s.om.ex e,s.zh,s.zm,s.doc.same e.le,s.FY,e.le _ _ s.vv,s.kv,s.km,s.nd,s.sb,λa b h=>let⟨f,i,j⟩:=s.mv a b h;⟨f,i,j.same e.le⟩⟩
theorem uW.heap(s:uW K A Ι G H h Ο À Ì ÿ ä ĵ Į d on)(a:av G H)(e:av H R):uW K A Ι G R h Ο À Ì ÿ ä ĵ Į d on:=s.ex<|Ex.heap a e
end
def sf(K:Ζ)(H:Hp)(a:O)(t:ê):Prop:=Tx K H a t\/Nm H a t
theorem sf.same{t:ê}(h:sf K H a t)(e:av H R):sf K R a t:=h.elim (λb=>.inl<|b.same e) λb=>.inr<|b.same e
def N2{Q:VK}{t:ê}(h:sf K H a t)(k:∀q R,av H R->Nm R q t->Q (.ref q) R):RA K [.ref a] H Q:=by
 rcases h with h|h
 .exact⟨a,_,D,.inl ⟨h,λb d=>k b _ (aq d)<|Nm.of af⟩⟩
 .exact⟨a,_,D,.inr ⟨h.sq,k a H (av.refl _) h⟩⟩
inductive ZJ(K:Ζ)(i:M)(σ:L2.St)(H:Hp)(Q:VK):Prop
 |mk(a t:_)(_:σ[i]?=B (B<|V.ref a))(_:sf K H a t)(_:∀q R,av H R->Nm R q t->Q (.ref q) R)
def Fz{p pos:kX}(a:X.mg "tuple"=g)(b:PE X e<|aV i)(d:Gl X "tuple":=by rfl)(f:ë [e] X.env=(Τ,Ŧ e X.env)::ë [] X.env:=by rfl):PE X (.Call (.Name "tuple" p) [e] [] pos)<|ZJ K i:=
 λh j k l m n ⟨s,t,o,q,r⟩=>iO a b d f h j k l m n<|aV.of o<|N2 q r
noncomputable def CC (d:ó) (on:J Đ) (p:ê):Z:=if(Ŗ d).contains p then(match fS d on p with|.ok _=>0|.error _=> -4) else -3
section
variable(K:Ζ)(A:Ad)
inductive YJ(vs:J V)(H:Hp)(Q:VK)(e:XK):Prop
 |mk(Ú Ι G h Ο À Ì ÿ ä ĵ Į d on a b:_)(_:vs=[.ref h,.ref a])(_:Ex Ú Ι G H)(_:uW K A Ι G H h Ο À Ì ÿ ä ĵ Į d on)(_:sf K H a b)(_:∀R,av H R->Q (.bl<|(Ŗ d).contains b) R)
inductive aai(vs:J V)(H:Hp)(Q:VK)(i:XK):Prop
 |mk(Ú Ι G h Ο À Ì ÿ ä ĵ Į d on b a:_)(_:vs=[.ref h,.ref b])(_:Ex Ú Ι G H)(_:uW K A Ι G H h Ο À Ì ÿ ä ĵ Į d on)(_:sf K H b a)(_:a∈Ŗ d)(_:∀Κ R m e f,Ex Ú Ι Κ R->av G Κ->uW K A Ι Κ R h Ο À Ì ÿ ä e f d on->sD K A Κ m d (fS d on a)->Q (.ref m) R)
inductive N_(vs:J V)(H:Hp)(Q:VK)(i:XK):Prop
 |mk(Ú Ι G h Ο À Ì ÿ ä ĵ Į d on a b:_)(_:vs=[.ref h,.ref a])(_:Ex Ú Ι G H)(_:uW K A Ι G H h Ο À Ì ÿ ä ĵ Į d on)(_:sf K H a b)(_:∀Κ R e f,Ex Ú Ι Κ R->av G Κ->uW K A Ι Κ R h Ο À Ì ÿ ä e f d on->Q (.int<|CC d on b) R)
end
def Ti:aB ["self","path"] ["self","path"]<|ay<|OU 3:=by decide+kernel
def rT(b:Wk K η A):pR P w K η Ξ c9 1 A.bG "has_file" ["self","path"]<|YJ K A:=by
 refine b.CU 13 8 Ti λt u v x l e=>?_;obtain⟨y,z,C,e,E,F,G,H,I,J,L,f,M,m,a,rfl,h,i,n,o⟩:=e;obtain⟨N,O,p,Q,R,S,T,j,V,X,Y,d⟩:=id i.doc;exists _,ai (aA<|P1 (Fw (fP l) (Fz b.md.iV<|pv 1)<|W (W (pv 0) D) D)<|by with_unfolding_all rfl);refine⟨m,a,D,n,λq Z s1 r=>?_⟩;have g1:=h.sub.trans s1;exists D,(i.heap h.sub s1).oh.at_,b.kl.bG.fo,D,D,g1 _ _ d.ob,b.kl.doc.fo,D,p,_,D,.inr ⟨bI j,kT a,q,av.rd g1 d.fi,D,r,D⟩;have s:(cW (bI j)<|kT a).isSome=(Ŗ f).contains a:=by
  rw[ϱ,ē,jc];by_cases k:a∈b7 U f
  .obtain⟨aa,ab,_⟩:=d.fk.find k;simp_all
  .rw[d.fk.miss k];simp_all
 rw[s];exact o _ s1
def LN:aB ["self","path","key"] ["self","path"]<|ay<|OU 4:=by decide+kernel
def nZ(j:Wk K η A):pR P w K η Ξ c9 92 A.bG "make" ["self","path"]<|aai K A:=by
 have f:=j.kl;refine j.CU 13 11 LN λC ad ae af k p=>?_;obtain⟨ag,R,E,p,q,F,G,h,H,i,r,s,I,S,d,rfl,J,V,X,Y,M⟩:=p;refine⟨_,ah (aH 2 LN<|Fz j.md.iV<|pv 1)<|ah (aJ (fy (pF (fP k) (pv 2)<|W (pv 0) D)<|by with_unfolding_all rfl) (ai<|p5 (fP k) (W (pv 0) D) (pv 2) (aR (Fx j) k D aG<|aa (W (pv 0) D)<|aa (W (pv 0) D)<|aa (pv 2) aj) D) aD)<|ai<|aA<|pY (fP k) (W (pv 0) D) (pv 2) λ_ _=>D,?_⟩
 refine⟨S,d,D,X,λt C s1 l=>?_⟩;have u:=J.more s1;have b:=V.heap J.sub s1;exists D,b.oh.at_,f.bG.fo,D,h,_,D,jx.t b.om.at_ l;cases N:cW i (kT d) with
 |some v=>
  obtain⟨e,rfl,m⟩:=b.mv d v N;refine dJ ⟨D,b.oh.at_,f.bG.fo,D,h,.ref e,D,N▸jx.t b.om.at_ l,M E C e _ _ u (av.refl _) b m⟩
 |none=>
  refine bS ⟨D,b.oh.at_,f.bG.fo,D,D,b.oh.at_,f.bG.fo,D,?_⟩;refine⟨E,F,s,G,H,I,t,d,D,u.sub,b.doc,b.FY,b.vv,b.kv,l,Y,λO Z e n m=>?_⟩;have a:=b.ex n;have ak:L r<=200:=by have ab:=jq r _ b.nd b.sb;have al:=uz U s;have am:=b.FY.blocks;rw[jc]at ab;lia
  have Q:=n.same _ _ l;exists D,a.oh.at_,f.bG.fo,D,h,_,D,B_.t a.om.at_ Q (by rw[b.km.len,Î];lia);have x:uW K A R O (T Z h<|.dT<|c7 i (kT d)<|.ref e) p q F G h H (c7 i (kT d)<|.ref e) (Ċ r d) s I:=
   ⟨a.oh.other a.ne,a.om.put,a.zh,a.zm,a.doc,a.FY,a.vv,a.kv,a.km.put d _,wV a.nd,λy q=>by rcases uJ.mp q with z|z;exact a.sb y z;rwa [z],λy v o=>by
    rw[mL]at o;split at o
    .rename_i t;cases o;rw[u0 t];exact⟨e,D,m⟩
    .exact a.mv y v o⟩
  refine⟨D,x.oh.at_,f.bG.fo,D,h,.ref e,D,?_,M O _ e _ _ ((u.trans n).write (u:=.dT<|c7 i (kT d)<|.ref e) a.om a.zm) n.le x m⟩;rw[<-(by rw[mL,à D]:cW (c7 i (kT d)<|.ref e) (kT d)=some (.ref e))];exact jx.t x.om.at_<|by rwa [au<|bB Q a.om.at_ (by intro z;cases z)]
def Ur:aB ["self","path"] ["self","path"]<|ay<|OU 5:=by decide+kernel
def iJ(a:Wk K η A):pR P w K η Ξ c9 93 A.bG "refusal_of" ["self","path"]<|N_ K A:=by
 refine a.CU 13 12 Ur λT V X Y r e=>?_;obtain⟨s,t,m,e,i,u,v,x,y,z,C,b,f,E,d,rfl,n,o,F,h⟩:=e;refine⟨_,ah (aJ (cG<|bQ<|bY (rT a) a.kl.bG.cl r aG (pv 0)<|aa (pv 1) aj) (ai<|aA<|aW a.md.wY) aD)<|ah (aJ (aF kg (W (bY (nZ a) a.kl.bG.cl r aG (pv 0)<|aa (pv 1) aj) D) az<|aK _) (ai<|aA<|aW a.md.Ln) aD)<|ai<|aA az,?_⟩
 refine⟨e,i,_,D,o.oh.at_,D,s,t,m,e,i,u,v,x,y,z,C,b,f,E,d,D,n,o,F,λO s1=>?_⟩;have G:=n.more s1;have p:=o.heap n.sub s1;cases j:(Ŗ b).contains d with
 |false=>
  refine(bS ?_);have:CC b f d= -3:=by unfold CC;rw[j];rfl
  rw[this]at h;exact h m O _ _ G (av.refl _) p
 |true=>
  refine(dJ ⟨e,i,_,D,p.oh.at_,D,s,t,m,e,i,u,v,x,y,z,C,b,f,E,d,D,G,p,F.same s1,ē.mp j,λH I ab ad ae q J L Q=>?_⟩);obtain⟨af,ag,R,ak,al,S,am,k⟩:=id Q;exists D,q.sub _ _ S,a.kl.made.fo,D;cases l:fS b f d with
  |ok an=>
   rw[l]at k;obtain⟨rfl,_⟩:=k;have:CC b f d=0:=by unfold CC;rw[j,l];rfl
   rw[this]at h;exact h H I _ _ q J L
  |error ao=>
   rw[l]at k;obtain⟨_,_,ap⟩:=k;have:CC b f d= -4:=by unfold CC;rw[j,l];rfl
   rw[this]at h;exact nU (λN=>h H I _ _ q J L) λN=>absurd (show(0:Z)<((R:M):Z) by simp_all) N
inductive qd(K:Ζ)(A:Ad)(G:Hp)(a Ì:O)(d:ó):Prop
 |mk(ξ bl Û ch ð Ĉ å ā ct ģ Ĥ:_)(_:KP K A G a ξ bl Û ch ð Ĉ å ā ct ģ Ĥ d)(_:G Û=B (.dT<|bI ā))(_:Û≠ch/\Û≠ð/\Û≠Ĉ/\Û≠Ì)
section
variable{Ì dF:O}
theorem qd.u(h:qd K A G a Ì d):Ua K A G a d:=by obtain⟨b,e,f,i,j,k,l,m,n,o,p,q,u,_⟩:=h;exact⟨b,e,f,i,j,k,l,m,n,o,p,q,u⟩
theorem qd.at_(h:qd K A G a Ì d):oU K A G a d:=h.u.at_
theorem qd.same(h:qd K A G a Ì d)(e:av G Κ):qd K A Κ a Ì d:=by obtain⟨b,f,i,j,k,l,m,n,o,p,q,r,s,t⟩:=h;exact⟨b,f,i,j,k,l,m,n,o,p,q,r.same e,e _ _ s,t⟩
def qd.mv(h:qd K A G a Ì d)(e:G dF=g):qd K A G a dF d:=by obtain⟨f,i,j,k,l,m,n,o,p,q,r,s,b,t,u,v,_⟩:=h;exact⟨f,i,j,k,l,m,n,o,p,q,r,s,b,t,u,v,ao b e⟩
theorem NN.x{o:HO}(h:NN K A Ι G a d)(e:Ι Ì=B o):qd K A G a Ì d:=by obtain⟨b,f,i,j,k,l,m,n,p,q,r,s,t,u,v,w,x⟩:=h;exact⟨b,f,i,j,k,l,m,n,p,q,r,s,t,u,v,w,(ao e x).symm⟩
def NN.xn(h:NN K A Ι G a d)(e:G Ì=g):qd K A G a Ì d:=by obtain⟨f,i,j,k,l,m,n,o,p,q,r,s,b,t,u,v,_⟩:=h;exact⟨f,i,j,k,l,m,n,o,p,q,r,s,b,t,u,v,ao b e⟩
end
theorem SQ(À a Ì ÿ:O):bf "document" (.ref a) (iL À Ì ÿ)=iL a Ì ÿ:=by unfold iL;rw[Oj]
theorem T6(À Ì dF ÿ:O):bf "variant" (.ref dF) (iL À Ì ÿ)=iL À dF ÿ:=by unfold iL;rw[cM<|by decide+kernel,Oj]
theorem Ja(À Ì ÿ a:O):bf "made" (.ref a) (iL À Ì ÿ)=iL À Ì a:=by unfold iL;rw[cM<|by decide+kernel,cM<|by decide+kernel,Oj]
def PE.of{t t':TE}(h:PE X e t)(c:∀σ H Q,t' σ H Q->t σ H Q):PE X e t':=λa b σ H Q d f=>h a b σ H Q d<|c σ H Q f
inductive RG(K:Ζ)(i j:M)(σ:L2.St)(H:Hp)(Q:VK):Prop
 |mk(Ė names:_)(_:σ[i]?=B (B<|V.ref Ė))(_:j<L σ)(_:wF K H Ė names)(_:L names<=1000)(_:∀Θ p ä,av H Θ->Θ p=g->dg ä (names.foldl Ċ [])->Q (.ref p) (T Θ p<|.dT ä))
def Lg{Q:VK}(h:RG K i j σ H Q):Ek (λN H Q=>∃(a:O) (θ:J O) (Ô:J<|O×J bW×V),N=[.ref a]/\aN K H a (θ.map V.ref)/\ ď (λp (b:O×J bW×V)=>gb K H p [.ref b.1,b.2.2]/\H b.1=B (.bO<|b.2.1.map kV)) θ Ô/\∀p,H p=g->Q (.ref p) (T H p<|.dT<|mX [] Ô)) (bg (tLc (Mn K<|aV i) (c8 j) CN (Ig<|bg (aV j)<|bg (tC<|.bl U) cB) [j]) cB) σ H Q:=by
 refine bx λak v=>?_;obtain⟨w,al,x,y,⟨am,l,z⟩,s,A⟩:=h;obtain⟨Ô,C,t,m⟩:=Paired.zip z;apply v;have an:L Ô<=1000:=by rw[t,Ε]at s;exact s
 refine aV.of x ⟨w,D,⟨_,l⟩,?_⟩;refine sR (G:=H) (i:=j) (σ:=σ) (Q:=λE f=>∃a θ d,[E]=[V.ref a]/\aN K f a (θ.map V.ref)/\ď (λp (b:O×J bW×V)=>gb K f p [.ref b.1,b.2.2]/\f b.1=B (.bO<|b.2.1.map kV)) θ d/\∀p,f p=g->Q (.ref p) (T f p<|.dT<|mX [] d)) (Χ:=λG (n:O×Đ) o=>∃e,o=.ref e/\G e=B (.bO [.ref n.1,.bl U])) (λ_ _ _ _ h F=>let⟨e,I,M⟩:=h;⟨e,I,F _ _ M⟩) Ô (λb=>.ref b.1) (by rw[C,Ħ]at l;exact l) (av.refl _) (by rw[Î];lia) (λb q ao ap aq P R=>?_) λS W k ar au r X Y=>?_
 .refine aV.of (by rw[dM (by rw[k9];exact y)]) ⟨by simp[sizeLine,Î],λe Z=>R _ _ _ ((Ex.refl P.sub).made Z) ⟨e,D,af⟩⟩
 obtain⟨θ,rfl,aa⟩:=Paired.refs Y;have ab:ď (λp (b:O×J bW×V)=>gb K k p [.ref b.1,b.2.2]/\k b.1=B (.bO<|b.2.1.map kV)) θ<|Ô.map λb=>(b.1,kT b.2,V.bl U):=by
  have:∀(d:J<|O×Đ) (θ:J O),(∀b∈d,b∈Ô)->ď (λe (n:O×Đ)=>W e=B (.bO [.ref n.1,.bl U])) θ d->ď (λp (b:O×J bW×V)=>gb K k p [.ref b.1,b.2.2]/\k b.1=B (.bO<|b.2.1.map kV)) θ (d.map λb=>(b.1,kT b.2,V.bl U)):=by
   intro d
   induction d with
   |nil=>intro θ _ h;cases h;exact .nil
   |cons b d ad=>
    intro θ q h;cases h with
    |cons ae ag=>exact .cons ⟨gb.of<|r.sub _ _ ae,r.same _ _<|m b<|q b Ö⟩<|ad _ (λo ah=>q o<|Ç _ ah) ag
  exact this Ô θ (λb m=>m) aa
 refine⟨S,θ,_,D,aN.of X.at_,ab,λai aj=>?_⟩;have u:=dg.merge Ô [] [] dg.nil;rw[<-t]at u;exact A k ai _ r.same aj u
inductive Tn(A:Ad)(vs:J V)(H:Hp)(Q:VK)(e:XK):Prop
 |mk(h Ο À Ì ÿ d:_)(_:vs=[.ref h,.ref d])(_:H h=B (.aE A.bG Ο<|iL À Ì ÿ))(_:∀R a,H a=g->R h=B (.aE A.bG Ο<|iL d Ì a)->R a=B (.dT [])->(∀b,b≠h->b≠a->R b=H b)->Q .b_ R)
inductive S9(K:Ζ)(A:Ad)(vs:J V)(H:Hp)(Q:VK)(d:XK):Prop
 |mk(h Ο À Ì ÿ Ė names:_)(_:vs=[.ref h,.ref Ė])(_:H h=B (.aE A.bG Ο<|iL À Ì ÿ))(_:wF K H Ė names)(_:L names<=1000)(_:∀R dF a ä,H dF=g->H a=g->dF≠a->dg ä (names.foldl Ċ [])->R h=B (.aE A.bG Ο<|iL À dF a)->R dF=B (.dT ä)->R a=B (.dT [])->(∀b o,b≠h->H b=B o->R b=B o)->Q .b_ R)
def Tc:aB ["self","document"] ["self","document"]<|ay<|OU 1:=by decide+kernel
def xA(b:Wk K η A):pR P w K η Ξ c9 1 A.bG "hold_document" ["self","document"]<|Tn A:=by
 refine b.CU 13 9 Tc λl m n o p e=>?_;obtain⟨e,q,r,s,t,u,rfl,h,i⟩:=e;exists _,ah (aX (pv 0) (pv 1) D)<|ai<|aX (pv 0) gY D;refine⟨D,h,b.kl.bG.fo,(by show 3<1000;decide),λj a=>?_⟩;rw[SQ]at a⊢;have d:=ao af a;exists D,by rw[au d];exact af,b.kl.bG.fo,(by show 3<1000;decide)
 rw[Ja];refine i _ j (by rw[au d.symm]at a;exact a) af (au d.symm▸af) λv f k=>?_;rw[au f,au k,au f]
def FG:aB ["self","settings","setting"] ["self","settings"]<|ay<|OU 2:=by decide+kernel
def yZ(b:Wk K η A):pR P w K η Ξ c9 1 A.bG "hold_variant" ["self","settings"]<|S9 K A:=by
 refine b.CU 13 10 FG λq J r L s d=>?_;obtain⟨d,M,N,O,Q,t,u,rfl,v,⟨x,y,z⟩,C,E⟩:=d;refine⟨_,ah (aX (pv 0) (PE.of (t':=RG K 1 2) (mw (AX D s.units) D b.md.J_ (by decide+kernel)<|aa (gV (Â:=Ig<|bg (aV 2)<|bg (tC<|.bl U) cB) D FG.nd (bu<|pv 1) (bL (own:=[("setting",2)])<|by kernel_rfl) (λ_ _ _ _ _=>bC 2 FG) (λ_ _ _ _ _=>cY) λ_ _ _ _ _=>mO<|aa (pv 2)<|aa lg aj) aj) λR q r d=>Lg d) D)<|ai<|aX (pv 0) gY D,?_⟩
 refine⟨t,u,D,(by show 2<3;decide),⟨x,y,z⟩,C,λF l G e h H=>?_⟩;have m:=e _ _ v;have f:=ao m h;refine⟨D,by rw[au f];exact m,b.kl.bG.fo,(by show 3<1000;decide),λi a=>?_⟩;rw[T6]at a⊢;have j:=ao af a;have k:l≠i:=ao (by rw[au f.symm];exact af) a;exists D,by rw[au j];exact af,b.kl.bG.fo,(by show 3<1000;decide)
 rw[Ja];have n:F i=g:=by rw[au j.symm,au k.symm]at a;exact a
 refine E _ l i G (e.free h) (e.free n) k H af (by rw[au f.symm,au k,au f.symm];exact af) (au j.symm▸af) λS T o I=>?_;have p:=e _ _ I
 rwa [au o,au<|ao p n,au o,au<|ao p h]
def yX(Η:M)(m:e8):Prop:=∀b∈m,L b.way<=Η
def I8(Η:M)(r:kY):Prop:=∀x,r=.ok x->∀m∈x.1,yX Η m
def Ui(Η:M)(r:di ł<|e8×M):Prop:=∀x,r=.ok x->yX Η x.1
def yX.app{m n:e8}(h:yX Η m)(ς:yX Η n):yX Η<|m++n:=λa b=>(î.mp b).elim (h a)<|ς a
def Ml{env:GA}(h:L env.way<=Η)(p:ú)(t:ê):yX Η<|GC env p t:=by intro b a;obtain⟨d,_,rfl⟩:=ń.mp a;exact h
def T7{env:GA}(h:L env.way<=Η)(p:ú)(n:Đ):yX Η<|qW env p n:=by
 unfold qW;intro b a;split at a
 .obtain⟨d,_,rfl⟩:=ń.mp a;exact h
 .cases a
def Oa{use_:u7}{Η:M}(o:∀p n a k,I8 Η<|use_ p n a k){env:GA}(m:L env.way<=Η)(p:ú){acc:di ł<|e8×M}(r:Ui Η acc)(q:Ť):Ui Η<|kP use_ env p acc q:=by
 cases acc with
 |error s=>intro e b;cases q<;>cases b
 |ok a=>
  have f:=r a D;cases q with
  |lit t=>intro e b;cases b;exact f.app<|Ml m p t
  |param n=>intro e b;cases b;exact f.app<|T7 m p n
  |use n h=>
   intro e b;have b:(use_ p n h a.2).bind (λd=>match d.1 with
    |[]=>.ok (a.1,d.2)
    |[i]=>.ok (a.1++i,d.2)
    |_=>.error ⟨5,p⟩)=.ok e:=b
   cases j:use_ p n h a.2 with
   |error s=>rw[j]at b;cases b
   |ok d=>
    rw[j]at b;have l:=o p n h a.2 d j;obtain⟨u,k⟩:=d
    match u,b,l with
    |[],b,_=>cases b;exact f
    |[i],b,l=>cases b;exact f.app<|l i Ö
    |_::_::_,b,_=>cases b
def Kq{env:GA}(e:L env.way<=Η)(c:fL)(a:GB)(l:J e8)(h:∀m∈l,yX Η m):∀m∈ϯ env c a l,yX Η m:=by
 intro m f;obtain⟨b,i,rfl⟩:=ń.mp f;have j:b.1∈l:=by have:=ō (f:=λb:e8×M=>b.1) i;rw[List.zipIdx_map_fst]at this;exact this
 split
 .intro k d;cases d
 .refine yX.app ?_ (h _ j);split
  .exact Ml e _ _
  .intro k d;obtain⟨n,_,rfl⟩:=ń.mp d;exact e
def Rj{use_:u7}(l:∀p n a k,I8 Η<|use_ p n a k){env:GA}(m:L env.way<=Η)(c:fL)(n:M):I8 Η<|gw use_ env c n:=by
 unfold gw;split
 .intro j b;cases b
 .split
  .rename_i a _;intro j b;cases d:use_ (Ĕ c a.piece) a.name a.args (n+1) with
   |error o=>rw[d]at b;cases b
   |ok h=>rw[d]at b;cases b;exact Kq m c a _<|l _ _ _ _ h d
  .have:∀(i:J<|Ť×M) (e:di ł<|e8×M),Ui Η e->Ui Η (i.foldl (λe f=>kP use_ env (Ĕ c f.2) e f.1) e):=by
    intro i
    induction i with
    |nil=>simp
    |cons f i q=>exactλe r=>q _<|Oa l m _ r _
   have s:=this c.pieces.zipIdx (.ok ([],n+1)) (λj b=>by cases b;intro w t;cases t);intro j b;cases d:(c.pieces.zipIdx.foldl (λe f=>kP use_ env (Ĕ c f.2) e f.1)<|.ok ([],n+1)) with
   |error o=>rw[d]at b;cases b
   |ok h=>
    rw[d]at b;cases b;intro u v;have:u=h.1:=by simpa using v
    rw[this];exact s h d
def DC{use_:u7}(o:∀p n a k,I8 Η<|use_ p n a k){env:GA}(r:L env.way<=Η)(l:J fL)(n:M):I8 Η<|ϩ use_ env l n:=by
 have:∀(h:J fL) (e:kY),I8 Η e->I8 Η (h.foldl (λe s=>e.bind λf=>(gw use_ env s f.2).map λd=>(f.1++d.1,d.2)) e):=by
  intro h
  induction h with
  |nil=>simp
  |cons i h t=>
   intro e u;refine t _ ?_;cases e with
   |error v=>intro f b;cases b
   |ok a=>
    intro f b;have b:(gw use_ env i a.2).map (λd=>(a.1++d.1,d.2))=.ok f:=b;cases j:gw use_ env i a.2 with
    |error v=>rw[j]at b;cases b
    |ok d=>
     rw[j]at b;cases b;intro m w;rcases î.mp w with q|q
     .exact u a D m q
     .exact Rj o r i a.2 d j m q
 exact this _ _ λf b=>xV
def TV(d:ó)(on:J Đ):∀(ς:M) (way:J ú) (p:ú) (n:Đ) (a:J ê) (k:M),I8 (L way+ς)<|Ŋ d on ς way p n a k:=by
 intro ς
 induction ς with
 |zero=>
  intro way p n a k;rw[Ŋ];split
  .intro e b;cases b
  .split
   .intro e b;cases b
   .intro e b;cases b
 |succ ς f=>
  intro way p n a k;rw[Ŋ];split
  .intro e b;cases b
  .split
   .intro e b;cases b
   .refine DC (λh n a k=>(by rw[Ω];simp;lia:(way++[p]).length+ς=way.length+(ς+1))▸f _ h n a k) ?_ _ _;simp
def yg{d:ó}{on:J Đ}{p:Đ}{l:J e8}(h:fS d on p=.ok l):L l<=400/\(L<|ę l)<=20000/\∀m∈l,yX 20 m:=by
 rw[A_]at h;cases a:ϩ (Ŋ d on 20 []) {args:=[],use_:=⟨0,0,0⟩,way:=[]} (jv d on U p) 0 with
 |error n=>rw[a]at h;cases h
 |ok e=>
  rw[a]at h;dsimp only at h;split at h
  .rename_i b;cases h;refine⟨b.1,b.2,DC (use_:=Ŋ d on 20 []) (λf i j k=>?_) (Ò _) _ _ e a⟩;have:=TV d on 20 [] f i j k;exact this
  .cases h
noncomputable def only (H:Hp) (h:O):Hp:=λb=>if b=h then g else H b
def NK{h:O}{o:HO}(e:only H h b=B o):H b=B o/\b≠h:=by unfold only at e;simp_all
theorem FP{h:O}(e:b≠h):only H h b=H b:=Ó e
def T9{h:O}:only H h h=g:=à D
inductive WC(K:Ζ)(A:Ad)(vs:J V)(H:Hp)(Q:VK)(a:XK):Prop
 |mk(G h Ο:_)(_:vs=[.ref h])(_:av G H)(_:Lo G H h<|.aE A.bG Ο [])(_:∀Κ R À Ì ÿ,Ex G (only H h) Κ R->uW K A (only H h) Κ R h Ο À Ì ÿ [] [] [] [] []->qd K A Κ À Ì []->Q .b_ R)
def Sq:aB ["self"] ["self"]<|ay<|OU 0:=by decide+kernel
def SO(m:Wk K η A):Gn P w K η Ξ 5 "Held" A.bG ["self"]<|WC K A:=by
 refine m.Ms 13 7 Sq (λS q V W b=>by obtain⟨_,_,_,i,_⟩:=b;rw[i];rfl) λq S V W X b=>?_;obtain⟨x,b,e,rfl,Y,Z,ab⟩:=b;exists _,ah (aX (pv 0) (HF (ye m) X D<|aa (aI aj) aj) D)<|ah (aX (pv 0) gY D)<|ai<|aX (pv 0) gY D;refine⟨Ò _,λn ad=>λd ae r M ag=>?_⟩;have o:=(Ex.refl Y).made (o:=.Y []) ad;have N:aN K (T x n<|.Y []) n []:=aN.of af;generalize T x n (.Y [])=ak at o N;generalize T q n (.Y [])=az at o r M;refine⟨x,q,ak,d,ae,n,[],[],D,o.more<|cN r M ag,o.same.free r,⟨o.sub.free r,af⟩,N,.nil,DG,λy k j aA O=>⟨D,?_⟩⟩;have z:=Z.ex j;refine⟨D,z.at_,m.kl.bG.fo,bh,λa C=>?_⟩;have l:=ao af C;have E:k a=g:=by rw[au l.symm]at C;exact C
 refine⟨D,by rw[au l];exact af,m.kl.bG.fo,(by show 1<1000;decide),λf s=>?_⟩;have p:=ao af s;have F:a≠f:=ao (by rw[au l.symm];exact af) s;have t:k f=g:=by rw[au p.symm,au F.symm,au p.symm]at s;exact s
 exists D,by rw[au p];exact af,m.kl.bG.fo,(by show 2<1000;decide)
 have al:bf "made" (.ref f) (bf "variant" (.ref a)<|bf "document" (.ref d) [])=iL d a f:=by
  repeat(first|rw[m_]|rw[cM<|by decide+kernel])
  rfl
 rw[al];have G:∀h,h≠b->h≠a->h≠f->T (T (T (T (T k b<|.aE A.bG e<|bf "document" (.ref d) []) a<|.dT []) b<|.aE A.bG e<|bf "variant" (.ref a)<|bf "document" (.ref d) []) f<|.dT []) b (.aE A.bG e<|iL d a f) h=k h:=λh H am an=>by rw[au H,au an,au H,au am,au H]
 have Q:T (T (T (T (T k b<|.aE A.bG e<|bf "document" (.ref d) []) a<|.dT []) b<|.aE A.bG e<|bf "variant" (.ref a)<|bf "document" (.ref d) []) f<|.dT []) b (.aE A.bG e<|iL d a f) b=B (.aE A.bG e<|iL d a f):=af;have ap:T (T (T (T (T k b<|.aE A.bG e<|bf "document" (.ref d) []) a<|.dT []) b<|.aE A.bG e<|bf "variant" (.ref a)<|bf "document" (.ref d) []) f<|.dT []) b (.aE A.bG e<|iL d a f) a=B (.dT []):=by rw[au l.symm,au F,au l.symm];exact af
 have R:T (T (T (T (T k b<|.aE A.bG e<|bf "document" (.ref d) []) a<|.dT []) b<|.aE A.bG e<|bf "variant" (.ref a)<|bf "document" (.ref d) []) f<|.dT []) b (.aE A.bG e<|iL d a f) f=B (.dT []):=by rw[au p.symm];exact af
 generalize T (T (T (T (T k b<|.aE A.bG e<|bf "document" (.ref d) []) a<|.dT []) b<|.aE A.bG e<|bf "variant" (.ref a)<|bf "document" (.ref d) []) f<|.dT []) b (.aE A.bG e<|iL d a f)=ar at G Q ap R;have I:=j.sub.free E;have J:av y<|T y a<|.dT []:=aq I;have aB:only q b a=g:=FP l.symm▸j.same.free E;refine ab (T y a<|.dT []) ar d a f ⟨λh L i=>?_,j.le.trans J,λh L i=>?_,λh L i=>?_⟩ ?_ ((O.xn I).same J)
 .obtain⟨aw,ax⟩:=NK i;have u:=j.same _ _ aw
  rwa [G h ax (ao u E)<|ao u t]
 .by_cases v:h=a
  .grind[af]
  .rw[au v]at i;have u:=j.sub _ _ i
   rwa [G h (λw=>by rw[w,z.out]at i;cases i) v<|ao u t]
 .by_cases v:h=a
  .simp_all
  .rw[au v]at i;rcases j.new h L i with w|w
   .exact .inl w
   .exact .inr (by unfold only;split;rfl;exact w)
 .exact⟨⟨au l▸z.out,Q⟩,⟨au F.symm▸j.sub.free t,R⟩,T9,FP p.symm▸j.same.free t,((O.xn I).same J).at_,DG,af,dg.nil,dg.nil,fU,λay e=>(nomatch e),λay aC b=>(nomatch b)⟩
noncomputable def lq (s:Ϲ) (c:ş):J Z:=YG (f5 s c).2
def F1{s s':Ϲ}{c:ş}{l:J M}(h:ŧ s c=.ok (s',l)):(f5 s c).1=s'/\(lq s c).map V.int=l.map nV/\(L<|lq s c)=L l:=by
 unfold lq;rw[(by unfold f5;rw[h]:f5 s c=(s',.told l))];refine⟨D,?_,?_⟩
 .show(l.map λ(a:M)=>(a:Z)).map V.int=_;rw[Ħ];rfl
 .show(L<|l.map λ(a:M)=>(a:Z))=_;simp
def TZ{s:Ϲ}{c:ş}{n:M}(h:ŧ s c=.error n):(f5 s c).1=s/\(lq s c).map V.int=[.int<|-(n:Z)]/\(L<|lq s c)=1:=by unfold lq;rw[(by unfold f5;rw[h]:f5 s c=(s,.refused n))];exact⟨D,D,D⟩
section
variable(K:Ζ)(A:Ad)
def K8(Ú Ι G:Hp)(h Ο:O)(s:Ϲ)(c:ş)(Q:VK):Prop:=∀s',(f5 s c).1=s'->∀Κ R À Ì ÿ ä ĵ Į a,Ex Ú Ι Κ R->av G Κ->uW K A Ι Κ R h Ο À Ì ÿ ä ĵ Į s'.doc s'.on->qd K A Κ À Ì s'.doc->
 Ι a=g->R a=B (.Y<|(lq s c).map V.int)->(L<|lq s c)<=100000->Q (.ref a) R
inductive mU(mk:J Z->J ê->É ş)(vs:J V)(H:Hp)(Q:VK)(a:XK):Prop
 |mk(Ú Ι G h Ο À Ì ÿ ä ĵ Į:_)(s:Ϲ)(Ĳ Ŏ ns Ø c:_)(_:vs=[.ref h,.ref Ĳ,.ref Ŏ])(_:Ex Ú Ι G H)(_:uW K A Ι G H h Ο À Ì ÿ ä ĵ Į s.doc s.on)(_:qd K A G À Ì s.doc)(_:aN K G Ĳ<|ns.map V.int)(_:Gq K G Ŏ Ø)(_:(∀t∈Ø,L t<=24000))(_:mk ns Ø=B c)(_:K8 K A Ú Ι G h Ο s c Q)
end
section
variable{Ú Θ:Hp}{h Ο À Ì ÿ:O}{Į:J Đ}{s:Ϲ}{c:ş}{Q:VK}
theorem K8.told(b:K8 K A Ú Ι G h Ο s c Q){l:J M}(d:ŧ s c=.ok (s,l))(ex:Ex Ú Ι Ē ο)(f:av G Ē)(χ:uW K A Ι Ē ο h Ο À Ì ÿ ä ĵ Į s.doc s.on)(X:qd K A Ē À Ì s.doc)(n:L l<=100000)
  {a:O} (i:Ι a=g) (e:ο a=B (.Y<|l.map nV)):Q (.ref a) ο:=by
 obtain⟨j,k,m⟩:=F1 d;exact b s j Ē ο À Ì ÿ ä ĵ Į a ex f χ X i (by rwa [k])<|by rwa [m]
theorem K8.lit(d:K8 K A Ú Ι G h Ο s c Q){l:J M}(e:ŧ s c=.ok (s,l))(ex:Ex Ú Ι Ē ο)(f:av G Ē)(χ:uW K A Ι Ē ο h Ο À Ì ÿ ä ĵ Į s.doc s.on)(X:qd K A Ē À Ì s.doc)(i:L l<=100000)
  {a:O} (b:ο a=g):Q (.ref a)<|T ο a<|.Y<|l.map nV:=
 d.told e (ex.more<|aq b) f (χ.heap ex.sub<|aq b) X i (ex.same.free b) af
def K8.no(d:K8 K A Ú Ι G h Ο s c Q){n:M}(e:ŧ s c=.error n)(ex:Ex Ú Ι Ē ο)(f:av G Ē)(χ:uW K A Ι Ē ο h Ο À Ì ÿ ä ĵ Į s.doc s.on)(X:qd K A Ē À Ì s.doc){a:O}(b:ο a=g):Q (.ref a)<|T ο a<|.Y [.int<|-(n:Z)]:=by obtain⟨i,j,k⟩:=TZ e;exact d s i Ē _ À Ì ÿ ä ĵ Į a (ex.more<|aq b) f (χ.heap ex.sub<|aq b) X (ex.same.free b) (j▸af) (by rw[k];simp)
end
def Q8(d:ó)(on:J Đ):(L<|dZ d on)<=į d:=by
 rw[Mx];generalize(λh=>(fq d on<|(Ŗ d).flatMap λi=>ř d U i).contains h)=e;have:∀(d:ó) (a:M),(L<|(d.zipIdx a).flatMap λf=>yz on e f.2 f.1)<=į d:=by
  intro d
  induction d with
  |nil=>intro a;exact Ò _
  |cons b d j=>
   intro a;have:=j<|a+1;rw[ż,ĕ,Ω,(by rw[<-bT];rfl:į (b::d)=į [b]+į d)];have l:(L<|yz on e a b)<=į [b]:=by
    cases b with
    |prose m=>exact Ò _
    |chunk k=>rw[b9];exact Og on e a k
   lia
 exact this d 0
def UN:aB ["held","numbers","texts","document"] ["held","numbers","texts"]<|ay<|bU 122:=by decide+kernel
def AN(i:Wk K η A):Kn P w K η Ξ c9 1 "answer_size" ["held","numbers","texts"]<|mU K A IK:=by
 have f:=i.md;have d:=i.kl;refine i.kn 57 UN λC E F G H h=>?_;obtain⟨I,J,M,h,N,O,l,Q,R,S,T,m,V,X,n,o,p,rfl,j,e,k,Y,Z,ab,q,r⟩:=h;obtain⟨ad,s,t,ae,u,af,ag,v,ak,al,am,a,an,_⟩:=id k;have b:=j.sub;have x:p=.size:=by
  match n,o,q with
  |[],[],h=>cases h;rfl
 exists _,ah (aH 3 UN<|W (pv 0) D)<|ai<|aA<|aI<|aa (aQ f.a_<|W (pv 3) D)<|aa (zJ f.a_<|W (pv 3) D)<|aa (zJ f.a_<|W (pv 3) D)<|aa (zJ f.a_<|W (pv 0) D) aj;subst x;exists D,e.oh.at_,d.bG.fo,D;exists D,b _ _ a.ob,d.doc.fo,D,s,_,D,.inl<|av.seq b a.bl;exists D,b _ _ a.ob,d.doc.fo,D,t,_,D,av.rd b a.fi;exists D,b _ _ a.ob,d.doc.fo,D,u,_,D,.inl<|b _ _ a.na;exists D,e.oh.at_,d.bG.fo,D,l,_,D,.inl<|b _ _ e.vv;refine⟨by simp[sizeLine,Î],λao y=>?_⟩;have z:(L<|bI v)=(L<|Ŗ m.doc):=by rw[jc,<-a.fk.names];unfold bI;simp
 rw[a.bs.length,z,a.nk.len,e.kv.len];exact r.lit D j (av.refl _) e k bh y
def LQ:aB ["held","numbers","texts","places","answer","place"] ["held","numbers","texts"]<|ay<|bU 119:=by decide+kernel
def AZ(f:Wk K η A):Kn P w K η Ξ c9 5 "answer_idle" ["held","numbers","texts"]<|mU K A GH:=by
 refine f.kn 54 LQ λay az aB aC H h=>?_;obtain⟨aD,aE,I,h,p,J,O,aF,Q,aJ,aK,a,R,S,X,Y,Z,rfl,q,b,v,aL,aM,aO,ab,ad⟩:=h;have ae:Z=.idle:=by
  match X,Y,ab with
  |[],[],h=>cases h;rfl
 refine⟨_,ah (aH 3 LQ<|aR (CT f) H D aG<|aa (W (pv 0) D)<|aa (W (pv 0) D) aj)<|ah (aH 4 LQ<|aI<|aa (aQ f.md.a_<|pv 3) aj)<|ah (cS ğ D (bu<|pv 3) (bC 5 LQ)<|ai<|aT<|kF (pv 4)<|pv 5)<|ai<|aA<|pv 4,?_⟩
 subst ae;have x:=q.sub;exists D,b.oh.at_,f.kl.bG.fo,D,D,b.oh.at_,f.kl.bG.fo,D;refine⟨I,J,a.doc,O,Q,a.on,D,x,v.u,b.FY,b.vv,b.kv,λr i k s1 m y=>?_⟩;have z:=y.length;have aP:(L<|dZ a.doc a.on)<=400:=Ć (Q8 _ _) b.FY.IP;refine⟨r,_,D,.inl<|aN.of m,by simp[sizeLine,Î],λd n=>?_⟩;have s2:av i<|T i d<|.Y [.int ((L<|k.map V.ref):M)]:=aq n;have C:(T i d<|.Y [.int ((L<|k.map V.ref):M)]) d=B (.Y [nV<|L<|dZ a.doc a.on]):=by rw[af,Ε,z];rfl
 generalize T i d (.Y [.int ((L<|k.map V.ref):M)])=aS at s2 C;have nD:=(ao m n).symm;exists r,D,⟨_,aN.of<|s2 _ _ m⟩;refine c_ (N:=k.map V.ref) (λe o s=>∃t,av i s/\s d=B (.Y<|((L<|dZ a.doc a.on)::lW ((dZ a.doc a.on).take e)).map nV)/\o=[B<|.ref h,B<|.ref R,B<|.ref S,B<|.ref r,B<|.ref d,t]) ⟨g,s2,C,D⟩ ?_ ?_ ?_
 .rintro e o s _ ⟨_,s3,_⟩;exact aN.of<|s3 _ _ m
 .refineλe aU o ag p ak=>bx λal u=>?_;obtain⟨t,s3,j,rfl⟩:=ak;apply u;rw[Ë]at p;refine bx λal u=>?_;obtain⟨am,an,rfl⟩:=Ü.mp p;obtain⟨ap,E,ar⟩:=Paired.at_ y an;apply u;have aV:=(Ð.mp E).1;have F:=ku<|(dZ a.doc a.on).take e;rw[ŀ]at F;refine⟨.inl ⟨D,_,aN.of j⟩,d,am,_,_,D,D,j,.inr<|gb.of<|s3 _ _ ar,by rw[Ε,Ñ,F,Î];show _+2<=_;lia,_,λaw ax G=>?_,?_,D⟩
  .rw[au<|ao G n];exact s3 aw ax G
  .rw[af,(by rw[Ĝ,E];rfl:(dZ a.doc a.on).take (e+1)=(dZ a.doc a.on).take e++[ap]),EB,þ,þ,Ý];rfl
 .rintro o ag ⟨t,s3,j,rfl⟩;rw[Ε,z,č]at j;have s4:=s1.trans s3;exact(ad.told (l:=cV<|dZ a.doc a.on) D (q.more s4) (av.refl _) (b.heap x s4) v (by show(L<|(L<|dZ a.doc a.on)::lW (dZ a.doc a.on))<=100000;rw[Ñ,ku];lia) (q.same.free<|s1.free n) j)
theorem Kz{u:ef}:∀b∈expand u,b.way=u.way:=by
 grind[expand]
theorem vJ{d:ó}:∀r:J ef,(∀u∈r,yq d u)->L r<=(r.map λu=>L u.signs).sum
 |[],_=>Õ _
 |u::r,a=>by
  have f:=vJ r λb e=>a b<|Ç _ e;have h:=u9.mpr (a u Ö).full
  grind
theorem Mv{d:ó}:∀Υ:J<|J ef,uZ d Υ->bR Υ<=(L<|ę<|Υ.map aU)
 |[],_=>Ò _
 |a::Υ,b=>by
  have e:=Mv Υ λf h=>b f<|Ç _ h;have i:=vJ a<|b a Ö;rw[kQ]at e⊢;have j:bR (a::Υ)=L a+bR Υ:=rfl
  grind
def sX{p:Đ}{l:J e8}(h:fS d on p=.ok l)(e:Υ.map aU=l)(ok:uZ d Υ):
  L Υ=L l/\L Υ<=400/\bR Υ<=20000/\dh Υ=ę l/\(L<|ę l)<=20000/\(Υ.map λr=>eX r+1).sum=(L<|ę l)/\∀r∈Υ,∀u∈r,u.kind<=2/\L u.way<=20:=by
 obtain⟨n,j,k⟩:=yg h;have m:L Υ=L l:=xV;have a:=Mv Υ ok;rw[e]at a;refine⟨m,fX,aL,by rw[<-e,ID],j,e▸(kQ Υ).symm,λr a u b=>⟨(ok r a u b).kinds,?_⟩⟩;obtain⟨f,i⟩:=List.exists_mem_of_length_pos<|(fj u)▸u9.mpr (ok r a u b).full;rw[<-Kz f i];exact k _ (e▸ō a) f<|ŋ.mpr ⟨u,b,i⟩
def pe(s:Ϲ)(p:ê):(∃n:M,0<n/\CC s.doc s.on p= -(n:Z)/\∀f,iS s p f=.error n)\/(CC s.doc s.on p=0/\∃l,fS s.doc s.on p=.ok l/\p∈Ŗ s.doc/\∀f,iS s p f=f l):=by
 unfold CC iS Valitc.onFile;cases a:(Ŗ s.doc).contains p with
 |false=>exact .inl ⟨3,bM,D,λf=>D⟩
 |true=>
  cases b:fS s.doc s.on p with
  |error d=>exact .inl ⟨4,bM,D,λf=>D⟩
  |ok l=>exact .inr ⟨D,l,D,ē.mp a,λf=>D⟩
def Gq.one{K:Ζ}{G:Hp}{Ŏ:O}{p:ê}(h:Gq K G Ŏ [p]):∃a,aN K G Ŏ [.ref a]/\Tx K G a p:=by
 obtain⟨i,b,d⟩:=h;cases d with
 |cons e f=>cases f;exact⟨_,b,e⟩
theorem Aq(t:ê):(ϵ t).map nV=nV (L t)::tV t:=by show nV (L t)::(t.map λa=>a.toNat).map nV=_;rw[Ħ];rfl
inductive NB(K:Ζ)(vs:J V)(H:Hp)(Q:VK)(b:XK):Prop
 |mk(a t:_)(_:vs=[.ref a])(_:(aN K H a (tV t)\/gb K H a (tV t)))(_:L t<=100000)(_:IZ H (ϵ t) Q)
def Zp:aB ["text"] ["text"]<|ay<|bU 123:=by decide+kernel
def ng(a:Wk K η A):Kn P w K η Ξ c9 1 "with_length" ["text"]<|NB K:=by refine a.kn 58 Zp λq r s t u i=>?_;obtain⟨d,e,rfl,f,v,j⟩:=i;exists _,ai<|aA<|cQ gB (aI<|aa (aQ a.md.a_<|pv 0) aj)<|sM a.md.xw<|pv 0;refine⟨d,_,D,f,by simp[sizeLine,Î],λk l=>?_⟩;have s1:=aq (o:=.Y [.int ((L<|tV e):M)]) l;refine⟨d,_,D,f.elim (λb=>.inl<|av.seq s1 b) λb=>.inr<|av.x_ s1 b,λm n=>?_⟩;have s2:=aq (o:=.Y<|tV e) n;refine⟨k,m,_,_,D,D,aN.of<|s2 _ _ af,aN.of af,by rw[bP,Î];show 1+_<=_;lia,λp h=>?_⟩;refine j p _ (s1.free<|s2.free h) ((s1.trans s2).trans<|aq h) ?_;rw[af,Aq,bP];rfl
def MJ:aB ["held","numbers","texts","path","refusal","rows"] ["held","numbers","texts"]<|ay<|bU 113:=by decide+kernel
def yU(a:Wk K η A):Kn P w K η Ξ c9 94 "answer_count" ["held","numbers","texts"]<|mU K A DX:=by
 refine a.kn 48 MJ λaP aS aT aU f b=>?_;refine bx λR l=>?_;obtain⟨s,t,S,b,i,u,v,x,y,T,V,h,aV,X,Y,z,ab,rfl,m,C,ad,aW,ae,aX,af,E⟩:=b;obtain⟨d,rfl,rfl⟩:∃d,z=[d]/\ab=.count d:=by
  match Y,z,af with
  |[],[d],b=>cases b;exact⟨d,D,D⟩
 obtain⟨n,ag,F⟩:=ae.one;apply l;have G:∀e:M,e<=100->e<=sizeLine:=λe ak=>by rw[Î];lia
 refine⟨_,ah (aH 3 MJ<|aY aM (pv 2) az λ_ _=>D)<|ah (aH 4 MJ<|bY (iJ a) a.kl.bG.cl f aG (pv 0)<|aa (pv 3) aj)<|ah (aJ (aF iP (pv 4) az<|aK _) (ai<|aA<|aI<|aa (pv 4) aj) aD)<|ah (aH 5 MJ<|W (bY (nZ a) a.kl.bG.cl f aG (pv 0)<|aa (pv 3) aj) D)<|ai<|aA<|aI<|aa (aQ a.md.a_<|pv 5)<|aa (aR (t8 a) f D aG<|aa (pv 5) aj) aj,?_⟩
 exists X,_,_,.ref n,D,D,av.seq m.sub ag,D;refine⟨b,i,_,D,C.oh.at_,D,s,t,S,b,i,u,v,x,y,T,V,h.doc,h.on,n,d,D,m,C,.inl<|F.same m.sub,λal aZ am an o j p=>?_⟩;have H:=ad.same j;rcases pe h d with⟨e,ak,ao,q⟩|⟨ap,a0,I,aq,q⟩
 .rw[ao];refine nU (λJ=>?_) λJ=>absurd (show(-(e:Z))<0 by simp_all) J;exact⟨G 1 bM,λar r=>E.no (q _) o j p H r⟩
 .rw[ap];refine⟨b,i,_,D,p.oh.at_,D,s,t,al,b,i,u,v,x,y,am,an,h.doc,h.on,n,d,D,o,p,.inl<|F.same<|j.trans o.sub,aq,λa1 a2 a3 a4 a5 k L au N=>?_⟩;rw[I]at N;refine bx λR l=>?_;obtain⟨a6,O,e,a7,a8,aw,a9,rfl,ax,ay,aB,aC⟩:=N;obtain⟨f1,f2,f3,f4,a_,aE,a'⟩:=sX I aB aC;have Q:=ay.same k.sub;obtain⟨ba,aN,aO⟩:=id Q;apply l;exists D,k.sub _ _ aw,a.kl.made.fo,D;refine⟨O,_,D,.inl aN,O,ax,D,Q,aL,λbb f=>by have:=Bf f;lia,λbc s3=>⟨G 2 bM,λar r=>?_⟩⟩;rw[aE,Ε,aO.length,f1];exact E.lit (q _) (k.more s3) (j.trans L) (au.heap k.sub s3) (H.same L) bh r
theorem LW(n:M):∀l:J M,R3 (nV n) (l.map nV)=l.contains n
 |[]=>D
 |a::l=>by
  show(Ju (nV a) (nV n)||R3 (nV n) (l.map nV))=_;rw[LW n l,jA];have b:Ju (nV a) (nV n)=(n==a):=by show((a:Z)==(n:Z))=_;lia
  rw[b]
theorem Et:∀l:J M,(l.map nV).all kh=U
 |[]=>D
 |a::l=>by show(kh (nV a)&&(l.map nV).all kh)=U;rw[Et l];rfl
theorem HG(d:ó)(b l:Z):(ϙ [b,l]&&wD d b.toNat l.toNat)=(jM d b l).isSome:=by
 unfold ϙ jM wD;by_cases a:0<=b/\0<=l
 .rw[à a];simp[lI,XZ,Gm,ő a.1,ő a.2,Ϟ];cases d[b.toNat]? with
  |none=>rfl
  |some e=>
   cases e with
   |prose j=>rfl
   |chunk f=>
    dsimp only;cases f.lines[l.toNat]? with
    |none=>rfl
    |some h=>cases h<;>rfl
 .rw[Ó a];have:([b,l].all λi=>ã<|0<=i)=Τ:=by simp_all[lI,XZ,Gm,Bool.and_eq_false_iff,decide_eq_false_iff_not]
  rw[this];rfl
def Rf:aB ["held","numbers","texts","path","made"] ["held","numbers","texts"]<|ay<|bU 112:=by decide+kernel
def AE(d:Wk K η A):Kn P w K η Ξ c9 94 "answer_file" ["held","numbers","texts"]<|mU K A IW:=by
 have j:=d.kl;refine d.kn 47 Rf<|@λO a6 a7 a8 a9 a_ a' ba bb n e=>?_;refine bx λax x=>?_;obtain⟨Q,R,S,e,p,T,X,Y,ab,ad,ae,a,bc,ay,aB,ag,aC,rfl,k,y,z,bd,aE,be,aL,C⟩:=e;obtain⟨b,rfl,rfl⟩:∃b,ag=[b]/\aC=.file b:=by
  match aB,ag,aL with
  |[],[b],e=>cases e;exact⟨b,D,D⟩
 obtain⟨E,aO,ak⟩:=aE.one;refine x ?_;have q:∀r:M,r<=100->r<=sizeLine:=λr aP=>by rw[Î];lia
 refine⟨_,ah (aH 3 Rf<|aY aM (pv 2) az λ_ _=>D)<|ah (aJ (cG<|bQ<|bY (rT d) j.bG.cl n aG (pv 0)<|aa (pv 3) aj) (ai<|aA<|aI<|aa (aW d.md.wY) aj) aD)<|ah (aH 4 Rf<|bY (nZ d) j.bG.cl n aG (pv 0)<|aa (pv 3) aj)<|ah (aJ (aF kg (W (pv 4) D) az<|aK _) (ai<|aA<|cQ gB (aI<|aa (W (pv 4) D) aj)<|sM d.md.xw<|W (pv 4) D) aD)<|ai<|aA<|cQ gB (aI<|aa az aj)<|aR (ng d) n D aG<|aa (aR (Bm d) n D aG<|aa (W (pv 4) D) aj) aj,?_⟩
 exists ay,_,_,.ref E,D,D,av.seq k.sub aO,D;refine⟨e,p,_,D,y.oh.at_,D,Q,R,S,e,p,T,X,Y,ab,ad,ae,a.doc,a.on,E,b,D,k,y,.inl<|ak.same k.sub,λbf s1=>?_⟩;have F:=k.more s1;have G:=y.heap k.sub s1;have f:ŧ a (.file b)=if(Ŗ a.doc).contains b=U then(match fS a.doc a.on b with
  |.ok l=>e9 a (0::ϵ (ę l))
  |.error O=>e9 a<|JS O) else .error 3:=rfl
 cases H:(Ŗ a.doc).contains b with
 |false=>
  rw[H]at f;exact(bS ⟨q 1<|by decide,λal m=>C.no f F (av.refl _) G z m⟩)
 |true=>
  rw[H]at f;refine(dJ ⟨e,p,_,D,G.oh.at_,D,Q,R,S,e,p,T,X,Y,ab,ad,ae,a.doc,a.on,E,b,D,F,G,.inl<|ak.same F.sub,ē.mp H,λbg bh bi bj bk h s am aQ=>?_⟩);obtain⟨bl,aS,r,aT,bm,aU,aV,t⟩:=id aQ;have u:=h.sub _ _ aU;refine⟨D,u,j.made.fo,D,?_⟩;cases I:fS a.doc a.on b with
  |error v=>
   rw[I]at t f;obtain⟨rfl,rfl,aP⟩:=t;refine nU (λan=>?_) λan=>absurd (show(0:Z)<((v.reason:M):Z) by simp_all) an;refine⟨D,u,j.made.fo,D,q 1<|by decide,λJ N=>?_⟩;have i:=aq (o:=.Y [nV v.reason]) N;refine⟨D,i _ _ u,j.made.fo,D,aT,_,D,.inr<|av.x_ i<|av.x_ h.sub aV,λaX aZ=>?_⟩;have ao:=aq (o:=.Y<|wG v.place) aZ;have ap:=i.trans ao;refine⟨J,aX,_,_,D,D,aN.of<|ao _ _ af,aN.of af,q 4<|by decide,λal m=>?_⟩;exact C.lit (l:=JS v) f (h.more ap) s (am.heap h.sub ap) (z.same s) (by show 4<=100000;decide) m
  |ok l=>
   rw[I]at t f;refine bx λax x=>?_;obtain⟨rfl,a0,a1,a2,a3⟩:=t;obtain⟨f1,f2,f3,f4,bn,bo,bp⟩:=sX I a2 a3;refine x ?_;refine⟨q 1<|by decide,λJ N=>?_⟩;have i:=aq (o:=.Y [V.int 0]) N;refine⟨D,i _ _ u,j.made.fo,D,aS,a0,D,(a1.same h.sub).same i,by rw[f4];lia,λa4 bq br s3 ar=>?_⟩;rw[f4]at ar;refine⟨a4,ę l,D,.inl<|aN.of ar,by lia,λd bs bt s4 au=>?_⟩;have aw:=i.trans<|s3.trans s4;rw[Aq]at au;refine⟨J,d,_,_,D,D,aN.of<|s4 _ _<|s3 _ _ af,aN.of au,by have:=bP<|ę l;show 1+((L<|tV<|ę l)+1)<=_;rw[Î];lia,λal m=>?_⟩
   have a5:[V.int 0]++(nV (L<|ę l)::tV (ę l))=(0::ϵ (ę l)).map nV:=by rw[þ,Aq];rfl
   rw[a5];refine C.lit (l:=0::ϵ (ę l)) f (h.more aw) s (am.heap h.sub aw) (z.same s) ?_ m;show(L<|(ę l).map _)+1+1<=_;rw[Ε];lia
def MO:aB ["held","numbers","texts","block","line","live"] ["held","numbers","texts"]<|ay<|bU 117:=by decide+kernel
def AI(p:Wk K η A):Kn P w K η Ξ c9 2 "answer_live" ["held","numbers","texts"]<|mU K A G_:=by
 have q:=p.kl;refine p.kn 52 MO λax ay S aB E t=>?_;refine bx λX x=>?_;obtain⟨aC,aE,aK,t,aO,F,Y,aP,ab,aQ,aS,a,G,aT,H,ad,ae,rfl,y,e,u,af,aU,aV,ag,I⟩:=t;obtain⟨b,l,rfl,rfl⟩:∃b l,H=[b,l]/\ae=.live b l:=by
  match H,ad,ag with
  |[b,l],[],t=>cases t;exact⟨b,l,D,D⟩
 have z:∀d:M,d<=100->d<=sizeLine:=λd J=>by rw[Î];lia
 have h:=y.sub;have L:=av.seq h af;obtain⟨ak,al,aX,aZ,a0,a1,a2,a3,a4,a5,a6,v,_⟩:=id u;apply x;have m:ŧ a (.live b l)=if(ϙ [b,l]&&wD a.doc b.toNat l.toNat) then e9 a [u_<|oH a.doc a.on b.toNat l.toNat] else .error 2:=rfl
 refine⟨_,ah (aH 3 MO<|aY aM (pv 1) az λ_ _=>D)<|ah (aH 4 MO<|aY aM (pv 1) az λ_ _=>D)<|ah (aJ (fy<|oz<|bY (qy p) q.doc.cl E aG (W (pv 0) D)<|aa (pv 3)<|aa (pv 4) aj) (ai<|aA<|aI<|aa (aW p.md.gh) aj) aD)<|ah (aH 5 MO<|aR (iU p) E D aG<|aa (aY aM (W (W (pv 0) D) D) (pv 3) λ_ _=>D)<|aa (W (pv 0) D) aj)<|ai<|aA<|aI<|aa (A7 (aF Ep (pv 4) (pv 5)<|by with_unfolding_all rfl) az az) aj,?_⟩
 rw[HG]at m;exists G,_,_,.int b,D,D,L,D,G,_,_,.int l,D,D,L,D;refine⟨D,e.oh.at_,q.bG.fo,D,F,ak,_,D,h _ _ v.ob,D,F,b,l,a.doc,D,u.at_.same h,λam=>?_,λa7 a8 i a9=>?_⟩
 .rw[am]at m;exact(bS ⟨z 1 bM,λf n=>I.no m y (av.refl _) e u n⟩)
 .rw[i]at m;refine(dJ ?_);have a_:0<=b/\0<=l:=by
   by_cases N:0<=b/\0<=l
   .exact N
   .rw[jH N]at i;cases i
  obtain⟨r,rfl⟩:∃d:M,b=(d:Z):=⟨b.toNat,aL⟩;obtain⟨j,rfl⟩:∃d:M,l=(d:Z):=⟨l.toNat,aL⟩;rw[Ţ,Ţ]at m;rw[nY]at i;cases s:a.doc[r]? with
  |none=>rw[s]at i;cases i
  |some an=>
   cases an with
   |prose a'=>rw[s]at i;cases i
   |chunk o=>
    refine bx λX x=>?_;obtain⟨ba,ao,ap⟩:=Paired.at2 v.bs s;obtain⟨O,rfl,aq⟩:=ap;apply x;have Q:=bX.mpr ⟨r,s⟩;have bb:=nc Q;have bc:=e.FY.IP;refine⟨D,e.oh.at_,q.bG.fo,D,D,h _ _ v.ob,q.doc.fo,D,al,_,_,.ref O,D,D,av.seq h v.bl,bN ao,?_⟩;refine⟨D,e.oh.at_,q.bG.fo,D,O,Y,o,ab,a.on,D,aq.same h,h _ _ e.vv,e.kv,(e.FY.chunk o Q).2,aL,λar R bd s2 au=>?_⟩;have aw:oH a.doc a.on r j=((Œ a.on 0 [] o.lines).map λk=>k.1).contains j:=by unfold oH;rw[s];show((Œ a.on 0 [] o.lines).any λk=>k.1==j)=_;rw[List.contains_eq_any_beq,XU];congr 1;funext k;exact Gf
    exists ar,_,D,.inl<|aN.of au,D,Et _;have jk:∀d:M,u_ (oH a.doc a.on r j)=d->∀f,R f=g->S (.ref f) (T R f<|.Y [nV d]):=λd J f n=>by rw[J]at m;exact I.lit (l:=[d]) m (y.more s2) (av.refl _) (e.heap h s2) u bh n
    show if R3 (V.int (j:Z)) (((Œ a.on 0 [] o.lines).map λk=>k.1).map nV)=U then _ else _
    rw[(aw▸LW j _:R3 (V.int (j:Z)) (((Œ a.on 0 [] o.lines).map λk=>k.1).map nV)=oH a.doc a.on r j)];refine gC (λC=>?_) λC=>?_
    .exact⟨z 1 bM,λf n=>jk 1 (by rw[C];rfl) f n⟩
    .exact⟨z 1 bM,λf n=>jk 0 (by rw[C];rfl) f n⟩
theorem l5(d:ó)(b l q:Z):h_ d b l q=if ϙ [b,l,q] then iI d (iD b l q) else g:=by
 grind[h_,jM,ϙ,iI,iD]
theorem BK(l:J Z)(o:Z):ϙ (l++[o])=(ϙ l&&ã (0<=o)):=by simp[ϙ]
def Ql(s:Ϲ)(b l q o:Z)(p:ê):RZ s b l q o p=match h_ s.doc b l q with
  |some (.lit t)=>if 0<=o/\o.toNat<L t then iS s p λm=>e9 s (cV<|e_ m<|qX (iD b l q) o.toNat) else .error 2
  |_=>.error 2:=by
 unfold RZ;rw[l5,show([b,l,q,o]:J Z)=[b,l,q]++[o] from D,BK];lia
def Ws(s:Ϲ)(b l q i o:Z)(p:ê):M5 s b l q i o p=match h_ s.doc b l q with
  |some (.use _ args)=>if 0<=i then(match args[i.toNat]? with
   |some t=>if 0<=o/\o.toNat<L t then iS s p λm=>e9 s (cV<|e_ m<|qY (iD b l q) i.toNat o.toNat) else .error 2
   |none=>.error 2) else .error 2
  |_=>.error 2:=by
 unfold M5;rw[l5,show([b,l,q,i,o]:J Z)=([b,l,q]++[i])++[o] from D,BK,BK];lia
def Av(m:ef->ě)(o:M)(h:bR Υ<=20000):(L<|cV<|cC m o Υ 0)<=100000:=by have a:=sL m o Υ 0;show(L<|_::lW (cC m o Υ 0))<=_;rw[Ñ,ku];lia
def NR(b:Gg)(h:L b.way<=20):(L<|b.value.toNat::fG b)<=100000:=by
 have d:(L<|b.way.flatMap ϓ)=3*L b.way:=by
  generalize b.way=a
  induction a with
  |nil=>rfl
  |cons k a e=>rw[ĕ,Ω,e,Ñ];show 3+_=_;lia
 rw[Ñ];unfold fG;rw[Ω,Ñ,d];cases b.home with
 |lit f i=>show 5+_+1<=_;lia
 |arg j l i f=>show 9+_+1<=_;lia
 |rule j=>show 4+_+1<=_;lia
def LS:aB ["held","numbers","texts","path","refusal","found"] ["held","numbers","texts"]<|ay<|bU 114:=by decide+kernel
def BF(f:Wk K η A):Kn P w K η Ξ c9 94 "answer_home" ["held","numbers","texts"]<|mU K A Jf:=by
 refine f.kn 49 LS λbg bh bi bj i h=>?_;refine bx λay t=>?_;obtain⟨I,J,aB,h,o,N,O,Q,R,aC,aE,e,S,aL,T,V,aO,rfl,u,X,aP,aS,aT,bk,aU,v⟩:=h;obtain⟨a,b,d,rfl,rfl,rfl⟩:∃a b d,T=[a,b]/\V=[d]/\aO=.home a b d:=by
  match T,V,aU with
  |[a,b],[d],h=>cases h;exact⟨a,b,d,D,D,D⟩
 obtain⟨x,aV,Y⟩:=aT.one;apply t;have ab:∀j:M,j<=100->j<=sizeLine:=λj aX=>by rw[Î];lia
 refine⟨_,ah (aH 3 LS<|aY aM (pv 2) az λ_ _=>D)<|ah (aH 4 LS<|bY (iJ f) f.kl.bG.cl i aG (pv 0)<|aa (pv 3) aj)<|ah (aJ (aF iP (pv 4) az<|aK _) (ai<|aA<|aI<|aa (pv 4) aj) aD)<|ah (aH 5 LS<|aR (Kg f) i D aG<|aa (W (bY (nZ f) f.kl.bG.cl i aG (pv 0)<|aa (pv 3) aj) D)<|aa (aY aM (pv 1) az λ_ _=>D)<|aa (aY aM (pv 1) az λ_ _=>D) aj)<|ah (aJ (aF ee (aQ f.md.a_<|pv 5) az<|aK _) (ai<|aA<|aI<|aa (aW f.md.gh) aj) aD)<|ai<|aA<|pv 5,?_⟩
 exists aL,_,_,.ref x,D,D,av.seq u.sub aV,D;refine⟨h,o,_,D,X.oh.at_,D,I,J,aB,h,o,N,O,Q,R,aC,aE,e.doc,e.on,x,d,D,u,X,.inl<|Y.same u.sub,λaZ bl a0 a1 y k z=>?_⟩;have ad:=aP.same k;rcases pe e d with⟨j,aX,a2,C⟩|⟨a3,ae,E,a4,C⟩
 .rw[a2];refine nU (λaf=>?_) λaf=>absurd (show(-(j:Z))<0 by simp_all) af;exact⟨ab 1 bM,λag F=>v.no (C _) y k z ad F⟩
 .rw[a3];refine⟨h,o,_,D,z.oh.at_,D,I,J,aZ,h,o,N,O,Q,R,a0,a1,e.doc,e.on,x,d,D,y,z,.inl<|Y.same<|k.trans y.sub,a4,λbm bn p bo bp l q a5 r=>?_⟩;rw[E]at r;refine bx λay t=>?_;obtain⟨bq,a6,j,br,bs,a7,bt,rfl,m,a8,ak,a9⟩:=r;obtain⟨f1,f2,f3,f4,bu,bv,al⟩:=sX E ak a9;apply t;have am:=av.seq ((k.trans q).trans l.sub) aS;exists D,l.sub _ _ a7,f.kl.made.fo,D,S,_,_,.int a,D,D,am,D,S,_,_,.int b,D,D,am,D;refine⟨a6,m,a,b,D,a8.same l.sub,λan i ao ap=>⟨(al an i ao ap).1,by have:=(al an i ao ap).2;lia⟩,λag bw F s3 aq=>?_⟩;have ar:=l.more s3;have au:=a5.heap l.sub s3;have aw:=ad.same q;have a_:ŧ e (.home a b d)=if(ã (0<=a)&&ã (0<=b))=Τ then .error 2 else match(ae[a.toNat]?).bind λp=>p[b.toNat]? with
   |some n=>e9 e<|n.value.toNat::fG n
   |none=>.error 2:=C _
  have a':(iN m a b=[]/\ŧ e (.home a b d)=.error 2)\/(iN m a b≠[]/\ŧ e (.home a b d)=.ok (e,iN m a b)/\(L<|iN m a b)<=100000):=by
   unfold iN;rw[ak,a_];by_cases G:0<=a/\0<=b
   .rw[à G,Ó<|by simp[G.1,G.2]];cases ba:(ae[a.toNat]?).bind λp=>p[b.toNat]? with
    |none=>exact .inl ⟨D,D⟩
    |some n=>
     refine .inr ⟨(λbb=>by cases bb),D,NR n ?_⟩;obtain⟨bc,bd,r⟩:=ES.mp ba;exact(yg E).2.2 bc (υ bd) n<|υ r
   simp_all[Ó,à]
  exists ag,_,D,.inl<|aN.of aq,D;rw[Ε];rcases a' with⟨ax,H⟩|⟨ax,H,be⟩
  .refine nU (λs=>?_) λs=>absurd (by rw[ax];rfl) s;exact⟨ab 1 bM,λbz bf=>v.no H ar (k.trans q) au aw bf⟩
  .refine nU (λs=>?_) λs=>?_
   .simp_all
   .exact(v.told H ar (k.trans q) au aw be (l.same.free F) aq)
def Hr:aB ["held","numbers","texts","path","sign","piece","refusal"] ["held","numbers","texts"]<|ay<|bU 115:=by decide+kernel
def yW(m:Wk K η A):Kn P w K η Ξ c9 94 "answer_where" ["held","numbers","texts"]<|mU K A D5:=by
 have C:=m.md;have k:=m.kl;refine m.kn 50 Hr λap bN a6 bO n l=>?_;refine bx λa7 Q=>?_;obtain⟨ar,au,a8,l,E,F,aw,ax,ay,a9,a_,h,p,a',aB,aC,ba,rfl,G,H,I,aE,bb,bR,bc,t⟩:=l;obtain⟨a,b,d,o,i,rfl,rfl,rfl⟩:∃a b d o i,aB=[a,b,d,o]/\aC=[i]/\ba=.whereIs a b d o i:=by
  match aB,aC,bc with
  |[a,b,d,o],[i],l=>cases l;exact⟨a,b,d,o,i,D,D,D⟩
 obtain⟨R,bd,aO⟩:=bb.one;have q:∀j:M,j<=100->j<=sizeLine:=λj be=>by rw[Î];lia
 have J:=G.sub;have N:=av.seq J aE;obtain⟨bf,bT,bU,bV,bW,bX,b0,b6,b7,b8,b9,bg,_⟩:=id I;apply Q;have e:=Ql h a b d o i;have u:ŧ h (.whereIs a b d o i)=.error 2->∀r,ap r=g->a6 (.ref r) (T ap r<|.Y [.int<|-2]):=λS r v=>t.no S G (av.refl _) H I v;refine⟨_,ah (aH 3 Hr<|aY aM (pv 2) az λ_ _=>D)<|ah (aH 4 Hr<|aY aM (pv 1) az λ_ _=>D)<|ah (aH 5 Hr<|bY (yC m) k.doc.cl n aG (W (pv 0) D)<|aa (aY aM (pv 1) az λ_ _=>D)<|aa (aY aM (pv 1) az λ_ _=>D)<|aa (aY aM (pv 1) az λ_ _=>D) aj)<|ah (aJ (PW.pt<|lz (cG<|bQ<|f_ C.bH (pv 5) k.lit.mg)<|iu<|cG<|lB jG iP az (pv 4)<|aQ C.a_<|W (pv 5) D) (ai<|aA<|aI<|aa (aW C.gh) aj) aD)<|ah (aH 6 Hr<|bY (iJ m) k.bG.cl n aG (pv 0)<|aa (pv 3) aj)<|ah (aJ (aF iP (pv 6) az<|aK _) (ai<|aA<|aI<|aa (pv 6) aj) aD)<|ai<|aA<|aR (tG m) n D aG<|aa (W (bY (nZ m) k.bG.cl n aG (pv 0)<|aa (pv 3) aj) D)<|aa (iO C.iV<|bF bZ (pv 1) dz<|bD az)<|aa (pv 4) aj,?_⟩
 exists a',_,_,.ref R,D,D,av.seq J bd,D,p,_,_,.int o,D,D,N,D;exists D,H.oh.at_,k.bG.fo,D,F,bf,_,D,J _ _ bg.ob,D,p,_,_,.int a,D,D,N,D,p,_,_,.int b,D,D,N,D,p,_,_,.int d,D,D,N,D;refine⟨F,a,b,d,h.doc,D,I.at_.same J,λbh=>?_,λbi b_ aP aS=>?_⟩
 .rw[bh]at e;exact⟨_,_,.type "NoneType",_,D,.b_,k.nl,bS<|bS ⟨q 1 bM,u e⟩⟩
 .rw[aP]at e;obtain⟨bj,bk,bl⟩:=k.Hg aS;exists _,_,bj,_,D,bk,bl;cases bi with
  |use j b'=>exact bS<|bS ⟨q 1 bM,u e⟩
  |param j=>exact bS<|bS ⟨q 1 bM,u e⟩
  |lit aT=>
   obtain⟨ca,sg,bm,bn⟩:=aS;refine dJ ⟨_,D,nU (λX=>?_) λX=>?_⟩
   case refine_2=>exact(bS ⟨q 1 bM,u<|e.trans<|Ó λw=>X w.1⟩)
   exists D,bm,k.lit.fo,D,sg,_,D,.inl bn;rw[bP];obtain⟨f,rfl⟩:∃j:M,o=(j:Z):=⟨o.toNat,aL⟩;rw[Ţ]at e;refine gC (λx=>?_) λx=>?_
   .exact⟨q 1 bM,u<|e.trans<|Ó λw=>(by simpa using x:¬((f:M):Z)<((aT.length:M):Z)) fX⟩
   have x:f<L aT:=by simp_all
   have e:ŧ h (.whereIs a b d (f:Z) i)=iS h i λaU=>e9 h<|cV<|e_ aU<|qX (iD a b d) f:=e.trans<|à ⟨X,x⟩;have Y:=l5 h.doc a b d;rw[aP]at Y;have ab:ϙ [a,b,d]=U:=by simp_all
   rw[à ab]at Y;refine⟨l,E,_,D,H.oh.at_,D,ar,au,a8,l,E,F,aw,ax,ay,a9,a_,h.doc,h.on,R,i,D,G,H,.inl<|aO.same G.sub,λbo cb bp bq ad y ae=>?_⟩;have aV:=I.same y;rcases pe h i with⟨j,be,bs,ag⟩|⟨bt,bu,aX,bv,ag⟩
   .rw[bs];refine nU (λaZ=>?_) λaZ=>absurd (show(-(j:Z))<0 by simp_all) aZ;exact⟨q 1 bM,λr v=>t.no (e.trans<|ag _) ad y ae aV v⟩
   .rw[bt];rw[ag]at e;refine⟨l,E,_,D,ae.oh.at_,D,ar,au,bo,l,E,F,aw,ax,ay,bp,bq,h.doc,h.on,R,i,D,ad,ae,.inl<|aO.same<|y.trans ad.sub,bv,λcc ak aU cd ce z al bw a0=>?_⟩;rw[aX]at a0;refine bx λa7 Q=>?_;obtain⟨cf,bz,j,cg,ch,bA,ci,rfl,am,bB,a1,a2⟩:=a0;obtain⟨f1,f2,f3,f4,cj,ck,cl⟩:=sX aX a1 a2;apply Q;refine⟨D,z.sub _ _ bA,k.made.fo,D,p,_,D,(av.seq ((y.trans al).trans z.sub) aE:aN K ak p [.int a,.int b,.int d,.int (f:Z)]),λan bC=>?_⟩;refine⟨an,_,D,.inl ⟨aN.of af,λs bE=>?_⟩⟩;have a3:T (T ak an<|.Y<|br [.int a,.int b,.int d,.int (f:Z)] g<|B 3) s (.bO<|br [.int a,.int b,.int d,.int (f:Z)] g<|B 3) s=B (.bO [.int a,.int b,.int d]):=af;have O:=(aq (o:=.Y<|br [.int a,.int b,.int d,.int (f:Z)] g<|B 3) bC).trans<|aq (o:=.bO<|br [.int a,.int b,.int d,.int (f:Z)] g<|B 3) bE;generalize T (T ak an<|.Y<|br [.int a,.int b,.int d,.int (f:Z)] g<|B 3) s (.bO<|br [.int a,.int b,.int d,.int (f:Z)] g<|B 3)=a4 at a3 O;have ao:0<=a/\0<=b/\0<=d:=by unfold ϙ at ab;simp at ab;omega
    have bG:cD K a4 s<|iD a b d:=by
     have S:wG (iD a b d)=[.int a,.int b,.int d]:=by show[V.int ((a.toNat:M):Z),V.int ((b.toNat:M):Z),V.int ((d.toNat:M):Z)]=_;rw[dI ao.1,dI ao.2.1,dI ao.2.2]
     show gb K a4 s (wG _);rw[S];exact gb.of a3
    have a5:=z.more O;refine⟨bz,am,s,iD a b d,f,D,(bB.same z.sub).same O,bG,aL,λr cm v s4 bH=>?_⟩;have bI:e_ bu (qX (iD a b d) f)=cC (oV<|iD a b d) f am 0:=by rw[<-a1];exact we am λbJ n bK bL t=>Iq (a2 bJ n bK bL) Y.symm x t
    rw[bI]at e;exact t.told e (a5.more s4) (y.trans al) (bw.heap z.sub<|O.trans s4) (aV.same al) (Av _ _ f3) (a5.same.free v) bH
def DO:aB ["held","numbers","texts","path","argument","sign","piece","refusal"] ["held","numbers","texts"]<|ay<|bU 116:=by decide+kernel
def uL(q:Wk K η A):Kn P w K η Ξ c9 94 "answer_argument" ["held","numbers","texts"]<|mU K A v8:=by
 have u:=q.md;have l:=q.kl;refine q.kn 51 DO λaO b_ bg b' v n=>?_;refine bx λad r=>?_;obtain⟨aP,aS,bh,n,N,O,aT,aU,aV,bi,bj,i,s,bk,aX,aZ,bl,rfl,Q,R,S,a0,bm,ca,bn,z⟩:=n;obtain⟨a,b,d,m,o,j,rfl,rfl,rfl⟩:∃a b d m o j,aX=[a,b,d,m,o]/\aZ=[j]/\bl=.argument a b d m o j:=by
  match aX,aZ,bn with
  |[a,b,d,m,o],[j],n=>cases n;exact⟨a,b,d,m,o,j,D,D,D⟩
 obtain⟨ae,bo,a1⟩:=bm.one;have p:∀k:M,k<=100->k<=sizeLine:=λk bp=>by rw[Î];lia
 have X:=Q.sub;have C:=av.seq X a0;obtain⟨bq,cb,cc,cd,ce,cf,cg,ch,ci,cj,ck,bs,_⟩:=id S;apply r;have e:=Ws i a b d m o j;have t:ŧ i (.argument a b d m o j)=.error 2->∀x,aO x=g->bg (.ref x) (T aO x<|.Y [.int<|-2]):=λag x E=>z.no ag Q (av.refl _) R S E;refine⟨_,ah (aH 3 DO<|aY aM (pv 2) az λ_ _=>D)<|ah (aH 4 DO<|aY aM (pv 1) az λ_ _=>D)<|ah (aH 5 DO<|aY aM (pv 1) az λ_ _=>D)<|ah (aH 6 DO<|bY (yC q) l.doc.cl v aG (W (pv 0) D)<|aa (aY aM (pv 1) az λ_ _=>D)<|aa (aY aM (pv 1) az λ_ _=>D)<|aa (aY aM (pv 1) az λ_ _=>D) aj)<|ah (aJ (PW.pt<|lz (cG<|bQ<|f_ u.bH (pv 6) l.use.mg)<|iu<|cG<|lB jG iP az (pv 4)<|aQ u.a_<|W (pv 6) D) (ai<|aA<|aI<|aa (aW u.gh) aj) aD)<|ah (aJ (cG<|lB jG iP az (pv 5)<|aQ u.a_<|aY aM (W (pv 6) D) (pv 4) λ_ _=>D) (ai<|aA<|aI<|aa (aW u.gh) aj) aD)<|ah (aH 7 DO<|bY (iJ q) l.bG.cl v aG (pv 0)<|aa (pv 3) aj)<|ah (aJ (aF iP (pv 7) az<|aK _) (ai<|aA<|aI<|aa (pv 7) aj) aD)<|ai<|aA<|aR (sF q) v D aG<|aa (W (bY (nZ q) l.bG.cl v aG (pv 0)<|aa (pv 3) aj) D)<|aa (iO u.iV<|bF bZ (pv 1) dz<|bD az)<|aa (pv 4)<|aa (pv 5) aj,?_⟩
 exists bk,_,_,.ref ae,D,D,av.seq X bo,D,s,_,_,.int m,D,D,C,D,s,_,_,.int o,D,D,C,D;exists D,R.oh.at_,l.bG.fo,D,O,bq,_,D,X _ _ bs.ob,D,s,_,_,.int a,D,D,C,D,s,_,_,.int b,D,D,C,D,s,_,_,.int d,D,D,C,D;refine⟨O,a,b,d,i.doc,D,S.at_.same X,λbt=>?_,λbu cl a2 a3=>?_⟩
 .rw[bt]at e;exact⟨_,_,.type "NoneType",_,D,.b_,l.nu,bS<|bS ⟨p 1 bM,t e⟩⟩
 .rw[a2]at e;obtain⟨bv,bw,bz⟩:=l.rE a3;exists _,_,bv,_,D,bw,bz;cases bu with
  |lit F=>exact bS<|bS ⟨p 1 bM,t e⟩
  |param k=>exact bS<|bS ⟨p 1 bM,t e⟩
  |use cm Y=>
   refine bx λad r=>?_;obtain⟨cn,co,a4,a5,cp,bA,a6,a7⟩:=a3;apply r;refine dJ ⟨_,D,nU (λak=>?_) λak=>?_⟩
   case refine_2=>exact(bS ⟨p 1 bM,t<|e.trans<|Ó ak⟩)
   exists D,a5,l.use.fo,D,a4,_,D,.inl a6;rw[Ε,a7.length];obtain⟨f,rfl⟩:∃k:M,m=(k:Z):=⟨m.toNat,aL⟩;have e:=e.trans<|à ak;rw[Ţ]at e;refine gC (λG=>?_) λG=>?_
   .have G:¬((f:M):Z)<((L Y:M):Z):=by simpa using G
    rw[eg fX]at e;exact⟨p 1 bM,t e⟩
   have G:f<L Y:=by simp_all
   obtain⟨F,al⟩:∃F,Y[f]?=B F:=⟨Y[f],ą G⟩;rw[al]at e;refine bx λad r=>?_;obtain⟨am,bB,bC⟩:=Paired.at2 a7 al;apply r;refine⟨_,D,nU (λan=>?_) λan=>?_⟩
   case refine_2=>exact(bS ⟨p 1 bM,t<|e.trans<|Ó λw=>an w.1⟩)
   exists D,a5,l.use.fo,D,a4,_,_,.ref am,D,D,a6,bN (by rw[Ë,bB];rfl:(bA.map V.ref)[f]?=some (.ref am)),am,_,D,.inl bC;rw[bP];obtain⟨h,rfl⟩:∃k:M,o=(k:Z):=⟨o.toNat,aL⟩;rw[Ţ]at e;refine gC (λH=>?_) λH=>?_
   .exact⟨p 1 bM,t<|e.trans<|Ó λw=>(by simpa using H:¬((h:M):Z)<((F.length:M):Z)) fX⟩
   have H:h<L F:=by simp_all
   have e:ŧ i (.argument a b d (f:Z) (h:Z) j)=iS i j λa8=>e9 i<|cV<|e_ a8<|qY (iD a b d) f h:=e.trans<|à ⟨an,H⟩;have ao:=l5 i.doc a b d;rw[a2]at ao;have ap:ϙ [a,b,d]=U:=by simp_all
   rw[à ap]at ao;refine⟨n,N,_,D,R.oh.at_,D,aP,aS,bh,n,N,O,aT,aU,aV,bi,bj,i.doc,i.on,ae,j,D,Q,R,.inl<|a1.same Q.sub,λbE cq bG bH ar I au=>?_⟩;have a9:=S.same I;rcases pe i j with⟨k,bp,bI,aw⟩|⟨bJ,bK,a_,bL,aw⟩
   .rw[bI];refine nU (λa'=>?_) λa'=>absurd (show(-(k:Z))<0 by simp_all) a';exact⟨p 1 bM,λx E=>z.no (e.trans<|aw _) ar I au a9 E⟩
   .rw[bJ];rw[aw]at e;refine⟨n,N,_,D,au.oh.at_,D,aP,aS,bE,n,N,O,aT,aU,aV,bG,bH,i.doc,i.on,ae,j,D,ar,au,.inl<|a1.same<|I.trans ar.sub,bL,λcr ax a8 cs ct J ay bO ba=>?_⟩;rw[a_]at ba;refine bx λad r=>?_;obtain⟨cu,bR,k,cv,cw,bT,cx,rfl,aB,bU,bb,bc⟩:=ba;obtain⟨f1,f2,f3,f4,cy,cz,cA⟩:=sX a_ bb bc;apply r;refine⟨D,J.sub _ _ bT,l.made.fo,D,s,_,D,(av.seq ((I.trans ay).trans J.sub) a0:aN K ax s [.int a,.int b,.int d,.int (f:Z),.int (h:Z)]),λaC bV=>?_⟩;refine⟨aC,_,D,.inl ⟨aN.of af,λy bW=>?_⟩⟩;have bd:T (T ax aC<|.Y<|br [.int a,.int b,.int d,.int (f:Z),.int (h:Z)] g<|B 3) y (.bO<|br [.int a,.int b,.int d,.int (f:Z),.int (h:Z)] g<|B 3) y=B (.bO [.int a,.int b,.int d]):=af;have ab:=(aq (o:=.Y<|br [.int a,.int b,.int d,.int (f:Z),.int (h:Z)] g<|B 3) bV).trans<|aq (o:=.bO<|br [.int a,.int b,.int d,.int (f:Z),.int (h:Z)] g<|B 3) bW;generalize T (T ax aC<|.Y<|br [.int a,.int b,.int d,.int (f:Z),.int (h:Z)] g<|B 3) y (.bO<|br [.int a,.int b,.int d,.int (f:Z),.int (h:Z)] g<|B 3)=be at bd ab;have aE:0<=a/\0<=b/\0<=d:=by unfold ϙ at ap;simp at ap;omega
    have bX:cD K be y<|iD a b d:=by
     have ag:wG (iD a b d)=[.int a,.int b,.int d]:=by show[V.int ((a.toNat:M):Z),V.int ((b.toNat:M):Z),V.int ((d.toNat:M):Z)]=_;rw[dI aE.1,dI aE.2.1,dI aE.2.2]
     show gb K be y (wG _);rw[ag];exact gb.of bd
    have bf:=J.more ab;refine⟨bR,aB,y,iD a b d,f,h,D,(bU.same J.sub).same ab,bX,aL,λx cB E s4 b0=>?_⟩;have b6:e_ bK (qY (iD a b d) f h)=cC (oX (iD a b d) f) h aB 0:=by rw[<-bb];exact we aB λb7 v b8 b9 z=>Hy (bc b7 v b8 b9) ao.symm al H z
    rw[b6]at e;exact z.told e (bf.more s4) (I.trans ay) (bO.heap J.sub<|ab.trans s4) (a9.same ay) (Av _ _ f3) (bf.same.free E) b0
theorem AF:∀l:J Đ,(L<|l.flatMap ϵ)=fT l
 |[]=>D
 |n::l=>by rw[ĕ,Ω,AF l];show(L<|n.map _)+1+_=_;rw[Ε];rfl
def IS:aB ["held","numbers","texts","path","names","answer","name"] ["held","numbers","texts"]<|ay<|bU 118:=by decide+kernel
def vq(f:Wk K η A):Kn P w K η Ξ c9 4 "answer_reached" ["held","numbers","texts"]<|mU K A yF:=by
 have p:=f.kl;refine f.kn 53 IS λbi bj bk bl x k=>?_;refine bx λR m=>?_;obtain⟨aO,aP,ag,k,q,ak,al,aS,am,aU,aV,a,aX,an,aZ,ap,S,rfl,r,h,y,bm,a0,bn,a1,ar⟩:=k;obtain⟨b,rfl,rfl⟩:∃b,ap=[b]/\S=.reached b:=by
  match aZ,ap,a1 with
  |[],[b],k=>cases k;exact⟨b,D,D⟩
 obtain⟨z,a2,aw⟩:=a0.one;apply m;have ax:∀i:M,i<=100->i<=sizeLine:=λi C=>by rw[Î];lia
 refine⟨_,ah (aH 3 IS<|aY aM (pv 2) az λ_ _=>D)<|ah (aJ (cG<|bQ<|bY (rT f) p.bG.cl x aG (pv 0)<|aa (pv 3) aj) (ai<|aA<|aI<|aa (aW f.md.wY) aj) aD)<|ah (aH 4 IS<|aR (o5 f) x D aG<|aa (W (pv 0) D)<|aa (W (pv 0) D)<|aa (pY (fP x) (W (W (pv 0) D) D) (Fz f.md.iV<|pv 3) λ_ _=>D) aj)<|ah (aH 5 IS<|aI<|aa (aQ f.md.a_<|pv 4) aj)<|ah (cS ğ D (bu<|pv 4) (bC 6 IS)<|ai<|aT<|kF (pv 5)<|aR (ng f) x D aG<|aa (pv 6) aj)<|ai<|aA<|pv 5,?_⟩
 exists an,_,_,.ref z,D,D,av.seq r.sub a2,D;refine⟨k,q,_,D,h.oh.at_,D,aO,aP,ag,k,q,ak,al,aS,am,aU,aV,a.doc,a.on,z,b,D,r,h,.inl<|aw.same r.sub,λbo s1=>?_⟩;have E:=r.more s1;have s:=h.heap r.sub s1;have n:ŧ a (.reached b)=if(Ŗ a.doc).contains b then e9 a (ON<|q6 a.doc a.on b) else .error 3:=rfl
 cases X:(Ŗ a.doc).contains b with
 |false=>
  rw[X]at n;exact(bS ⟨ax 1 bM,λj o=>ar.no n E (av.refl _) s y o⟩)
 |true=>
  rw[X]at n;have n:=n;refine bx λR m=>?_;obtain⟨bp,bq,a3,br,bs,bt,bv,a4,bw,bz,bA,F,_⟩:=id y;obtain⟨ay,a5,a6⟩:=F.fk.find (by rw[<-jc];exact ē.mp X);apply m;have g1:=E.sub;refine(dJ ⟨D,s.oh.at_,p.bG.fo,D,D,s.oh.at_,p.bG.fo,D,?_⟩);refine⟨D,s.oh.at_,p.bG.fo,D,D,g1 _ _ F.ob,p.doc.fo,D,z,b,D,.inl<|aw.same g1,λa7 bB s2 a8=>?_⟩;have Y:=E.more s2;have g2:=Y.sub;exists a3,.ref ay,D,.inr ⟨bI a4,kT b,a7,av.rd g2 F.fi,D,a8,a5.symm⟩;have bD:=fY a.doc U b;have bE:=h.FY.blocks;refine⟨ag,ak,a.doc,al,am,a.on,ay,ř a.doc U b,D,g2,y.at_,h.FY,h.vv,h.kv,aN.of<|g2 _ _<|F.tf _ a6,λe G=>let⟨S,a9,_⟩:=dB.mp G;⟨S,a9⟩,aL,λZ t H bF s3 I J=>?_⟩;have aB:=h.FY.reach a.on<|ř a.doc U b;rw[<-uV]at J aB;generalize q6 a.doc a.on b=d at J aB n;have aC:=J.length;have bG:=mZ d;have O:=Y.more s3;refine⟨Z,_,D,.inl<|aN.of I,ax 1 bM,λj o=>?_⟩;have ab:av t<|T t j<|.Y [.int ((L<|H.map V.ref):M)]:=aq o;have aE:(T t j<|.Y [.int ((L<|H.map V.ref):M)]) j=B (.Y [nV<|L d]):=by rw[af,Ε,aC];rfl
  generalize T t j (.Y [.int ((L<|H.map V.ref):M)])=bH at ab aE;have nD:=(ao I o).symm;exists Z,D,⟨_,aN.of<|ab _ _ I⟩;refine c_ (N:=H.map V.ref) (λe Q ad=>∃ae,av t ad/\ad j=B (.Y<|(L d::(d.take e).flatMap ϵ).map nV)/\Q=[B<|.ref k,B<|.ref aX,B<|.ref an,B<|.ref z,B<|.ref Z,B<|.ref j,ae]) ⟨g,ab,aE,D⟩ ?_ ?_ ?_
  .rintro e Q ad _ ⟨_,s3,_⟩;exact aN.of<|s3 _ _ I
  .refineλe bJ Q a_ q a'=>bx λR m=>?_;obtain⟨ae,u,v,rfl⟩:=a';apply m;rw[Ë]at q;refine bx λR m=>?_;obtain⟨ba,bb,rfl⟩:=Ü.mp q;obtain⟨i,C,bc⟩:=Paired.at_ J bb;apply m;have bd:fT d=fT (d.take e)+fT (d.drop e):=by rw[<-mT,Ĩ]
   have G:=(Ð.mp C).1;have be:d.drop e=i::d.drop (e+1):=by rw[ĩ G];congr 1;exact ĥ<|(ą G).symm.trans C
   rw[be,gq]at bd;refine⟨.inl ⟨D,_,aN.of v⟩,ba,i,D,.inr ((bc.same O.sub).same u).sq,aL,λf bK bL aF bf=>?_⟩;refine⟨j,f,_,_,D,D,aF _ _ v,.inl<|aN.of bf,?_,_,λbg bh aK=>?_,?_,D⟩
   .rw[Ε,Ε,Ñ,AF<|d.take e,Î];show _+((L<|i.map _)+1)<=_;rw[Ε];lia
   .rw[au<|ao aK o];exact aF _ _<|u bg bh aK
   .rw[af,(by rw[Ĝ,C];rfl:d.take (e+1)=d.take e++[i]),ċ,ĕ,Ů,ö,þ,þ,Ý];rfl
  .rintro Q a_ ⟨ae,u,v,rfl⟩;rw[Ε,aC,č]at v;exact(ar.told (l:=ON d) n (O.more u) (av.refl _) (((s.heap E.sub s2).heap Y.sub s3).heap O.sub u) y (by show(L<|d.flatMap ϵ)+1<=100000;rw[AF];lia) (O.same.free o) v)
inductive Qj(K:Ζ)(vs:J V)(H:Hp)(Q:VK)(d:XK):Prop
 |mk(a b t u:_)(_:vs=[.ref a,.ref b])(_:Tx K H a t)(_:Tx K H b u)(_:L t<=30000)(_:L u<=30000)(_:Q (nV<|bJ t u) H)
def Qh:aB ["text","other","size"] ["text","other"]<|ay<|bU 124:=by decide+kernel
def A0(f:Wk K η A):Kn P w K η Ξ c9 1 "common_size" ["text","other"]<|Qj K:=by
 refine f.kn 59 Qh λE N O Q R F=>?_;obtain⟨h,j,b,d,rfl,t,u,S,T,k⟩:=F;refine⟨_,ah (aH 2 Qh az)<|ah (wj ğ (PW.pt<|w_ (aF iP (pv 2) (jN (Nb<|by rfl) D f.md.ZA (by decide+kernel)<|aa (aQ f.md.a_<|pv 0)<|aa (aQ f.md.a_<|pv 1) aj)<|aK _)<|vY<|aF ee (aY aM (pv 0) (pv 2) λ_ _=>D) (aY aM (pv 1) (pv 2) λ_ _=>D)<|aK _)<|ai<|qq (i:=2) Qh.nd D (nv D) az sj)<|ai<|aA<|pv 2,?_⟩
 existsλv x l=>l=E/\∃a:M,v=L b -a/\a<=L b/\a<=L d/\bJ b d=a+bJ (b.drop a) (d.drop a)/\x=[B<|.ref h,B<|.ref j,B<|nV a],⟨_,D,0,D,Ò _,Ò _,bh,D⟩;refineλv x l G=>bx λV H=>?_;obtain⟨rfl,a,rfl,W,X,m,rfl⟩:=G;apply H;exists h,_,D,.inl t,j,_,D,.inl u,_,_,D;rw[bP,bP];have I:(if((L d:M):Z)<((L b:M):Z) then((L d:M):Z) else((L b:M):Z))=((min (L b) (L d):M):Z):=by lia
 rw[I];refine nU (λe=>?_) λe=>?_
 .have e:a<L b/\a<L d:=by omega
  obtain⟨n,o⟩:∃n,b[a]?=B n:=⟨b[a],ą e.1⟩;obtain⟨p,q⟩:∃p,d[a]?=B p:=⟨d[a],ą e.2⟩;exists h,_,_,bV n,D,D,t,bN (by unfold tV;rw[Ë,o];rfl),j,_,_,bV p,D,D,u,bN (by unfold tV;rw[Ë,q];rfl),D;refine nU (λr=>?_) λr=>?_
  .have J:=JV r;subst J;existsλy z=>∃C,C<L b -a/\z=l/\∃a:M,C=L b -a/\a<=L b/\a<=L d/\bJ b d=a+bJ (b.drop a) (d.drop a)/\y=[B<|.ref h,B<|.ref j,B<|nV a],λy z s=>s;exact⟨L b -(a+1),aL,D,a+1,D,e.1,e.2,HS m o q,D⟩
  .rw[Ir m o q λs=>r<|by rw[s]]at k;exact k
 .refine dJ<|?_;rw[J6 m aL]at k;exact k
def Gq.two{K:Ζ}{G:Hp}{Ŏ:O}{p t:ê}(h:Gq K G Ŏ [p,t]):∃b È,aN K G Ŏ [.ref b,.ref È]/\Tx K G b p/\Tx K G È t:=by
 obtain⟨j,d,e⟩:=h;cases e with
 |cons f a=>cases a with
  |cons i a=>cases a;exact⟨_,_,d,f,i⟩
def D7:aB ["held","numbers","texts","path","text","refusal","tangled","rows"] ["held","numbers","texts"]<|ay<|bU 120:=by decide+kernel
def y9(b:Wk K η A):Kn P w K η Ξ c9 94 "answer_check" ["held","numbers","texts"]<|mU K A DB:=by
 refine b.kn 55 D7 λbE bG a3 bH k f=>?_;refine bx λal p=>?_;obtain⟨am,an,a4,f,t,ao,ap,ar,au,a5,a6,i,bI,aw,a7,ax,a8,rfl,G,ay,a9,bK,a_,a',ba,H⟩:=f;obtain⟨d,a,rfl,rfl⟩:∃d a,ax=[d,a]/\a8=.check d a:=by
  match a7,ax,ba with
  |[],[d,a],f=>cases f;exact⟨d,a,D,D⟩
 obtain⟨I,u,bb,aB,bc⟩:=a_.two;apply p;have bL:=a' a bh;have J:∀m:M,m<=100->m<=sizeLine:=λm bd=>by rw[Î];lia
 have aC:=av.seq G.sub bb;refine⟨_,ah (aH 3 D7<|aY aM (pv 2) az λ_ _=>D)<|ah (aH 4 D7<|aY aM (pv 2) az λ_ _=>D)<|ah (aH 5 D7<|bY (iJ b) b.kl.bG.cl k aG (pv 0)<|aa (pv 3) aj)<|ah (aJ (aF iP (pv 5) az<|aK _) (ai<|aA<|aI<|aa (pv 5) aj) aD)<|ah (aH 6 D7<|aR (Bm b) k D aG<|aa (W (bY (nZ b) b.kl.bG.cl k aG (pv 0)<|aa (pv 3) aj) D) aj)<|ah (aJ (aF (ow k.units) (pv 4) (pv 6)<|aK _) (ai<|aA<|aI<|aa az<|aa az<|aa az aj) aD)<|ah (aH 7 D7<|aR (k8 b) k D aG<|aa (bF bZ (pv 4) dz<|bD<|aR (A0 b) k D aG<|aa (pv 4)<|aa (pv 6) aj)<|aa (aW b.md.uM) aj)<|ai<|aA<|aI<|aa az<|aa (cQ J3 (aQ b.md.a_<|pv 7) az)<|aa (aQ b.md.a_<|aY aM (pv 7) (uc ou az) λ_ _=>D) aj,?_⟩
 exists aw,_,_,.ref I,D,D,aC,D,aw,_,_,.ref u,D,D,aC,D;refine⟨f,t,_,D,ay.oh.at_,D,am,an,a4,f,t,ao,ap,ar,au,a5,a6,i.doc,i.on,I,d,D,G,ay,.inl<|aB.same G.sub,λbe bN bf bg N v O=>?_⟩;have aE:=a9.same v;rcases pe i d with⟨m,bd,bi,Q⟩|⟨bj,l,aO,bk,Q⟩
 .rw[bi];refine nU (λaP=>?_) λaP=>absurd (show(-(m:Z))<0 by simp_all) aP;exact⟨J 1 bM,λx q=>H.no (Q _) N v O aE q⟩
 .rw[bj];refine⟨f,t,_,D,O.oh.at_,D,am,an,be,f,t,ao,ap,ar,au,bf,bg,i.doc,i.on,I,d,D,N,O,.inl<|aB.same<|v.trans N.sub,bk,λy bO bQ bR bS z aS bl aT=>?_⟩;rw[aO]at aT;refine bx λal p=>?_;obtain⟨bT,bm,m,bU,aU,bn,bV,rfl,bo,bp,bq,bs⟩:=aT;obtain⟨f1,f2,f3,f4,bW,bX,b0⟩:=sX aO bq bs;apply p;refine⟨D,z.sub _ _ bn,b.kl.made.fo,D,bm,bo,D,bp.same z.sub,by rw[f4];lia,λb bt b6 s3 R=>?_⟩;rw[f4]at R;have r:=z.more s3;have aV:=bl.heap z.sub s3;have S:=v.trans aS;have aX:=aE.same aS;have X:=(bc.same S).same r.sub;have h:ŧ i (.check d a)=_:=Q _;rw[pJ]at h;exists u,b,a,ę l,D,D,X,aN.of R;refine nU (λY=>?_) λY=>?_
  .rw[à Y.symm]at h;exact⟨J 3 bM,λx q=>H.lit h r S aV aX bM q⟩
  .rw[Ó λaU=>Y aU.symm]at h;refine⟨u,b,a,ę l,D,X,aN.of R,aL,aL,u,_,D,X,λn ab=>?_⟩;rw[(by rw[uK,n7]:br (tV a) none (some ((bJ a (ę l):M):Z))=tV (a.take<|bJ a<|ę l))];have C:=r.made (o:=.Y<|tV<|a.take<|bJ a<|ę l) ab;have aZ:Tx K (T y n<|.Y<|tV<|a.take<|bJ a<|ę l) n<|a.take<|bJ a<|ę l:=aN.of af;have ad:av y<|T y n<|.Y<|tV<|a.take<|bJ a<|ę l:=aq<|r.sub.free ab;have ae:=aV.ex<|(Ex.refl r.sub).made (o:=.Y<|tV<|a.take<|bJ a<|ę l) ab;generalize T y n (.Y<|tV<|a.take<|bJ a<|ę l)=bu at C aZ ad ae;generalize T bt n (.Y<|tV<|a.take<|bJ a<|ę l)=b7 at C ae;refine⟨bu,n,_,10,D,C.sub,aZ,xV,λb8 a0 ag E a1=>?_⟩;have ak:=C.trans E;rw[E_]at h;obtain⟨e,j,bv⟩:∃e j,ώ 10 (a.take<|bJ a<|ę l)=e++[j]:=⟨_,_,(gz<|mP 10 _).symm⟩;rw[bv]at h a1;refine bx λal p=>?_;obtain⟨b9,bw,bz⟩:=a1;obtain⟨F,s,rfl,bA,bB⟩:=Paired.QL bz;apply p;have b_:L F=L e:=bA.length;have a2:aN K a0 ag<|F.map V.ref++[V.ref s]:=by have:=av.seq ak.sub bw;rw[Ý]at this;exact this
   refine⟨ag,_,D,.inl a2,?_⟩;refine⟨ag,_,_,.ref s,D,D,a2,L2.ry _ _,s,_,D,.inl<|bB.same ak.sub,J 3 bM,λx q=>?_⟩;have bC:(((L<|F.map V.ref++[V.ref s]):M):Z) -1=((L e:M):Z):=by simp_all
   rw[(bh:(L<|e++[j]) -1=L e),(bh:(e++[j]).getLastD []=j),ύ]at h;rw[bP];show a3 (V.ref x) (T a0 x<|.Y [V.int 0,V.int<|(((L<|F.map V.ref++[V.ref s]):M):Z) -1,nV<|L j]);rw[bC];refine H.lit (l:=[0,L e,L j]) ?_ ak (S.trans<|ad.trans E.le) (ae.ex E) (aX.same<|ad.trans E.le) bh q;rw[h];show e9 i [0,L e,_]=_;split<;>rw[ύ]<;>rfl
def Dt(o:HO):Prop:=∃a,o=.dT a\/∃b,o=.jZ b (.dT a)
def X_{o:HO}(h:∀a,o≠.dT a)(í:∀b a,o≠.jZ b (.dT a)):¬Dt o:=λ⟨a,d⟩=>d.elim (h a) λ⟨b,d⟩=>í b a d
structure dG(Û:O)(G Κ:Hp):Prop where
 dt:∀o,G Û=B o->Dt o
 off:∀b,b≠Û->∀o,G b=B o->Κ b=B o
section
variable{Û:O}
theorem dG.at_{o:HO}(e:dG Û G Κ)(h:G a=B o)(n:¬Dt o):Κ a=B o:=by
 by_cases b:a=Û
 .subst b;exact absurd (e.dt _ h) n
 .exact e.off a b o h
theorem dG.aE{fs:J<|S×V}(e:dG Û G Κ)(h:G a=B (.aE C ξ fs)):Κ a=B (.aE C ξ fs):=e.at_ h (X_ (λ_ b=>nomatch b) λ_ _ b=>nomatch b)
theorem dG.Y(e:dG Û G Κ)(h:G a=B (.Y N)):Κ a=B (.Y N):=e.at_ h (X_ (λ_ b=>nomatch b) λ_ _ b=>nomatch b)
theorem dG.nm{t:ê}(e:dG Û G Κ)(h:Nm G a t):Nm Κ a t:=e.at_ h (X_ (λ_ b=>nomatch b) λ_ _ b=>nomatch b)
def dG.R5(e:dG Û G Κ)(h:aN K G a N):aN K Κ a N:=by
 rcases h with(h|⟨d,h⟩)|h
 .exact .inl<|.inl<|e.Y h
 .exact .inl (.inr ⟨d,e.at_ h (X_ (λ_ b=>nomatch b) λ_ _ b=>aL)⟩)
 .exact .inr h
def dG.x_(e:dG Û G Κ)(h:gb K G a N):gb K Κ a N:=by
 rcases h with(h|⟨d,h⟩)|h
 .exact .inl (.inl (e.at_ h (X_ (λ_ b=>nomatch b) λ_ _ b=>nomatch b)))
 .exact .inl (.inr ⟨d,e.at_ h (X_ (λ_ b=>nomatch b) λ_ _ b=>aL)⟩)
 .exact .inr h
def dG.nms(e:dG Û G Κ)(h:wF K G a Ø):wF K Κ a Ø:=by obtain⟨b,d,f⟩:=h;exact⟨b,e.R5 d,Paired.cj (λ_ _ i=>e.nm i) f⟩
def dG.txs(e:dG Û G Κ)(h:Gq K G a Ø):Gq K Κ a Ø:=by obtain⟨b,d,f⟩:=h;exact⟨b,e.R5 d,Paired.cj (λ_ _ i=>e.R5 i) f⟩
theorem dG.piece{p:Ť}(e:dG Û G Κ)(h:cI K A G a p):cI K A Κ a p:=by
 cases p with
 |lit m=>obtain⟨b,i,d,f⟩:=h;exact⟨b,i,e.aE d,e.R5 f⟩
 |use j n=>obtain⟨b,p,k,d,f,l⟩:=h;exact⟨b,p,k,e.aE d,e.nm f,e.txs l⟩
 |param j=>obtain⟨b,p,d,f⟩:=h;exact⟨b,p,e.aE d,e.nm f⟩
def dG.line{l:oO}(e:dG Û G Κ)(h:mW K A G a l):mW K A Κ a l:=by
 cases l with
 |code q=>
  obtain⟨b,l,d,n,f,o⟩:=h;exact⟨b,l,e.aE d,n,e.R5 f,Paired.cj (λ_ _ p=>e.piece p) o⟩
 |when r=>obtain⟨b,i,j,k,m,d,f⟩:=h;exact⟨b,i,j,k,m,e.aE d,e.nm f⟩
 |otherwise=>obtain⟨b,i,j,k,m,d,f⟩:=h;exact⟨b,i,j,k,m,e.aE d,e.nm f⟩
 |done=>obtain⟨b,i,j,k,m,d,f⟩:=h;exact⟨b,i,j,k,m,e.aE d,e.nm f⟩
def dG.part(e:dG Û G Κ)(h:qk K A G a c):qk K A Κ a c:=by obtain⟨b,d,f,i,j,k,l,m,n,o⟩:=h;exact⟨b,d,f,i,e.aE j,e.nm k,e.nms l,m,e.R5 n,Paired.cj (λ_ _ p=>e.line p) o⟩
def dG.block{v:V}{b:zF}(e:dG Û G Κ)(h:mK K A G v b):mK K A Κ v b:=by
 cases b with
 |prose i=>exact h
 |chunk j=>obtain⟨a,d,f⟩:=h;exact⟨a,d,e.part f⟩
theorem dG.run{u:ef}(e:dG Û G Κ)(h:o7 K A G a u):o7 K A Κ a u:=by obtain⟨b,sg,d,f,i,j,k,l,⟨m,n,o⟩,p⟩:=h;exact⟨b,sg,d,f,i,e.aE j,e.R5 k,e.x_ l,⟨m,e.x_ n,Paired.cj (λ_ _ q=>e.x_ q) o⟩,e.x_ p⟩
theorem dG.rows(e:dG Û G Κ)(h:fN K A G a Υ):fN K A Κ a Υ:=by obtain⟨d,f,i⟩:=h;exact⟨d,e.R5 f,Paired.cj (λ_ _ b=>let⟨j,k,l⟩:=b;⟨j,e.R5 k,Paired.cj (λ_ _ b=>e.run b) l⟩) i⟩
def dG.made{d:ó}{res:di ł<|J e8}(e:dG Û G Κ)(h:sD K A G a d res):sD K A Κ a d res:=by
 obtain⟨f,i,j,k,l,m,n,b⟩:=h;exists f,i,j,k,l,e.aE m,e.x_ n;cases res with
 |ok r=>obtain⟨a,o,p,q⟩:=b;exact⟨a,o,e.rows p,q⟩
 |error s=>exact b
end
def Ex.bx{Ú d:Hp}(a:Ex Ú Ι G H)(b:Ex G d Κ R)(s:av Ι d):Ex Ú Ι Κ R:=
 ⟨s.trans b.same,a.le.trans b.le,b.sub,λe f h=>by
  rcases b.new e f h with q|q
  .exact a.new e _ q
  .exact .inr<|s.free q⟩
theorem uW.base{h Ο À Ì ÿ:O}{Į:J Đ}(s:uW K A Ι G H h Ο À Ì ÿ ä ĵ Į d on)(a:ο h=g)(b:ο ÿ=g):uW K A ο G H h Ο À Ì ÿ ä ĵ Į d on:=
 ⟨s.oh,s.om,a,b,s.doc,s.FY,s.vv,s.kv,s.km,s.nd,s.sb,s.mv⟩
noncomputable def j_ (H:Hp) (N:J O):Hp:=λb=>if b∈N then g else H b
def mG{N:J O}(h:b∈N):j_ H N b=g:=à h
theorem sS{N:J O}(h:¬b∈N):j_ H N b=H b:=Ó h
def J1{N:J O}:av (j_ H N) H:=λb d a=>by unfold j_ at a;simp_all
def GI{N:J O}(s:av Ι H)(h:∀x∈N,Ι x=g):av Ι<|j_ H N:=λb d a=>by rw[sS (λe=>by rw[h b e]at a;cases a)];exact s b d a
def AM{N:J O}(s:av G H):Ex G (j_ H N) G H:=⟨J1,av.refl _,s,λ_ _ a=>.inl a⟩
noncomputable def iK (d:ó) (on:J Đ) (p:Đ):J M:=ϵ p++[u_<|Js<|fS d on p]
theorem wZ(d:ó)(on:J Đ):∀l:J Đ,(L<|l.flatMap<|iK d on)<=2*fT l
 |[]=>Ò _
 |n::l=>by
  have:=wZ d on l;rw[ĕ,Ω,gq];have a:(L<|iK d on n)=L n+1+1:=by unfold iK;rw[Ω];show((L<|n.map _)+1)+1=_;simp
  rw[a];lia
def Rk:aB ["held","numbers","texts","answer","path"] ["held","numbers","texts"]<|ay<|bU 121:=by decide+kernel
def zv(I:Wk K η A):Kn P w K η Ξ c9 94 "answer_files" ["held","numbers","texts"]<|mU K A El:=by
 have X:=I.kl;refine I.kn 56 Rk λax cr cs ct bn k=>?_;obtain⟨bN,bo,Y,k,r,Z,ab,n,ad,bp,bq,a,a3,a4,bO,bP,bQ,rfl,x,l,br,cu,cv,cw,bR,bS⟩:=k;have bT:bQ=.files:=by
  match bO,bP,bR with
  |[],[],k=>cases k;rfl
 refine⟨_,ah (aH 3 Rk<|aI<|aa (zJ I.md.a_<|W (W (pv 0) D) D) aj)<|ah (L3<|cS ğ D (LZ<|W (W (pv 0) D) D) (bC 4 Rk)<|ah (aT<|kF (pv 3)<|aR (ng I) bn D aG<|aa (pv 4) aj)<|ai<|aT<|ek (pv 3)<|A7 (aF ee (W (bY (nZ I) X.bG.cl bn aG (pv 0)<|aa (pv 4) aj) D) az<|aK _) az az)<|ai<|aA<|pv 3,?_⟩
 subst bT;refine bx λa5 J=>?_;obtain⟨bU,bV,j,bW,bX,bZ,b0,o,b6,b7,b8,q,ay,b9,b_,b',ca⟩:=id br;apply J;have am:=x.sub;have bs:ŧ a .files=.ok (a,(L<|Ŗ a.doc)::(Ŗ a.doc).flatMap (iK a.doc a.on)):=rfl;have a6:(o.map λi=>i.1)=Ŗ a.doc:=by rw[jc];exact q.fk.names
 have a7:(L<|bI o)=(L<|Ŗ a.doc):=by rw[<-a6];unfold bI;simp
 have cb:=l.FY.files;refine⟨D,l.oh.at_,X.bG.fo,D,D,am _ _ q.ob,X.doc.fo,D,j,_,D,av.rd am q.fi,(λaB cx=>by rw[Î];lia:∀aB:M,aB<=100->aB<=sizeLine) 1 bM,λh N=>?_⟩;obtain⟨d,bt⟩:=(⟨_,D⟩:∃d,d=Ŗ a.doc);rw[<-bt]at bs a6 a7 cb;have O:av ax<|T ax h<|.Y [.int ((L<|bI o):M)]:=aq N;have a8:(T ax h<|.Y [.int ((L<|bI o):M)]) h=B (.Y [nV<|L d]):=by rw[af,a7];rfl
 generalize T ax h (.Y [.int ((L<|bI o):M)])=aC at O a8;have g1:=am.trans O;have a9:=g1 _ _ ay;refine⟨j,_,a9,Ϗ,λy=>?_⟩;have nD:=bB a8 a9 bh;have aD:=bB (O _ _ l.oh.at_) a9 (by intro i;cases i);have aE:n≠j:=λe=>by have:=l.om.out;lia
 have a_:k≠h:=ao l.oh.at_ N;have a':n≠h:=ao l.om.at_ N;have s:∀b,b≠j->T Y j (.jZ y<|.dT<|bI o) b=Y b:=λb e=>au e;have an:T Y j (.jZ y<|.dT<|bI o) j=B (.jZ y<|.dT<|bI o):=af;generalize T Y j (.jZ y<|.dT<|bI o)=Gl at s an;have Q:∀b,b≠j->T aC j (.jZ y<|.dT<|bI o) b=aC b:=λb e=>au e;have bu:T aC j (.jZ y<|.dT<|bI o) j=B (.jZ y<|.dT<|bI o):=af;generalize T aC j (.jZ y<|.dT<|bI o)=z at Q bu;have R:dG j Y Gl:=⟨λF f=>by rw[ay]at f;cases f;exact⟨_,.inl D⟩,λb e F f=>s b e▸f⟩;have bv:av Gl z:=λb F f=>by
  by_cases e:b=j
  .simp_all
  .rw[s b e]at f;rw[Q b e];exact g1 _ _ f
 have bw:Ex Gl (j_ z [k,n,h]) Gl z:=AM bv;have ba:j_ z [k,n,h] k=g:=mG bh;have bb:j_ z [k,n,h] n=g:=mG bh;have bc:j_ z [k,n,h] h=g:=mG bh;have bd:∀b,b≠k->b≠n->b≠h->j_ z [k,n,h] b=z b:=λb aJ aM aO=>sS (by simp[aJ,aM,aO]);generalize j_ z [k,n,h]=ae at bw ba bb bc bd;have bz:uW K A ae Gl z k r Z ab n ad bp bq a.doc a.on:=
  ⟨⟨s k aD▸l.oh.out,Q k aD▸O _ _ l.oh.at_⟩,⟨s n aE▸l.om.out,by rw[Q n aE];exact O _ _ l.om.at_⟩,ba,bb,⟨bU,bV,j,bW,bX,bZ,b0,o,b6,b7,b8,R.aE q.ob,R.R5 q.bl,Paired.cj (λ_ _ e=>R.block e) q.bs,.inr ⟨y,an⟩,λi ap=>R.Y<|q.tf i ap,q.fk,s _ b9.symm▸q.ch,λi ap=>R.Y<|q.tc i ap,q.ck,s _ b_.symm▸q.na,q.nk,s _ b'.symm▸q.se,q.sk⟩,l.FY,s _ ca.symm▸l.vv,l.kv,l.km,l.nd,l.sb,λbe aP bf=>let⟨aQ,f,e⟩:=l.mv be aP bf;⟨aQ,f,R.made e⟩⟩
 refine⟨D,bz.oh.at_,X.bG.fo,D,D,bv _ _<|R.aE q.ob,X.doc.fo,D,j,y,D,.inr ⟨_,bu,?_⟩⟩;refine DY (λm aS aU=>∃ar p G H,Ex Gl ae p aU/\uW K A ae p aU k r Z ab n ad G H a.doc a.on/\Lo p aU h (.Y<|(L d::(d.take m).flatMap (iK a.doc a.on)).map nV)/\aS=[B<|.ref k,B<|.ref a3,B<|.ref a4,B<|.ref h,ar])
  ⟨g,Gl,bp,bq,bw,bz,⟨s h nD▸am.free N,Q h nD▸a8⟩,D⟩ ?_ ?_ ?_
 .rintro m aS aU _ ⟨_,_,_,_,f,_⟩;exact f.sub _ _<|f.le _ _ an
 .refineλm cy aP e aS ag bg cc=>bx λa5 J=>?_;obtain⟨ar,p,G,H,C,E,ak,rfl⟩:=cc;refine J λcd=>?_;unfold bI at bg;rw[Ë]at bg;refine bx λa5 J=>?_;obtain⟨i,ap,f⟩:=Ü.mp bg;apply J;cases f;have bA:d[m]?=B i.1:=by rw[<-a6,Ë,ap];rfl
  have bD:d.take (m+1)=d.take m++[i.1]:=by rw[Ĝ,bA];rfl
  have cz:fT (d.take m)+(i.1.length+1)<=2460:=by
   have ce:fT d=fT (d.take<|m+1)+fT (d.drop<|m+1):=by rw[<-mT,Ĩ]
   rw[bD,mT,gq]at ce;lia
  have cA:=wZ a.doc a.on<|d.take m;have cB:=mZ d;have bi:Nm ag e i.1:=cd;refine⟨.inl ⟨D,_,aN.of ak.at_⟩,e,i.1,D,.inr bi.sq,aL,λI aw cC s3 cf=>?_⟩;have bj:=ak.same s3;refine⟨h,I,_,_,D,D,bj.at_,.inl<|aN.of cf,?_,?_⟩
  .rw[Ε,Ε,Ñ,Î];show _+((L<|i.1.map _)+1)<=_;rw[Ε];lia
  have aV:=(C.more s3).write (u:=.Y<|(L d::(d.take m).flatMap (iK a.doc a.on)).map nV++(ϵ i.1).map nV) bj bc;have t:=E.heap C.sub s3;have bk:uW K A ae p (T aw h<|.Y<|(L d::(d.take m).flatMap (iK a.doc a.on)).map nV++(ϵ i.1).map nV) k r Z ab n ad G H a.doc a.on:=
   ⟨t.oh.other a_,t.om.other a',t.zh,t.zm,t.doc,t.FY,t.vv,t.kv,t.km,t.nd,t.sb,t.mv⟩
  have aW:Lo p (T aw h<|.Y<|(L d::(d.take m).flatMap (iK a.doc a.on)).map nV++(ϵ i.1).map nV) h<|.Y<|(L d::(d.take m).flatMap (iK a.doc a.on)).map nV++(ϵ i.1).map nV:=bj.put;have bE:Nm (T aw h<|.Y<|(L d::(d.take m).flatMap (iK a.doc a.on)).map nV++(ϵ i.1).map nV) e i.1:=by show T aw h _ e=_;rw[au<|bB bi ak.at_ (by intro i;cases i)];exact bi.same s3
  generalize T aw h (.Y<|(L d::(d.take m).flatMap (iK a.doc a.on)).map nV++(ϵ i.1).map nV)=bF at aV bk aW bE;refine⟨.inl ⟨D,_,aN.of aW.at_⟩,k,r,_,D,bk.oh.at_,D,p,j_ bF [k,n],p,k,r,Z,ab,n,ad,G,H,a.doc,a.on,e,i.1,D,AM aV.sub,bk.base (mG bh)<|mG bh,.inr bE,bt▸υ bA,λbG aX aQ cg ch bl cD ci cj=>?_⟩;have ck:=aV.bx bl (GI aV.same (by
   intro u r;rcases ç.mp r with e|r
   .rwa [e]
   .rwa [đ.mp r]))
  have aY:=(show Lo p (j_ bF [k,n]) h _ from⟨aW.out,by rw[sS<|by simp[a_.symm,a'.symm]];exact aW.at_⟩).ex bl;refine bx λa5 J=>?_;obtain⟨cE,cF,aB,cG,cH,cl,cI,aZ⟩:=id cj;apply J;refine⟨D,bl.sub _ _ cl,X.made.fo,D,D,?_⟩;have bH:(L<|(L d::(d.take m).flatMap (iK a.doc a.on)).map nV++(ϵ i.1).map nV)+1<=sizeLine:=by rw[Ω,Ε,Ε,Ñ,Î];show _+((L<|i.1.map _)+1)+1<=_;rw[Ε];lia
  have jk:∀u:M,u_ (Js<|fS a.doc a.on i.1)=u->Lo bG (T aX h<|.Y<|((L d::(d.take m).flatMap (iK a.doc a.on)).map nV++(ϵ i.1).map nV)++[nV u]) h (.Y<|(L d::(d.take<|m+1).flatMap (iK a.doc a.on)).map nV):=λu r=>by
   have f:(((L d::(d.take m).flatMap (iK a.doc a.on)).map nV++(ϵ i.1).map nV)++[nV u])=(L d::(d.take<|m+1).flatMap (iK a.doc a.on)).map nV:=by rw[bD,ċ,ĕ,Ů,ö,<-r];unfold iK;simp
   rw[f];exact aY.put
  have v:=ci.base ba bb;have step:∀u:M,u_ (Js<|fS a.doc a.on i.1)=u->∃ar p G H,Ex Gl ae p (T aX h<|.Y<|((L d::(d.take m).flatMap (iK a.doc a.on)).map nV++(ϵ i.1).map nV)++[nV u])/\uW K A ae p (T aX h<|.Y<|((L d::(d.take m).flatMap (iK a.doc a.on)).map nV++(ϵ i.1).map nV)++[nV u]) k r Z ab n ad G H a.doc a.on/\Lo p (T aX h<|.Y<|((L d::(d.take m).flatMap (iK a.doc a.on)).map nV++(ϵ i.1).map nV)++[nV u]) h (.Y<|(L d::(d.take<|m+1).flatMap (iK a.doc a.on)).map nV)/\[B<|V.ref k,B<|.ref a3,B<|.ref a4,B<|.ref h,B<|.ref e]=[B<|.ref k,B<|.ref a3,B<|.ref a4,B<|.ref h,ar]:=λu r=>
   ⟨_,bG,cg,ch,ck.write aY bc,⟨v.oh.other a_,v.om.other a',v.zh,v.zm,v.doc,v.FY,v.vv,v.kv,v.km,v.nd,v.sb,v.mv⟩,jk u r,D⟩
  refine nU (λa0=>?_) λa0=>?_
  .refine⟨h,_,_,D,D,aY.at_,bH,step 1 ?_⟩;cases bm:fS a.doc a.on i.1 with
   |ok cm=>rfl
   |error cn=>
    rw[bm]at aZ;injection a0 with a0
    have:=aZ.2.2;simp_all
  .refine⟨h,_,_,D,D,aY.at_,bH,step 0 ?_⟩;cases bm:fS a.doc a.on i.1 with
   |error cn=>rfl
   |ok cm=>
    rw[bm]at aZ;exact absurd (by rw[aZ.1];rfl) a0
 .rintro aS ag ⟨ar,p,G,H,C,E,ak,rfl⟩;rw[a7,č]at ak;exists C.sub _ _ (C.le _ _ an);have S:∀b,b≠j->T p j (.dT<|bI o) b=p b:=λb e=>au e;have co:T p j (.dT<|bI o) j=B (.dT<|bI o):=af;generalize T p j (.dT<|bI o)=a1 at S co;have al:∀b,b≠j->T ag j (.dT<|bI o) b=ag b:=λb e=>au e;have bJ:T ag j (.dT<|bI o) j=B (.dT<|bI o):=af;generalize T ag j (.dT<|bI o)=bK at al bJ;have a2:av Y a1:=λb F f=>by
   by_cases e:b=j
   .simp_all
   .rw[S b e];exact C.le _ _<|s b e▸f
  have cp:Ex bN bo a1 bK:=by
   refine⟨λb F f=>?_,x.le.trans a2,λb F f=>?_,λb F f=>?_⟩
   .by_cases e:b=j
    .subst e;have:=x.same _ _ f;rw[am _ _ ay]at this
     rwa [bJ]
    .rw[al b e];refine C.same _ _ ?_;rw[bd b (λw=>by rw[w,l.zh]at f;cases f) (λw=>by rw[w,l.zm]at f;cases f) (λw=>by rw[w,x.same.free N]at f;cases f),Q b e];exact O _ _<|x.same _ _ f
   .by_cases e:b=j
    .simp_all
    .rw[S b e]at f;rw[al b e];exact C.sub _ _ f
   .by_cases e:b=j
    .subst e;exact(x.new _ _ ay).imp (λw=>aL) id
    .rw[S b e]at f;rcases C.new b F f with w|w
     .rw[s b e]at w;exact x.new _ _ w
     .refine .inr ?_;by_cases aJ:b=k
      .rw[aJ];exact l.zh
      by_cases aM:b=n
      .rw[aM];exact l.zm
      by_cases aO:b=h
      .rw[aO];exact x.same.free N
      rw[bd b aJ aM aO,Q b e]at w;exact x.same.free<|O.free w
  have bL:=br.same a2;have cq:uW K A bo a1 bK k r Z ab n ad G H a.doc a.on:=
   ⟨⟨S k aD▸E.oh.out,al k aD▸E.oh.at_⟩,⟨S n aE▸E.om.out,by rw[al n aE];exact E.om.at_⟩,l.zh,l.zm,bL.at_,l.FY,a2 _ _ l.vv,l.kv,E.km,E.nd,E.sb,λbe aP bf=>let⟨aQ,f,e⟩:=E.mv be aP bf;⟨aQ,f,(⟨λF f=>by rw[C.le _ _ an]at f;cases f;exact⟨_,.inr ⟨_,D⟩⟩,λb e F f=>S b e▸f⟩:dG j p a1).made e⟩⟩
  refine(bS.told bs cp a2 cq bL ?_ (x.same.free N) (al h nD▸ak.at_));have:=wZ a.doc a.on d;have:=mZ d;rw[Ñ];lia
theorem Rg{t:ê}(h:jK t=g):jQ t=g:=by
 grind[jK,jQ]
theorem K3{t:ê}{l:J ê}(h:jK t=B l):jQ t=if(ų l&&ã (L l<=10)) then B l else g:=by
 unfold jK at h;unfold jQ;split at h
 .rename_i a;cases h;rw[à fX];rfl
 .rename_i a;split at h
  .rename_i b;cases h;rw[Ó fX];dsimp only;rw[b,Ϟ];rfl
  .cases h
theorem HZ:∀(l acc:J Đ),ų l=U->(∀x∈l,x∉acc)->l.foldl Ċ acc=acc++l
 |[],acc,_,_=>bh
 |a::l,acc,b,e=>by
  have b:(!l.contains a&&ų l)=U:=b;rw[ø]at b;have f:a∉l:=by simp_all
  have h:Ċ acc a=acc++[a]:=by unfold Ċ;simp_all
  show l.foldl Ċ (Ċ acc a)=_;rw[h,HZ l (acc++[a]) b.2 (λx d q=>by
   rcases î.mp q with q|q
   .exact e x (Ç _ d) q
   .rw[đ.mp q]at d;exact f d)]
  simp
def Mh:aB ["held","numbers","texts","settings","setting"] ["held","numbers","texts"]<|ay<|bU 111:=by decide+kernel
def vD(t:Wk K η A):Kn P w K η Ξ c9 94 "answer_variant" ["held","numbers","texts"]<|mU K A x9:=by
 have u:=t.md;refine t.kn 46 Mh λbO bP Q bQ O h=>?_;refine bx λbd am=>?_;obtain⟨be,aO,aP,h,E,an,bf,bg,bR,bT,bU,e,bi,aS,bj,aU,bk,rfl,F,G,aX,bV,bl,bm,bn,R⟩:=h;obtain⟨j,rfl,rfl⟩:∃j,aU=[j]/\bk=.variant j:=by
  match bj,aU,bn with
  |[],[j],h=>cases h;exact⟨j,D,D⟩
 obtain⟨aZ,bo,bp⟩:=bl.one;apply am;have bW:L j<=24000:=bm j bh;have S:∀n:M,n<=100->n<=sizeLine:=λn bX=>by rw[Î];lia
 have f:ŧ e (.variant j)=match jQ j with
  |some a=>.ok ({e with on:=a},[a.countP λn=>(Ŵ e.doc).contains n])
  |none=>.error 1:=rfl
 refine⟨_,ah (aH 3 Mh<|aR (wm t) O D aG<|aa (aY aM (pv 2) az λ_ _=>D) aj)<|ah (aJ (PW.pt<|lz (fy<|oz<|pv 3)<|lz (aF kg (aQ u.a_<|pv 3) (aW u.zk)<|aK _)<|iu<|aF iP (Eo D O.units u.a_ u.UL<|pv 3) (aQ u.a_<|pv 3)<|aK _) (ai<|aA<|aI<|aa (aW u.Bt) aj) aD)<|ah (aT<|bY (yZ t) t.kl.bG.cl O aG (pv 0)<|aa (pv 3) aj)<|ai<|aA<|aI<|aa (aQ u.a_<|gV (tt:=tB<|Uc (aV 4)<|i9 K (i9 K (aV 0) "document") "settings") (Â:=aV 4) D Mh.nd (bu<|pv 3) (bL (own:=[("setting",4)])<|by kernel_rfl) (λ_ _ _ _ _=>bC 4 Mh) (λ_ _ _ _ _=>vt<|fy (Fw (fP O) (pv 4)<|W (W (pv 0) D) D)<|by with_unfolding_all rfl) λ_ _ _ _ _=>pv 4) aj,?_⟩
 refine⟨aS,_,_,.ref aZ,D,D,av.seq F.sub bo,D,aP,aZ,j,D,F.sub,bp,aL,λbq ο s1=>?_,λa br p ο q v X=>?_⟩
 .rw[Rg bq]at f;exact(bS<|bS ⟨S 1 bM,λr x=>R.no (n:=1) f (F.more s1) (av.refl _) (G.heap F.sub s1) aX x⟩)
 rw[K3 br]at f;have H:=F.trans v;have Y:=G.ex v;have ap:=aX.same v.le;obtain⟨a0,a1,a2⟩:=(X.same H.sub).len;refine(dJ ⟨q,_,D,.inl a1,?_⟩);show if ã ((10:Z)<(((L<|a0.map V.ref):M):Z))=U then _ else _
 rw[Ε,a2];refine nU (λI=>bS ?_) λI=>?_
 .rw[Ņ<|show¬L a<=10 by lia,ϭ]at f;exact⟨S 1 bM,λr x=>R.no (n:=1) f H v.le Y ap x⟩
 have I:L a<=10:=aL;rw[ő I,Gm]at f;refine⟨q,a,D,X.same H.sub,aL,λab bs=>⟨ab,_,D,af,by have:=Lc a;lia,?_⟩⟩;have ad:=aq (o:=Pr ab<|cnt a) bs;generalize T ο ab (Pr ab<|cnt a)=bZ at ad;have m:=H.more ad;have J:=Y.heap H.sub ad;refine⟨q,_,D,.inl<|av.seq ad a1,?_⟩;show if ã (((cnt a:M):Z)<(((L<|a0.map V.ref):M):Z))=U then _ else _
 rw[Ε,a2,Q9];refine gC (λy=>?_) λy=>?_
 .rw[(by simpa using y:ų a=false)]at f;exact⟨S 1 bM,λr x=>R.no (n:=1) f m v.le J ap x⟩
 have y:ų a=U:=by simpa using y
 rw[y]at f;have f:ŧ e (.variant j)=.ok ({e with on:=a},[a.countP λn=>(Ŵ e.doc).contains n]):=f;refine⟨h,E,_,D,J.oh.at_,D,h,E,an,bf,bg,q,a,D,J.oh.at_,X.same m.sub,aL,λae k ar s aw ax bt a3 bv bw bz a4=>?_⟩;have b0:h≠ar:=ao J.oh.at_ ax;rw[HZ a [] y (λ_ _ l=>nomatch l),mu]at a3;have a5:p k=g:=m.sub.free aw;have ag:av p<|T p k<|.dT s:=aq a5;have z:Ex be aO (T p k<|.dT s) ae:=by
  refine⟨λC o d=>a4 C o (λl=>by rw[l,G.zh]at d;cases d)<|m.same _ _ d,m.le.trans ag,λC o d=>?_,λC o d=>?_⟩
  .by_cases l:C=k
   .subst l;rw[af]at d;rw[bw];exact d
   .rw[au l]at d;exact a4 C o (λl=>by rw[l,Y.oh.out]at d;cases d)<|m.sub _ _ d
  .by_cases l:C=k
   .subst l;exact .inr<|m.same.free aw
   .rw[au l]at d;exact m.new _ _ d
 have ak:=(ap.mv a5).same ag;have ay:uW K A aO (T p k<|.dT s) ae h E an k ar s [] [] e.doc a:=
  ⟨⟨au (ao J.oh.at_ aw)▸Y.oh.out,bv⟩,⟨au bt.symm▸m.sub.free ax,bz⟩,G.zh,m.same.free ax,ak.at_,G.FY,af,a3,dg.nil,fU,λal E=>(nomatch E),λal a6 h=>(nomatch h)⟩
 have a7:wF K (T p k<|.dT s) q a:=X.same ag;have a8:av aP<|T p k<|.dT s:=v.le.trans ag;generalize T p k (.dT s)=bA at z ak ay a7 a8;refine bx λbd am=>?_;obtain⟨b6,b1,b2⟩:=a7.same z.sub;obtain⟨aB,bB,a9,bD⟩:=Paired.zip b2;have a_:aN K ae q<|aB.map λb=>V.ref b.1:=by rw[bB,Ħ]at b1;exact b1
 obtain⟨b7,b8,b9,b_,b',bE,ca,cb,cc,cd,ce,aC,_⟩:=id ak;apply am;refine⟨q,D,⟨_,a_⟩,?_⟩;refine Ks (K:=K) (i:=4) (Q:=λa6 N=>Y9 K [a6] N λal a'=>[al].length<=sizeLine/\∀r,a' r=g->Q (.ref r) (T a' r<|.Y [al])) (tt:=tB<|Uc (aV 4)<|i9 K (i9 K (aV 0) "document") "settings") (Â:=aV 4) (σ:=[B<|.ref h,B<|.ref bi,B<|.ref aS,B<|.ref q,g]) (ο:=ae) aB (λb=>V.ref b.1) (λb=>(Ŵ e.doc).contains b.2) (λb=>V.ref b.1) a_ (Ć (by rw[a9,Ε]at I;exact I) fX) (λb ba N bF s4 aE=>?_) (λb ba cf N bF s4 aE=>?_) λr N x s4 bG=>?_
 .have g4:=z.sub.trans s4;refine⟨D,s4 _ _ ay.oh.at_,t.kl.bG.fo,D,D,g4 _ _ aC.ob,t.kl.doc.fo,D,bE,_,D,jx.t (g4 _ _ aC.se)<|s4 _ _<|bD b ba,?_⟩;rw[aC.sk.isSome b.2];exact aE
 .exact(aE N<|av.refl _)
 .refine⟨r,_,D,.inl<|aN.of bG,S 1 bM,λbH bb=>?_⟩;have bc:=aq (o:=.Y [nV<|a.countP λn=>(Ŵ e.doc).contains n]) bb;have bI:(L<|(aB.filter λb=>(Ŵ e.doc).contains b.2).map λb=>V.ref b.1)=a.countP λn=>(Ŵ e.doc).contains n:=by rw[Ε,a9,List.countP_map,List.countP_eq_length_filter];rfl
  obtain⟨bJ,bK,bN⟩:=F1 f;rw[bI];exact R {e with on:=a} bJ bA _ an k ar s [] [] bH ((z.more s4).more bc) a8 (ay.heap z.sub<|s4.trans bc) ak ((z.more s4).same.free bb) (bK▸af) (by rw[bN];show 1<=100000;decide)
def LR:aB ["held","numbers","texts","text","blocks","fault"] ["held","numbers","texts"]<|ay<|bU 110:=by decide+kernel
def AH(j:Wk K η A):Kn P w K η Ξ c9 94 "answer_read" ["held","numbers","texts"]<|mU K A Hw:=by
 have v:=j.md;obtain⟨am,an,_,_,H⟩:=j.tf;refine j.kn 45 LR<|@λI bw bz bA bB bC bD bE bF J f=>?_;refine bx λbG a2=>?_;obtain⟨a3,ap,a4,f,r,a5,N,a6,ar,bH,bI,s,bJ,a7,a8,aw,a9,rfl,k,p,O,bK,a_,a',ba,Q⟩:=f;obtain⟨e,rfl,rfl⟩:∃e,aw=[e]/\a9=.read e:=by
  match a8,aw,ba with
  |[],[e],f=>cases f;exact⟨e,D,D⟩
 obtain⟨R,bb,ax⟩:=a_.one;apply a2;have bL:=a' e bh;have S:∀V:M,V<=100->V<=sizeLine:=λV bN=>by rw[Î];lia
 have l:ŧ s (.read e)=if 20000<L e then .error 6 else match oQ e with
  |.error I=>e9 s [I.line,I.reason]
  |.ok m=>.ok ({s with doc:=m},[0,L m]):=rfl
 refine⟨_,ah (aH 3 LR<|aY aM (pv 2) az λ_ _=>D)<|ah (aJ (aF kg (aQ v.a_<|pv 3) (aW v.Ao)<|aK _) (ai<|aA<|aI<|aa (aW v.KO) aj) aD)<|ah (QF (i:=5) (tb:=λay=>Hj (xZ (vL K A A.tf) [] ay<|bg (aV 3) cB)<|c8 4) (th:=tF<|J7<|bg (IX K η (aV 5) "line")<|bg (IX K η (aV 5) "reason") cB) H D D D LR.nd D D (λbO bQ ay bc=>ai<|aH 4 LR<|aR (Bd j) J D bc<|aa (pv 3) aj) λh=>ai<|aA<|aI<|aa (zX (pv 5) D)<|aa (zX (pv 5) D) aj)<|ah (aT<|bY (xA j) j.kl.bG.cl J aG (pv 0)<|aa (HF (ye j) J D<|aa (pv 4) aj) aj)<|ai<|aA<|aI<|aa az<|aa (aQ v.a_<|pv 4) aj,?_⟩
 exists a7,_,_,.ref R,D,D,av.seq k.sub bb,D,R,_,D,.inl<|ax.same k.sub;rw[bP];refine nU (λbd=>?_) λbd=>?_
 .rw[à aL]at l;exact⟨S 1 bM,λbR be=>Q.no l k (av.refl _) p O be⟩
 rw[Ó aL]at l;refine⟨a4,R,e,D,k.sub,ax,aL,λm W aB n aC bf x aE aN=>?_,λd bi n b a s1 bj X y=>?_⟩
 .rw[W]at l;have z:=k.trans x;have Y:=p.ex x;have bS:=O.same x.le;refine⟨f,r,_,D,Y.oh.at_,D,λC bk Z X y=>?_⟩;refine⟨aB,n,aB,C,bk,aC,bf,m,D,Ex.heap z.sub<|cN Z X y,Z,⟨z.sub.free Z,af⟩,aE,aN,qH W,λab bT ad bl bm=>⟨D,?_⟩⟩;have t:=Y.ex ad;have aO:=bm.x<|z.sub _ _ Y.vv;have q:=z.trans ad;refine⟨f,r,a5,N,a6,C,D,t.oh.at_,λaP aS u bn bo aU=>?_⟩;have bU:=ao t.oh.at_ u;have E:Ex a3 ap ab aP:=by
   refine⟨λae o h=>?_,q.le,λae o h=>?_,q.new⟩
   .have ag:=q.same _ _ h
    rwa [aU ae (λak=>by rw[ak,p.zh]at h;cases h)<|ao ag u]
   .have ag:=q.sub _ _ h
    rwa [aU ae (λak=>by rw[ak,t.oh.out]at h;cases h)<|ao ag u]
  have bp:uW K A ap ab aP f r C N aS ar [] [] m s.on:=
   ⟨⟨t.oh.out,bn⟩,⟨q.sub.free u,bo⟩,p.zh,q.same.free u,aO.at_,qH W,t.vv,p.kv,dg.nil,fU,λbq r=>(nomatch r),λbq bV f=>(nomatch f)⟩
  refine⟨aC,_,D,.inl<|av.seq E.sub<|av.seq bl aE,S 2 bM,λaX F=>?_⟩;have aZ:=aq (o:=.Y [nV 0,nV<|L m]) F;obtain⟨br,bs,bt⟩:=F1 l;rw[aN.length];exact Q {s with doc:=m} br ab _ C N aS ar [] [] aX (E.more aZ) (x.le.trans ad.le) (bp.heap E.sub aZ) aO (E.same.free F) (bs▸af) (by rw[bt];show 2<=100000;decide)
 .rw[bi]at l;have a0:av n<|T (T n b<|XL A.tf b a) a<|XD a [("line",.int (d.line:M)),("reason",.int (d.reason:M))]:=(aq bj).trans<|aq<|au y▸X;have G:T (T n b<|XL A.tf b a) a (XD a [("line",.int (d.line:M)),("reason",.int (d.reason:M))]) b=B (XL A.tf b a):=au y.symm▸af;have al:T (T n b<|XL A.tf b a) a (XD a [("line",.int (d.line:M)),("reason",.int (d.reason:M))]) a=B (XD a [("line",.int (d.line:M)),("reason",.int (d.reason:M))]):=af;generalize T (T n b<|XL A.tf b a) a (XD a [("line",.int (d.line:M)),("reason",.int (d.reason:M))])=bW at a0 G al;have s2:=s1.trans a0;refine⟨b,a,D,D,G,λbu bv=>?_⟩;have a1:(5:M)<L bu:=by rw[bv];show 5<6;decide
  refine aV.of (zV a1) ⟨b,A.tf,a,am,an,_,_,_,nV d.line,D,G,al,H,bM,D,aV.of (zV a1) ⟨b,A.tf,a,am,an,_,_,_,nV d.reason,D,G,al,H,bM,D,S 2 bM,λaX F=>?_⟩⟩;exact Q.lit l (k.more s2) (av.refl _) (p.heap k.sub s2) O bh F
def DcK(P:Ŝ)(w:ś)(K:Ζ)(a:O)(Β:J<|bW×V):Prop:=∀h:ό,K.In h->∃vs,KV Β vs/\h.DictOf (aZ P w) a vs
inductive YI(Β:J<|bW×V)(Q:VK)(y:V)(ο:Hp):Prop
 |mk(k v:_)(_:y=kV k)(_:cW Β k=B v)(_:Q v ο)
def ZY(Β:J<|bW×V)(ty:TE):TE:=λσ H Q=>ty σ H λy ο=>YI Β Q y ο
def Q4{o i:Ž}{pos:kX}{ty:TE}{Β:J<|bW×V}(k:DcK X.prog X.w K a Β)(l:PE X o<|tC<|.ref a)(Á:PE X i ty)(m:Wu i):PE X (.Subscript o i pos)<|ZY Β ty:=by intro e n b p q r s;refine MH Cd.lookup m<|cH (l e n b p (λf d=>f=.ref a/\ZY Β ty b d q) r ⟨D,s⟩) λt s1 ⟨f,d,u,v,w,x⟩=>cH (Á e s1 b d _ u x) λN s2 y=>?_;obtain⟨O,z,h,A,C,E,F,G,H⟩:=y;subst w;subst F;obtain rfl:t=æ a:=v;obtain⟨P,I,j⟩:=k _ h.lV;obtain⟨Q,L,M⟩:=l_.some_of<|G▸I.val C;exact⟨j.typeIs,Yx (yE A) j.mapOf L ⟨E,z,h.tok _,M,H⟩⟩
def DJ{p:Z}{n k:M}(h:Ϻ p=B (n,k)):∃i r,cR[i]?=B r/\p=((i:M):Z)/\r.n=n/\r.k=k:=by
 unfold Ϻ at h;by_cases a:p=0
 .rw[à a]at h;cases h;exact⟨0,_,D,a,D,D⟩
 rw[Ó a]at h;clear a;by_cases a:p=1
 .rw[à a]at h;cases h;exact⟨1,_,D,a,D,D⟩
 rw[Ó a]at h;clear a;by_cases a:p=2
 .rw[à a]at h;cases h;exact⟨2,_,D,a,D,D⟩
 rw[Ó a]at h;clear a;by_cases a:p=3
 .rw[à a]at h;cases h;exact⟨3,_,D,a,D,D⟩
 rw[Ó a]at h;clear a;by_cases a:p=4
 .rw[à a]at h;cases h;exact⟨4,_,D,a,D,D⟩
 rw[Ó a]at h;clear a;by_cases a:p=5
 .rw[à a]at h;cases h;exact⟨5,_,D,a,D,D⟩
 rw[Ó a]at h;clear a;by_cases a:p=6
 .rw[à a]at h;cases h;exact⟨6,_,D,a,D,D⟩
 rw[Ó a]at h;clear a;by_cases a:p=7
 .rw[à a]at h;cases h;exact⟨7,_,D,a,D,D⟩
 rw[Ó a]at h;clear a;by_cases a:p=8
 .rw[à a]at h;cases h;exact⟨8,_,D,a,D,D⟩
 rw[Ó a]at h;clear a;by_cases a:p=9
 .rw[à a]at h;cases h;exact⟨9,_,D,a,D,D⟩
 rw[Ó a]at h;clear a;by_cases a:p=10
 .rw[à a]at h;cases h;exact⟨10,_,D,a,D,D⟩
 rw[Ó a]at h;clear a;by_cases a:p=11
 .rw[à a]at h;cases h;exact⟨11,_,D,a,D,D⟩
 rw[Ó a]at h;clear a;by_cases a:p=12
 .rw[à a]at h;cases h;exact⟨12,_,D,a,D,D⟩
 rw[Ó a]at h;clear a;cases h
def fm{x:J Z}(h:(x.all (λa=>Ϩ a 8)&&ã (L x<=24000))=U):∃t,x=tI t/\L t<=24000/\ţ x=B t:=by
 rw[ø]at h;have d:∀a∈x,0<=a/\a<256:=λa b=>by have:=Ě.mp h.1 a b;unfold Ϩ at this;simp_all
 refine⟨x.map λe=>zD e.toNat,?_,by rw[Ε];exact iy h.2,?_⟩
 .unfold tI;rw[Ħ]
  conv=>lhs;rw[<-List.map_id x]
  refine ϰ λa b=>?_;have:=d a b;show a=(((zD a.toNat).toNat:M):Z);rw[UInt8.toNat_ofNat',Nat.mod_eq_of_lt fX];lia
 .unfold ţ;rw[à];refine Ě.mpr λa b=>?_
  grind
def Nk{i:M}{r:Vo}(b:cR[i]?=B r){p:J Z}{N:J<|J Z}(h:L p=r.n)(hk:L N=r.k)(a:oR ((((i:M):Z)::p)::N)=U):
  ∃Ø c,N=Ø.map tI/\(∀t∈Ø,L t<=24000)/\r.cl p Ø=B c/\Af ((((i:M):Z)::p)::N)=B c:=by
 have j:∀t:ê,L t<=24000->∀o∈[t],L o<=24000:=λt l o v=>by rwa [đ.mp v]
 match i,(Ð.mp b).1,b with
 |0,_,b=>
  cases b;obtain rfl:=j3 h;obtain⟨d,rfl⟩:=p_ hk;obtain⟨t,rfl,e,f⟩:=fm a;exact⟨[t],_,D,j t e,D,by show(ţ<|tI t).map _=_;rw[f];rfl⟩
 |1,_,b=>
  cases b;obtain rfl:=j3 h;obtain⟨d,rfl⟩:=p_ hk;obtain⟨t,rfl,e,f⟩:=fm a;exact⟨[t],_,D,j t e,D,by show(ţ<|tI t).map _=_;rw[f];rfl⟩
 |2,_,b=>
  cases b;obtain rfl:=j3 h;obtain⟨d,rfl⟩:=p_ hk;obtain⟨t,rfl,e,f⟩:=fm a;exact⟨[t],_,D,j t e,D,by show(ţ<|tI t).map _=_;rw[f];rfl⟩
 |3,_,b=>
  cases b;obtain rfl:=j3 h;obtain⟨d,rfl⟩:=p_ hk;obtain⟨t,rfl,e,f⟩:=fm a;exact⟨[t],_,D,j t e,D,by show(ţ<|tI t).map _=_;rw[f];rfl⟩
 |4,_,b=>
  cases b;obtain⟨m,n,rfl⟩:=IA h;obtain⟨d,rfl⟩:=p_ hk;have a:(ŗ m&&(ŗ n&&((d.all λk=>Ϩ k 8)&&ã (L d<=24000))))=U:=a;obtain⟨t,rfl,e,f⟩:=fm<|(Ő.mp<|(Ő.mp a).2).2;exact⟨[t],_,D,j t e,D,by show(ţ<|tI t).map _=_;rw[f];rfl⟩
 |5,_,b=>
  cases b;obtain⟨m,n,c,q,rfl⟩:=TX h;obtain⟨d,rfl⟩:=p_ hk;have a:(ŗ m&&(ŗ n&&(ŗ c&&(ŗ q&&((d.all λk=>Ϩ k 8)&&ã (L d<=24000))))))=U:=a;have a:=(Ő.mp a).2;have a:=(Ő.mp a).2;obtain⟨t,rfl,e,f⟩:=fm<|(Ő.mp<|(Ő.mp a).2).2;exact⟨[t],_,D,j t e,D,by show(ţ<|tI t).map _=_;rw[f];rfl⟩
 |6,_,b=>
  cases b;obtain⟨m,n,c,q,w,rfl⟩:=WG h;obtain⟨d,rfl⟩:=p_ hk;have a:(ŗ m&&(ŗ n&&(ŗ c&&(ŗ q&&(ŗ w&&((d.all λk=>Ϩ k 8)&&ã (L d<=24000)))))))=U:=a;have a:=(Ő.mp a).2;have a:=(Ő.mp a).2;have a:=(Ő.mp a).2;obtain⟨t,rfl,e,f⟩:=fm<|(Ő.mp<|(Ő.mp a).2).2;exact⟨[t],_,D,j t e,D,by show(ţ<|tI t).map _=_;rw[f];rfl⟩
 |7,_,b=>
  cases b;obtain⟨m,n,rfl⟩:=IA h;obtain rfl:=j3 hk;exact⟨[],_,D,λt l=>(nomatch l),D,D⟩
 |8,_,b=>
  cases b;obtain rfl:=j3 h;obtain⟨d,rfl⟩:=p_ hk;obtain⟨t,rfl,e,f⟩:=fm a;exact⟨[t],_,D,j t e,D,by show(ţ<|tI t).map _=_;rw[f];rfl⟩
 |9,_,b=>
  cases b;obtain rfl:=j3 h;obtain rfl:=j3 hk;exact⟨[],_,D,λt l=>(nomatch l),D,D⟩
 |10,_,b=>
  cases b;obtain rfl:=j3 h;obtain⟨d,u,rfl⟩:=IA hk;have a:(((d.all λk=>Ϩ k 8)&&ã (L d<=24000))&&((u.all λk=>Ϩ k 8)&&ã (L u<=24000)))=U:=a;rw[ø]at a;obtain⟨t,rfl,e,f⟩:=fm a.1;obtain⟨o,rfl,x,A⟩:=fm a.2;refine⟨[t,o],_,D,λy s=>?_,D,by show(ţ<|tI t).bind _=_;simp_all⟩;rcases ç.mp s with z|s
  .rwa [z]
  .exact j o x y s
 |11,_,b=>
  cases b;obtain rfl:=j3 h;obtain rfl:=j3 hk;exact⟨[],_,D,λt l=>(nomatch l),D,D⟩
 |12,_,b=>
  cases b;obtain rfl:=j3 h;obtain rfl:=j3 hk;exact⟨[],_,D,λt l=>(nomatch l),D,D⟩
theorem N5{i:M}{r:Vo}(a:cR[i]?=B r){e:J Z}{N:J<|J Z}(b:L e=r.n)(hk:L N=r.k):OO ((((i:M):Z)::e)::N)=(((i:M):Z)::e)::N:=by
 match i,(Ð.mp a).1,a with
 |0,_,a=>cases a;obtain rfl:=j3 b;obtain⟨d,rfl⟩:=p_ hk;rfl
 |1,_,a=>cases a;obtain rfl:=j3 b;obtain⟨d,rfl⟩:=p_ hk;rfl
 |2,_,a=>cases a;obtain rfl:=j3 b;obtain⟨d,rfl⟩:=p_ hk;rfl
 |3,_,a=>cases a;obtain rfl:=j3 b;obtain⟨d,rfl⟩:=p_ hk;rfl
 |4,_,a=>cases a;obtain⟨f,h,rfl⟩:=IA b;obtain⟨d,rfl⟩:=p_ hk;rfl
 |5,_,a=>cases a;obtain⟨f,h,j,k,rfl⟩:=TX b;obtain⟨d,rfl⟩:=p_ hk;rfl
 |6,_,a=>cases a;obtain⟨f,h,j,k,l,rfl⟩:=WG b;obtain⟨d,rfl⟩:=p_ hk;rfl
 |7,_,a=>cases a;obtain⟨f,h,rfl⟩:=IA b;obtain rfl:=j3 hk;rfl
 |8,_,a=>cases a;obtain rfl:=j3 b;obtain⟨d,rfl⟩:=p_ hk;rfl
 |9,_,a=>cases a;obtain rfl:=j3 b;obtain rfl:=j3 hk;rfl
 |10,_,a=>cases a;obtain rfl:=j3 b;obtain⟨d,m,rfl⟩:=IA hk;rfl
 |11,_,a=>cases a;obtain rfl:=j3 b;obtain rfl:=j3 hk;rfl
 |12,_,a=>cases a;obtain rfl:=j3 b;obtain rfl:=j3 hk;rfl
theorem BV:∀{k:M} {r:J Z} {N:J<|J Z} {t:J Z},jw k r=B (N,t)->L N=k
 |0,r,N,t,a=>by cases a;rfl
 |k+1,r,N,t,a=>by
  unfold jw at a;split at a
  .cases a
  .split at a
   .cases a
   .rename_i b;cases a;rw[Ñ,BV b]
def KA{k:M}{r:J Z}{N:J<|J Z}{t:J Z}(h:jw (k+1) r=B (N,t)):∃(m:M) (a:J Z) (d:J<|J Z),r=(m:Z)::a/\m<=L a/\N=a.take m::d/\jw k (a.drop m)=B (d,t):=by
 unfold jw at h;split at h
 .cases h
 .rename_i j l b;split at h
  .cases h
  .rename_i d n f;cases h;unfold PyFlat.row at b;split at b
   .cases b
   .rename_i i a;split at b
    .rename_i e;cases b;exact⟨i.toNat,a,d,by rw[dI e.1],e.2,D,f⟩
    .cases b
theorem DE{f:M}{a:J<|J<|J Z}(h:gg Ϻ f []=B a):a=[]:=by
 grind[gg]
def A1{f:M}{p:Z}{r:J Z}{a:J<|J<|J Z}(h:gg Ϻ f (p::r)=B a):
  ∃n k N t d b,Ϻ p=B (n,k)/\n<=L r/\jw k (r.drop n)=B (N,t)/\gg Ϻ d t=B b/\a=((p::r.take n)::N)::b:=by
 unfold gg at h
 grind[PyFlat.call]
theorem xT:∀{a:J<|J<|J Z} {f:M} {l:J Z},gg Ϻ f l=B a->a.map OO=a
 |[],_,_,_=>D
 |c::a,f,l,d=>by
  cases l with
  |nil=>cases DE d
  |cons m n=>
   obtain⟨o,p,q,r,s,t,e,u,h,i,b⟩:=A1 d;injection b with b j
   subst b j;obtain⟨v,w,k,rfl,rfl,rfl⟩:=DJ e;rw[þ,xT i,N5 k fX<|BV h]
noncomputable def MC (s:Ϲ) (a:J<|J<|J Z):J Z:=Vm<|So fF s a
theorem J'{s:Ϲ}{c:J<|J Z}{a:J<|J<|J Z}{k:ş}(h:Af c=B k):MC s (c::a)=(((L<|lq s k):M):Z)::lq s k++MC (f5 s k).1 a:=by
 have b:fF s c=((f5 s k).1,lq s k):=by unfold fF;rw[h];rfl
 show Vm ((fF s c).2::So fF (fF s c).1 a)=_;rw[b];rfl
def Hx{l:J Z}(h:pQ l=U):∃a,gg Ϻ (L l) l=B a/\L a<=40/\(∀c∈a,oR c=U)/\j9 l=MC UI a:=by
 unfold pQ OP at h;unfold j9 OP;cases b:gg Ϻ (L l) l with
 |none=>rw[b]at h;cases h
 |some a=>
  rw[b]at h;dsimp only at h⊢;rw[xT b]at h⊢;rw[ø]at h;have d:=h.2;unfold YH at d;rw[ø]at d;exact⟨a,D,iy h.1,λc e=>Ě.mp d.1 c e,D⟩
theorem Kn.mono{CX:E5}{k:M}{x:S}(a:Kn P w K η Ξ CX j x θ Ã)(h:j<=k):Kn P w K η Ξ CX k x θ Ã:=
 let⟨b,d,e,f⟩:=a.ex
 ⟨b,d,e.mono h,f⟩
structure CsK(P:Ŝ)(w:ś)(K:Ζ)(η:S->É z)(a:O)(tf:M->O×O):Prop where
 gv:Gv η "CALLS"<|.ref a
 dk:DcK P w K a<|(ſ 13).map λi=>(.inl ((i:M):Z),.ref (tf i).1)
 tp:∀i r,cR[i]?=B r->∀H,gb K H (tf i).1 [nV r.n,nV r.k,.ref (tf i).2]
 fn:∀i r,cR[i]?=B r->η r.x=B (.ref (tf i).2)
def ND(a:M->O×O){i:M}(h:i<13):cW ((ſ 13).map λi=>((.inl ((i:M):Z),.ref (a i).1):bW×V)) (.inl ((i:M):Z))=B (.ref (a i).1):=by
 match i,h with
 |0,_=>rfl|1,_=>rfl|2,_=>rfl|3,_=>rfl|4,_=>rfl|5,_=>rfl|6,_=>rfl|7,_=>rfl|8,_=>rfl|9,_=>rfl|10,_=>rfl|11,_=>rfl|12,_=>rfl
inductive Ew(K:Ζ)(vs:J V)(H:Hp)(Q:VK)(b:XK):Prop
 |mk(a:_)(l:J Z)(_:vs=[.ref a])(_:aN K H a<|l.map V.int)(_:L l<=30000)(_:pQ l=U)(_:∀D R,H D=g->av H R->R D=B (.Y<|(j9 l).map V.int)->Q (.ref D) R)
def Tb(K:Ζ)(A:Ad)(a:M->O×O)(f:O)(Ã:Sp):Prop:=∃i r,cR[i]?=B r/\f=(a i).2/\Ã=mU K A r.cl
structure LpA(K:Ζ)(A:Ad)(l:J Z)(d Η:Hp)(a h Ο D:O)(R:Hp)(j:M)(s:Ϲ)(b:J<|J<|J Z)(e:M)(done:J Z)(Κ:Hp)(À Ì ÿ:O)(ä ĵ:J<|J bW×V)(Į:J Đ):Prop where
 le:j<=L l
 cl:gg Ϻ e (l.drop j)=B b
 dn:L done+100001*L b<=4000040
 ak:∀c∈b,oR c=U
 an:done++MC s b=j9 l
 ex:Ex d Η Κ R
 S:uW K A Η Κ R h Ο À Ì ÿ ä ĵ Į s.doc s.on
 X:qd K A Κ À Ì s.doc
 lo:Lo Κ R D<|.Y<|done.map V.int
def pA:aB ["calls","held","given","at","call","numbers","texts","turn","behind","answer"] ["calls"]<|ay<|bU 126:=by decide+kernel
def Ky{cj:O}{r:M->O×O}(j:Wk K η A)(k:Df K η "answers" (bU 126) ["calls"] f Ä)(C:CsK P w K η cj r):lZ P w K η Ξ c9 95 f Ä ["calls"]<|Ew K:=by
 have bf:=j.kl;have ck:∀a∈cR,Kn P w K η Ξ c9 94 a.x ["held","numbers","texts"]<|mU K A a.cl:=by
  intro a N;unfold cR at N
  repeat(rcases ç.mp N with n|N;case inl=>subst n;first|exact(AH j).mono bM|exact(vD j).mono bM|exact(AE j).mono bM|exact(yU j).mono bM|exact(BF j).mono bM|exact(yW j).mono bM|exact(uL j).mono bM|exact(AI j).mono bM|exact(vq j).mono bM|exact(AZ j).mono bM|exact(y9 j).mono bM|exact(zv j).mono bM|exact(AN j).mono bM)
  cases N
 refine k.fn.ok pA (λcl an cm cn d=>by obtain⟨_,_,n,_⟩:=d;rw[n];rfl) λco cp du cq an cl cm cn N d=>?_;refine bx λQ p=>?_;obtain⟨s,b,rfl,cr,dv,cs,ct⟩:=d;have cu:∀f2 bg,Tb K A r f2 bg->∃bf Ä bv,lZ P w K η Ξ c9 bf f2 Ä bv bg/\c6 bf (cp.deeper<|gK "answers" (ay<|bU 126) cq.heap.objs.size f co)/\ũ K (.ref f2)=U/\jl K Ä bv []:=by rintro f2 bg ⟨i,a,bw,rfl,rfl⟩;obtain⟨f3,cv,cw,ab,cx,cz⟩:=(ck a<|υ bw).ex;rw[C.fn i a bw]at ab;injection ab with ab;injection ab with ab;subst ab;exact⟨94,cv,_,cw,N,cx,cz⟩
 have bi:∀a3:M,a3<=5000000->a3<=sizeLine:=λa3 cA=>by rw[Î];lia
 obtain⟨cC,cD,dw,cE,cF⟩:=Hx cs;apply p;refine⟨_,ah (aH 1 pA<|Qc (SO j) N D)<|ah (aH 2 pA<|aI aj)<|ah (aH 3 pA az)<|ah (wj ğ (aF iP (pv 3) (aQ j.md.a_<|pv 0)<|aK _)<|ah (aH 4 pA<|Q4 C.dk (aW C.gv) (aY aM (pv 0) (pv 3) λ_ _=>D) λ_ _=>D)<|ah (qq (i:=3) pA.nd D (nv D) az sj)<|ah (aH 5 pA<|bF bZ (pv 0) (bD<|pv 3)<|bD<|cQ iw (pv 3)<|aY qf (pv 4) az λ_ _=>D)<|ah (qq (i:=3) pA.nd D (nv D) (aY qf (pv 4) az λ_ _=>D) sj)<|ah (aH 6 pA<|aI aj)<|ah (cS ğ D (ED D j.md.MM<|aa (aY qf (pv 4) az λ_ _=>D) aj) (bC 7 pA)<|ah (aH 8 pA<|cQ iw (cQ iw (pv 3) az)<|aY aM (pv 0) (pv 3) λ_ _=>D)<|ah (aT<|ek (pv 6)<|bF bZ (pv 0) (bD<|cQ iw (pv 3) az)<|bD<|pv 8)<|ai<|aH 3 pA<|pv 8)<|ah (aH 9 pA<|Pu (Tb:=Tb K A r) (CX:=c9) cu aG (aY qf (pv 4) az λ_ _=>D)<|aa (pv 1)<|aa (pv 5)<|aa (pv 6) aj)<|ah (aT<|ek (pv 2)<|aQ j.md.a_<|pv 9)<|ai<|aT<|kF (pv 2)<|pv 9)<|ai<|aA<|pv 2,?_⟩
 refineλd t bz cG dx=>⟨λ_=>g,d,t,D,(λcH o n=>nomatch n),⟨D,af⟩,λbA ο ap ar aw ax bj cI=>⟨D,?_⟩⟩;have bk:av an<|only (T (T an t<|.own d) d<|.aE A.bG t []) d:=λcH o n=>by rw[FP<|ao n bz,au<|ao n bz,au<|ao n cG];exact n
 generalize only (T (T an t<|.own d) d<|.aE A.bG t []) d=ad at ax bj bk;refine⟨Ò _,λk a4=>?_⟩;have bl:=aq (o:=.Y []) a4;have bE:ad k=g:=ax.same.free a4;have bG:Lo bA (T ο k<|.Y []) k<|.Y<|([]:J Z).map V.int:=⟨ax.sub.free a4,af⟩;generalize T ο k (.Y [])=bm at bl bG;have bH:k≠d:=(ao bj.oh.at_ a4).symm;refine⟨λbI ae a5=>∃h v a6 a7 x R ap ar aw bn bo bp,∃a8 a9 a_ S W aB:É V,bI=L b -h/\LpA K A b (λ_=>g) ad s d t k a5 h v a6 a7 x R ap ar aw bn bo bp/\ae=[B<|.ref s,B<|.ref d,B<|.ref k,B<|nV h,a8,a9,a_,S,W,aB],⟨_,0,UI,cC,_,[],bA,ap,ar,aw,[],[],[],g,g,g,g,g,g,D,⟨Ò _,cD,by show 0+_<=_;lia,cE,cF.symm,ax.more bl,bj.heap ax.sub bl,cI,bG⟩,D⟩,?_⟩;refineλbI ae aC aD=>bx λQ p=>?_;obtain⟨h,v,a6,a7,x,bJ,cJ,cK,ag,cL,cM,cN,a8,a9,a_,S,W,aB,rfl,m,rfl⟩:=aD;apply p;have bK:av an aC:=bk.trans m.ex.same;have a':aN K aC s<|b.map V.int:=av.seq bK cr;refine⟨s,_,D,.inl a',?_⟩;rw[Ε];refine nU (λcO=>?_) λcO=>?_
 case refine_2=>
  have aE:=m.cl;rw[List.drop_eq_nil_of_le aL]at aE;have aJ:=m.an;rw[DE aE]at aJ;refine(ct k aC (bk.free bE) bK ?_);rw[<-(by rw[<-aJ];show x=x++[];simp:x=j9 b)];exact m.lo.at_
 refine⟨λbL bm=>∃bO,bO<L b -h/\∃h v a6 a7 x R ap ar aw bn bo bp,∃a8 a9 a_ S W aB:É V,bO=L b -h/\LpA K A b (λ_=>g) ad s d t k bm h v a6 a7 x R ap ar aw bn bo bp/\bL=[B<|.ref s,B<|.ref d,B<|.ref k,B<|nV h,a8,a9,a_,S,W,aB],λbL bm e=>e,?_⟩;obtain⟨bq,cP⟩:∃bq,b[h]?=B bq:=⟨b[h],ą aL⟩;have cT:b.drop h=bq::b.drop (h+1):=by
  grind[ĩ]
 have aE:=m.cl;rw[cT]at aE;refine bx λQ p=>?_;obtain⟨a3,dy,aO,bP,f2,cU,cV,cA,cW,cX,cY⟩:=A1 aE;obtain⟨i,a,aP,rfl,rfl,rfl⟩:=DJ cV;apply p;subst cY;have bQ:=BV cW;refine bx λQ p=>?_;obtain⟨z,E,bR,cZ,c0,c1⟩:=Nk aP xV bQ<|m.ak _ Ö;apply p;have ba:=C.tp i a aP;refine⟨s,_,_,.int ((i:M):Z),D,D,a',bN (by rw[Ë,cP];rfl),.inl ((i:M):Z),.ref (r i).1,D,ND r<|(Ð.mp aP).1,?_⟩;refine⟨(r i).1,_,_,nV a.n,D,D,ba _,D,s,_,D,a',λH bS=>?_⟩;change c8 5 (V.ref H) _ (T aC H<|HO.Y<|br (b.map V.int) (B ((h+1:M):Z))<|B ((h+1+a.n:M):Z)) _;rw[vE,Jt];rw[(bh:((b.map V.int).drop<|h+1).take a.n=((b.drop<|h+1).take a.n).map V.int)];generalize dz:(b.drop<|h+1).take a.n=X at*;have aR:=m.ex.made (o:=.Y<|X.map V.int) bS;have ak:=(Ex.refl m.ex.sub).made (o:=.Y<|X.map V.int) bS;have bT:aN K (T bJ H<|.Y<|X.map V.int) H<|X.map V.int:=aN.of af;generalize T bJ H (.Y<|X.map V.int)=aS at aR ak bT;generalize T aC H (.Y<|X.map V.int)=aU at aR ak;refine⟨(r i).1,_,_,nV a.n,D,D,ba _,D,?_⟩;refine⟨Ò _,λy bb=>?_⟩;have bV:Lo aS (T aU y<|.Y []) y<|.Y<|([]:J O).map V.ref:=⟨aR.sub.free bb,af⟩;have bW:Ex aS aU aS<|T aU y<|.Y []:=Ex.heap aR.sub<|aq bb;generalize T aU y (.Y [])=dA at bV bW;have dB:a.k<=2:=by have:∀a∈cR,a.k<=2:=bM;exact this a<|υ aP
 refine⟨(r i).1,_,_,nV a.k,D,D,ba _,D,((a.k:M):Z),D,aL,aL,?_⟩;rw[Ţ];refine DK (lo:=0) (λe ae a5=>∃l R F,∃S W:É V,h+1<=l/\l<=L b/\jw (a.k -e) (b.drop l)=B (aO.drop e,bP)/\Ex aS aU R a5/\Lo R a5 y (.Y<|F.map V.ref)/\ď (Tx K R) F (z.take e)/\ae=[B<|.ref s,B<|.ref d,B<|.ref k,B<|nV l,B<|.ref (r i).1,B<|.ref H,B<|.ref y,S,W,aB]) ?_ ?_ ?_
 .refine⟨h+1+a.n,aS,[],S,W,aL,xV,?_,bW,bV,.nil,D⟩;simp_all
 .refineλe ae G dC aD=>bx λQ p=>?_;obtain⟨l,aV,F,c2,c3,c4,bX,bc,aX,aZ,a0,rfl⟩:=aD;apply p;rw[(aL:a.k -e=(a.k -(e+1))+1)]at bc;refine bx λQ p=>?_;obtain⟨Y,c5,dD,bY,dE,bd,b0⟩:=KA bc;apply p;have c7:l<L b:=by
   grind
  have b6:c5=b.drop (l+1):=by have n:=ĩ c7;rw[bY]at n;exact(sJ n).2
  have c_:b[l]?=B ((Y:M):Z):=by
   have n:(b.drop l)[0]?=B ((Y:M):Z):=by rw[bY];rfl
   rw[List.getElem?_drop]at n;exact n
  have c':e<L z:=by have:=bQ;rw[bR,Ε]at this;lia
  refine bx λQ p=>?_;obtain⟨q,b7⟩:∃q,z[e]?=B q:=⟨z[e],ą c'⟩;apply p;have da:aO.drop e=tI q::aO.drop (e+1):=by
   have b8:e<L aO:=aL;rw[ĩ b8];congr 1;have:aO[e]?=B (tI q):=by rw[bR,Ë,b7];rfl
   exact ĥ<|(ą b8).symm.trans this
  rw[da]at bd;injection bd with bd db
  have b9:aN K G s<|b.map V.int:=av.seq aX.same<|av.seq ak.same a';refine⟨s,_,_,.int ((Y:M):Z),D,D,b9,bN (by rw[Ë,c_];rfl),?_⟩;refine⟨.inl ⟨D,_,aN.of aZ.at_⟩,s,_,D,b9,λal b_=>?_⟩;change cB _ (T G al<|HO.Y<|br (b.map V.int) (B ((l+1:M):Z))<|B ((l+1+Y:M):Z)) _;rw[vE,Jt];have dc:((b.map V.int).drop<|l+1).take Y=tV q:=by rw[<-Ge,<-Vi,<-b6,<-bd];exact HD q
  rw[dc];have bs:=aX.made (o:=.Y<|tV q) b_;have be:=(Ex.refl aX.sub).made (o:=.Y<|tV q) b_;have b':Tx K (T aV al<|.Y<|tV q) al q:=aN.of af;generalize T aV al (.Y<|tV q)=a1 at bs be b';generalize T G al (.Y<|tV q)=dF at bs be;have I:=aZ.ex be;refine⟨y,_,_,D,D,I.at_,by rw[Ε,(by rw[a0.length,ŀ];lia:F.length=e)];exact bi _ aL,?_⟩;refine⟨l+1+Y,a1,F++[al],B<|nV e,B<|nV<|l+1+Y,aL,?_,?_,bs.write I bb,?_,?_,?_⟩
  .grind
  .rw[b6,List.drop_drop,<-db]at b0;exact b0
  .rw[Ý];exact I.put
  .rw[(by rw[Ĝ,b7];rfl:z.take (e+1)=z.take e++[q])];exact Paired.rZ (Paired.cj (λ_ _ w=>w.same be.le) a0) b'
  .rw[JO];rfl
 .refineλae G aD=>bx λQ p=>?_;obtain⟨l,aV,F,c2,c3,c4,bX,bc,aX,aZ,a0,rfl⟩:=aD;apply p;rw[yO]at bc;have dd:b.drop l=bP:=by
   grind[jw]
  have de:z.take a.k=z:=by
   grind
  rw[de]at a0;have am:=aX.stay aZ bb;have ca:Gq K (T aV y<|.Y<|F.map V.ref) y z:=⟨F,aN.of af,Paired.cj (λ_ _ w=>w.same<|aq aZ.out) a0⟩;generalize T aV y (.Y<|F.map V.ref)=a1 at am ca;have bt:=aR.trans am;have cb:=(m.S.ex ak).ex am;have I:=(m.lo.ex ak).ex am;have df:∀cc∈[d,ag],ad cc=g:=by
   intro cc t;rcases ç.mp t with e|t
   .rw[e];exact m.S.zh
   .rw[đ.mp t];exact m.S.zm
  have cd:j_ G [d,ag] k=G k:=sS (by simp[bH,bB I.at_ cb.om.at_ aL]);refine⟨(r i).1,_,_,.ref (r i).2,D,D,ba _,D,(r i).2,_,D,⟨i,a,aP,D,D⟩,a1,j_ G [d,ag],a1,d,t,cJ,cK,ag,cL,cM,cN,v,H,y,X,z,E,D,AM bt.sub,cb.base (mG bh)<|mG bh,(m.X.same ak.le).same am.le,av.seq am.le bT,ca,cZ,c0,?_⟩;rintro dg dh di dG dj dk dl dm dn dp ce cf dH bu dq cg ch dI;have ci:av ad<|j_ G [d,ag]:=GI bt.same df;have a2:=(show Lo a1 (j_ G [d,ag]) k _ from⟨I.out,cd▸I.at_⟩).ex cf;have u:=bu.base (ο:=ad) m.S.zh<|ci.free bu.zm;have dr:=m.dn;rw[Ñ]at dr;refine⟨.inl ⟨D,_,aN.of a2.at_⟩,ce,_,D,.inl<|aN.of ch,k,_,_,D,D,a2.at_,by rw[Ε];exact bi _<|by lia,?_⟩;refine⟨.inl ⟨D,_,aN.of af⟩,k,ce,_,_,D,D,af,.inl<|aN.of (by rw[au (λe=>by rw[e,cd,I.at_]at cg;cases cg)];exact ch),by rw[Ω,Ε,Ε];exact bi _ (by show L x+1+_<=_;lia),?_⟩
  rw[cy];have ds:(x.map V.int++[V.int ((L<|(lq v E).map V.int):M)])++(lq v E).map V.int=(x++((((L<|lq v E):M):Z)::lq v E)).map V.int:=by simp
  rw[ds];have aJ:=m.an;rw[J' c1,dh]at aJ;refine⟨L b -l,aL,l,dg,cU,f2,x++((((L<|lq v E):M):Z)::lq v E),di,dj,dk,dl,dm,dn,dp,_,_,_,_,_,_,D,⟨bX,dd▸cX,xV,λE dt=>m.ak E<|Ç _ dt,by rw[<-aJ,ϊ],(bt.bx cf ci).write a2 bE,⟨u.oh.other bH.symm,u.om.other<|(bB a2.at_ bu.om.at_ aL).symm,u.zh,u.zm,u.doc,u.FY,u.vv,u.kv,u.km,u.nd,u.sb,u.mv⟩,dq,a2.put⟩,D⟩
theorem kJ{Ν h:Type}{f ς:Ν->h}:∀{l:J Ν},l.map f=l.map ς->∀b∈l,f b=ς b
 |a::l,e,b,d=>by
  rw[þ,þ]at e;injection e with k i
  rcases ç.mp d with j|d
  .rwa [j]
  .exact kJ i b d
theorem uX{x:S}(e:(gv K x).any ir=U):gv K x=B (.ref<|ga K x):=by
 unfold ga;cases a:gv K x with
 |none=>rw[a]at e;cases e
 |some b=>
  rw[a]at e;cases b<;>first|rfl|cases e
theorem yH{x:S}(X:K.In h)(G:h.Ns ĺ η)(e:gv K x=B v):η x=B v:=by refine PySem.W.mg_of X G ?_;unfold gv at e;lia
theorem WM{x:S}{n:Z}(X:K.In h)(G:h.Ns ĺ η)(e:(gv K x).bind FA=B n):Gv η x<|.int n:=by
 cases a:gv K x with
 |none=>rw[a]at e;cases e
 |some b=>
  rw[a]at e;have e:=e;cases b with
  |int d f=>cases e;exact⟨_,yH X G a,⟨_,D⟩⟩
  |_=>cases e
theorem DF:∀(Ï:J z) (ns:J Z),Ï.map FA=ns.map B->bz (ns.map V.int) Ï
 |[],[],_=>.nil
 |v::Ï,e::ns,a=>by
  rw[þ,þ]at a;injection a with b d
  refine .cons ?_ (DF Ï ns d);cases v with
  |int f h=>cases b;exact⟨_,D⟩
  |_=>cases b
theorem Zv{x:S}{ns:J Z}(j:L ns<=100)(X:K.In h)(G:h.Ns ĺ η)(e:(gv K x).any ir=U)(t:Te K (ga K x)=B (.type "tuple",ns.map B)):Gt K η x ns:=by
 refine⟨ga K x,⟨_,yH X G<|uX e,D⟩,λk=>.inr ?_⟩;unfold Te at t;split at t
 .rename_i l m a b n d;injection t with t
  injection t with f i;refine⟨_,a,b,d,f,D,?_,DF _ _ i⟩
  grind[Ε,Î]
 .cases t
theorem J4{x:S}(v:U3 K f=B (fw x q st))(c:C3 K f q=U):∃Ä,UO K x q st f Ä:=by
 unfold U3 at v;unfold C3 at c;split at v
 .rename_i o p b r a;rw[a]at c;rw[ø,ø]at c;injection v with v
  unfold fw at v;simp only[gn]at v;obtain⟨d,e,h,i,j,k,l,m,n⟩:=v;obtain⟨s,t,u,w,y,z,A,C,E,F,G,H,I,J,L⟩:=b;subst d e h i j k l m n;exact⟨_,WV a c.1.1 c.1.2⟩
 .cases v
theorem U_(c:C3 K f q=U):pU K (.ref f)=U/\ũ K (.ref f)=U:=by unfold C3 at c;lia
theorem Zw{m:S}(e:mOk K C m=U):Ń K (.ref C) m=B (B<|.ref<|mf K C m):=by
 unfold mOk at e;unfold mf;split at e
 .rename_i a b;rw[b];cases a<;>first|rfl|cases e
 .cases e
structure Sn(K:Ζ):Prop where
 f:L_ K=U
 r:I4 K=U
 e1:L5 K=JT
 e2:L7 K=Lv
theorem Sn.bs(χ:Sn K):(Ak.all λa=>((gv K a.1).any ir)&&C3 K (ga K a.1) a.1)=U/\(wU.all λa=>mOk K (ga K a.1) a.2.1&&C3 K (mf K (ga K a.1) a.2.1) a.2.2.1)=U/\(w4.all λa=>((gv K a.1).any ir)&&TR K (ga K a.1))=U/\(Jc.all λa=>(gv K a.1).any ir)=U
  /\(Bp.all λa=>((gv K a.1).any ir)&&Ac K (CI K<|ga K a.1)&&ũ K (.ref<|ga K a.1)&&xOk K a.1&&C3 K (xI K a.1) a.2.1)=U/\(gv K "CALLS").any ir=U/\(cR.zipIdx.all λa=>YC (HJ K a.2)<|ga K a.1.x)=U:=by
 have:=χ.r;unfold I4 at this
 repeat rw[ø]at this
 obtain⟨⟨⟨⟨⟨b,d⟩,e⟩,f⟩,h⟩,i⟩:=this;exact⟨χ.f,b,d,e,f,h,i⟩
theorem Sn.df(χ:Sn K)(X:K.In h)(G:h.Ns ĺ η){x:S}(m:(x,st)∈Ak)(b:eV x x st θ):∃Ä,Df K η x st θ (ga K x) Ä:=by have d:=Ě.mp χ.bs.1 _ m;rw[ø]at d;obtain⟨Ä,e⟩:=J4 (kJ (show Ak.map (λa=>U3 K<|ga K a.1)=Ak.map (λa=>B<|fw a.1 a.1 a.2) from Ğ (λa:DQ=>a.1) χ.e1) _ m) d.2;exact⟨Ä,e,yH X G<|uX d.1,e.binds b⟩
theorem Sn.dm(χ:Sn K){c m:S}(e:(c,m,q,st)∈wU)(b:eV m q st θ):∃Ä,Dm K m q st θ (mf K (ga K c) m) Ä/\GR K (ga K c) m (mf K (ga K c) m):=by have d:=Ě.mp χ.bs.2.1 _ e;rw[ø]at d;obtain⟨Ä,f⟩:=J4 (kJ (show wU.map (λa=>U3 K<|mf K (ga K a.1) a.2.1)=wU.map (λa=>B<|fw a.2.1 a.2.2.1 a.2.2.2) from Ğ (λa:DQ=>a.2.1) χ.e1) _ e) d.2;exact⟨Ä,⟨f,f.binds b⟩,⟨Zw d.1,(U_ d.2).1,(U_ d.2).2⟩⟩
theorem Sn.cl(χ:Sn K)(X:K.In h)(G:h.Ns ĺ η){c:S}{fs:J S}(m:(c,fs)∈w4):Cl K η c (ga K c) fs/\qs K (ga K c)=U/\ũ K (.ref<|ga K c)=U:=by
 have f:=Ě.mp χ.bs.2.2.1 _ m;rw[ø]at f;obtain⟨i,d⟩:=f;unfold TR at d;simp only[ø]at d;obtain⟨⟨⟨⟨j,k⟩,l⟩,n⟩,o⟩:=d;have b:=kJ (show w4.map (λa=>Ń K (.ref<|ga K a.1) "__setattr__"::Ń K (.ref<|ga K a.1) "__class__"::a.2.map λe=>Ń K (.ref<|ga K a.1) e)=w4.map (λa=>B (B<|.builtin "object.__setattr__")::B (B<|.builtin "object.__class__")::a.2.map λ_=>B g) from Ğ (λa:nT=>a.1) χ.e2) _ m;injection b with f1 b
 injection b with f2 b;have p:=Ğ (λa:nT=>a.2.1) χ.e2;injection p with s1 s2;exact⟨⟨⟨j,k,l,f1⟩,yH X G<|uX i,λe q=>kJ b e q,f2,s1,s2,kJ (show w4.map (λa=>tN K (ga K a.1)<|.type "object")=w4.map (λ_=>B U) from Ğ (λa:nT=>a.2.2.1) χ.e2) _ m⟩,n,o⟩
theorem Sn.init(χ:Sn K){c:S}{fs:J S}(m:(c,fs)∈w4)(f:(c,("__init__":S),q,st)∈wU)(b:eV "__init__" q st θ):∃Ä,Dm K "__init__" q st θ (mf K (ga K c) "__init__") Ä/\Mk K (ga K c) (mf K (ga K c) "__init__"):=by obtain⟨Ä,h,d⟩:=χ.dm f b;have e:=Ě.mp χ.bs.2.2.1 _ m;rw[ø]at e;obtain⟨_,a⟩:=e;unfold TR at a;simp only[ø]at a;exact⟨Ä,h,⟨a.1.2,d.at_,d.fn,a.2⟩⟩
theorem Sn.md(χ:Sn K)(X:K.In h)(G:h.Ns ĺ η):(∀x∈Ra,η x=g)/\(∀a∈QK,Gv η a.1<|.int a.2)/\∀a∈Jc,Gt K η a.1 a.2:=by have d:Ra.map (λx=>϶ K ĺ x)=Ra.map (λ_=>B g):=Ğ (λa:nT=>a.2.2.2.2.1) χ.e2;have e:QK.map (λa=>(gv K a.1).bind FA)=QK.map (λa=>B a.2):=Ğ (λa:nT=>a.2.2.2.2.2.1) χ.e2;have f:Jc.map (λa=>Te K<|ga K a.1)=Jc.map (λa=>B (.type "tuple",a.2.map B)):=Ğ (λa:nT=>a.2.2.2.2.2.2.1) χ.e2;refine⟨λx i=>PySem.W.mg_none_of X G<|kJ d x i,λa b=>WM X G<|kJ e a b,λa b=>Zv ?_ X G (Ě.mp χ.bs.2.2.2.1 a b) (kJ f a b)⟩;have:∀a∈Jc,a.2.length<=100:=bM;exact this a b
noncomputable def VL (K:Ζ):Ad:=⟨ga K "Literal",ga K "Use",ga K "Parameter",ga K "CodeLine",ga K "ConditionLine",ga K "Part",ga K "Document",ga K "Run",ga K "LiveLine",ga K "Frame",ga K "Made",ga K "Maker",ga K "Reader",ga K "Held",ga K "TextFault",ga K "MakingFault",ga K "NO_PLACE"⟩
theorem Sn.mod(χ:Sn K)(X:K.In h)(G:h.Ns ĺ η):Md K η:=by obtain⟨b,a,d⟩:=χ.md X G;exact⟨b _<|υ (i:=0) D,b _<|υ (i:=1) D,b _<|υ (i:=2) D,b _<|υ (i:=3) D,b _<|υ (i:=4) D,b _<|υ (i:=5) D,b _<|υ (i:=6) D,b _<|υ (i:=7) D,b _<|υ (i:=8) D,b _<|υ (i:=9) D,b _<|υ (i:=10) D,b _<|υ (i:=11) D,b _<|υ (i:=12) D,a _<|υ (i:=0) D,a _<|υ (i:=1) D,a _<|υ (i:=2) D,a _<|υ (i:=3) D,a _<|υ (i:=4) D,a _<|υ (i:=5) D,a _<|υ (i:=6) D,a _<|υ (i:=7) D,a _<|υ (i:=8) D,a _<|υ (i:=9) D,a _<|υ (i:=10) D,d _<|υ (i:=0) D,d _<|υ (i:=1) D,a _<|υ (i:=11) D,a _<|υ (i:=12) D,a _<|υ (i:=13) D,a _<|υ (i:=14) D,a _<|υ (i:=15) D,a _<|υ (i:=16) D,a _<|υ (i:=17) D,a _<|υ (i:=18) D,a _<|υ (i:=19) D,a _<|υ (i:=20) D,a _<|υ (i:=21) D,d _<|υ (i:=2) D,a _<|υ (i:=22) D,a _<|υ (i:=23) D,a _<|υ (i:=24) D,a _<|υ (i:=25) D,a _<|υ (i:=26) D,a _<|υ (i:=27) D,a _<|υ (i:=28) D,a _<|υ (i:=29) D,a _<|υ (i:=30) D,a _<|υ (i:=31) D,a _<|υ (i:=32) D,a _<|υ (i:=33) D,a _<|υ (i:=34) D,a _<|υ (i:=35) D,a _<|υ (i:=36) D,a _<|υ (i:=37) D⟩
theorem Sn.kit(χ:Sn K){c d:S}{v:ě}(m:(c,d,v)∈VU):Ģ K (.ref<|ga K c) (.ref<|ga K d)=B v:=by exact kJ (List.append_inj_left (Ğ (λa:nT=>a.2.2.2.1) χ.e2)<|by rfl) _ m
theorem Sn.Y6(χ:Sn K):Ģ K (.type "NoneType") (.ref<|ga K "Literal")=B Τ/\Ģ K (.type "NoneType") (.ref<|ga K "Use")=B Τ:=by have b:=List.append_inj_right (Ğ (λa:nT=>a.2.2.2.1) χ.e2) (by rfl);lia
theorem Sn.kl(χ:Sn K)(X:K.In h)(G:h.Ns ĺ η):Kl K η<|VL K:=
 ⟨(χ.cl X G<|υ (i:=0) D).1,(χ.cl X G<|υ (i:=1) D).1,(χ.cl X G<|υ (i:=2) D).1,(χ.cl X G<|υ (i:=3) D).1,(χ.cl X G<|υ (i:=4) D).1,(χ.cl X G<|υ (i:=5) D).1,(χ.cl X G<|υ (i:=6) D).1,(χ.cl X G<|υ (i:=7) D).1,(χ.cl X G<|υ (i:=8) D).1,(χ.cl X G<|υ (i:=9) D).1,(χ.cl X G<|υ (i:=10) D).1,(χ.cl X G<|υ (i:=11) D).1,(χ.cl X G<|υ (i:=12) D).1,(χ.cl X G<|υ (i:=13) D).1,χ.kit<|υ (i:=0) D,χ.kit<|υ (i:=1) D,χ.kit<|υ (i:=2) D,χ.kit<|υ (i:=3) D,χ.kit<|υ (i:=4) D,χ.kit<|υ (i:=5) D,χ.kit<|υ (i:=6) D,χ.kit<|υ (i:=7) D,χ.kit<|υ (i:=8) D,χ.Y6.1,χ.Y6.2,χ.kit<|υ (i:=9) D,χ.kit<|υ (i:=10) D,χ.kit<|υ (i:=11) D,χ.kit<|υ (i:=12) D⟩
theorem Zz{x:S}(e:xOk K x=U):϶ K (CI K<|ga K x) "__init__"=B (B<|.ref<|xI K x):=by
 unfold xOk at e;unfold xI;split at e
 .rename_i a b;rw[b];cases a<;>first|rfl|cases e
 .cases e
theorem VO{r:J z}{p:É z}(e:TM K C=B (.type "type",r,U,Τ,p)):∃a q å b d f h i j k l m n,K.lookup C=B ⟨.type "type",i,.cls {name:=a,bases:=å,mro:=.ref C::r,ns:=CI K C,qualname:=q,hasDict:=U,slotNames:=b,subclasses:=d,abstract:=f,collection:=h,hasDel:=Τ},#[j,k,l,m,p,n]⟩:=by
 unfold TM at e;unfold CI;split at e
 .rename_i y i s A q;rw[q];split at e
  .rename_i E F j k l m G n t u;split at e
   .rename_i o;have o:=LM o;subst o;injection e with e
    simp[gn]at e;obtain⟨rfl,rfl,v,w,rfl⟩:=e;obtain⟨a,å,mro,ns,x,H,b,d,f,h,I⟩:=s;subst t v w;exists a,x,å,b,d,f,h,i,j,k,l,m,n;congr 2;exact Array.ext' u
   .cases e
  .cases e
 .cases e
theorem Sn.xc(χ:Sn K)(X:K.In h)(G:h.Ns ĺ η){x:S}{fs:J S}(m:(x,q,st,fs)∈Bp)(bl:∀f∈fs,dR (.type "Exception") f=pure g)(b:eV "__init__" q st θ):
  ∃Ä,Dm K "__init__" q st θ (xI K x) Ä/\Xc K η x (ga K x) (CI K<|ga K x) (xI K x) fs:=by
 have i:=Ě.mp χ.bs.2.2.2.2.1 _ m
 repeat rw[ø]at i
 obtain⟨⟨⟨⟨b1,b2⟩,b3⟩,b4⟩,b5⟩:=i;obtain⟨Ä,j⟩:=J4 (kJ (show Bp.map (λa=>U3 K<|xI K a.1)=Bp.map (λa=>B<|fw "__init__" a.2.1 a.2.2.1) from Ğ (λa:DQ=>a.2.2) χ.e1) _ m) b5;have k:=kJ (show Bp.map (λa=>(TM K<|ga K a.1,(RD a.2.2.2).map λf=>϶ K (CI K<|ga K a.1) f,P5 K<|xI K a.1))=Bp.map (λa=>(B (.type "type",U8,U,Τ,B<|.builtin "Exception.__new__"),(RD a.2.2.2).map λ_=>B g,B<|.type "function")) from Ğ (λa:nT=>a.2.2.2.2.2.2.2.1) χ.e2) _ m;injection k with l d
 injection d with d e;refine⟨Ä,⟨j,j.binds b⟩,VO l,b2,Zz b4,λf n=>kJ d f n,bl,?_,yH X G<|uX b1,b3⟩;unfold P5 at e;split at e
 .simp_all
 .cases e
theorem IJ{P:Ŝ}{w:ś}:∀(E:J ez) (a:J M),E.map (λe=>(FA e.key,e.hash,ir e.val))=a.map (λi=>(B ((i:M):Z),((i:M):Z),U))->(∀i∈a,hashInt ((i:M):Z)=((i:M):Z))->
  (∀e∈E,∃k:bW,(aZ P w).is k e.key=U/\e.hash=(aZ P w).hash k)/\Pairs (aZ P w) E (qZ (λ(i:M) (e:ez)=>((.inl ((i:M):Z),e.val):bW×z)) a E)/\
  KV (qZ (λ(i:M) (e:ez)=>((.inl ((i:M):Z),.ref<|vz e.val):bW×V)) a E) (qZ (λ(i:M) (e:ez)=>((.inl ((i:M):Z),e.val):bW×z)) a E)/\
  (qZ (λ(i:M) (e:ez)=>((.inl ((i:M):Z),e.val):bW×z)) a E).map (·.1)=a.map λi=>(.inl ((i:M):Z):bW)
 |[],[],_,_=>⟨λe b=>(nomatch b),.nil,.nil,D⟩
 |⟨o,h,d⟩::E,i::a,b,j=>by
  rw[þ,þ]at b;injection b with l p
  simp[gn]at l;obtain⟨m,q,r⟩:=l;obtain⟨s,t,u,v⟩:=IJ E a p λx y=>j x<|Ç _ y;have n:pB (.inl ((i:M):Z)) h=U:=by
   cases h with
   |int F G=>cases m;show(_==_)=U;simp
   |_=>cases m
  have A:bE (.ref<|vz d) d:=by
   cases d with
   |ref H=>rfl
   |_=>cases r
  refine⟨λe f=>?_,.cons n D t,.cons ⟨D,A⟩ u,by show _::_=_;rw[v];rfl⟩;rcases ç.mp f with C|f
  .subst C;refine⟨.inl ((i:M):Z),n,?_⟩;show o=hashInt ((i:M):Z);rw[j i Ö];exact q
  .exact s e f
theorem YO{E:J ez}(h:L E=13):qZ (λ(i:M) (e:ez)=>((.inl ((i:M):Z),.ref<|vz e.val):bW×V)) (ſ 13) E=(ſ 13).map λi=>(.inl ((i:M):Z),.ref (vz ((E.map (·.val)).getD i .none))):=by refine bx λt a=>?_;obtain⟨u,E0,rfl,b⟩:=qQ h;obtain⟨v,w,rfl,d⟩:=qQ b;obtain⟨x,y,rfl,f⟩:=qQ d;obtain⟨z,A,rfl,j⟩:=qQ f;obtain⟨C,F,rfl,k⟩:=qQ j;obtain⟨G,H,rfl,l⟩:=qQ k;obtain⟨I,K,rfl,m⟩:=qQ l;obtain⟨N,O,rfl,n⟩:=qQ m;obtain⟨P,Q,rfl,o⟩:=qQ n;obtain⟨R,S,rfl,p⟩:=qQ o;obtain⟨T,W,rfl,q⟩:=qQ p;obtain⟨X,Y,rfl,r⟩:=qQ q;obtain⟨aa,ab,rfl,s⟩:=qQ r;apply a;obtain rfl:=j3 s;rfl
theorem Sn.cs(χ:Sn K)(X:K.In h)(G:h.Ns ĺ η):CsK P w K η (ga K "CALLS") λi=>(rS K i,HJ K i):=by
 have f:WL K (ga K "CALLS")=B (.type "dict",g,#[],(ſ 13).map λi=>(B ((i:M):Z),((i:M):Z),U)):=Ğ (λb:nT=>b.2.2.2.2.2.2.2.2.1) χ.e2;have u:(ſ 13).map (λi=>(Km K<|rS K i).map λb=>(b.1,b.2.1,b.2.2.1))=cR.map λa=>B (.type "tuple",B ((a.n:M):Z),B ((a.k:M):Z)):=Ğ (λb:nT=>b.2.2.2.2.2.2.2.2.2) χ.e2;have v:∀i a,cR[i]?=B a->(Km K<|rS K i).map (λb=>(b.1,b.2.1,b.2.2.1))=B (.type "tuple",B ((a.n:M):Z),B ((a.k:M):Z)):=λi a d=>by have x:i<13:=(Ð.mp d).1;have:=Ğ (λy=>y[i]?) u;rw[Ë,Ë,d,List.getElem?_range x]at this;exact ĥ this
 have z:∀i a,cR[i]?=B a->HJ K i=ga K a.x:=λi a d=>by exact LM<|Ě.mp χ.bs.2.2.2.2.2.2 _ (gA.mpr d:(a,i)∈cR.zipIdx)
 refine⟨⟨_,yH X G<|uX χ.bs.2.2.2.2.2.1,D⟩,λm A=>?_,λi a d q=>?_,λi a d=>?_⟩
 .unfold WL at f;split at f
  .rename_i r C j E F k;simp only[iZ,gn]at f;obtain⟨rfl,rfl,rfl,s⟩:=f;obtain⟨H,I,n,J⟩:=IJ j.toList (ſ 13) s bM;have N:L j.toList=13:=by have:=Ğ L s;rw[Ε,Ε,List.length_range]at this;exact this
   rw[YO N]at n;refine⟨_,?_,⟨_,j,E,A _ _ k,⟨D,D,D⟩,D,λl O=>H l<|lG.mpr O,I,?_⟩⟩
   .have:(λi:M=>((.inl ((i:M):Z),.ref (vz ((j.toList.map (·.val)).getD i .none))):bW×V))=λi=>(.inl ((i:M):Z),.ref<|rS K i):=by funext i;unfold rS;rw[(by unfold V_;rw[k]:V_ K (ga K "CALLS")=j.toList)]
    rw[this]at n;exact n
   .rw[J];decide
  .cases f
 .have:=v i a d;show gb K q (rS K i) [nV a.n,nV a.k,.ref<|((Km K<|rS K i).map λb=>b.2.2.2).getD 0];generalize e:Km K (rS K i)=Q at this⊢;cases Q with
  |none=>cases this
  |some o=>
   obtain⟨r,ad,ae,b⟩:=o;simp only[iY,iZ,gn]at this;obtain⟨rfl,rfl,rfl⟩:=this;show gb K q (rS K i) [nV a.n,nV a.k,.ref b];unfold Km at e;split at e
   .rename_i r C R S F k;split at e
    .rename_i T W af l;simp[iZ,gn]at e;obtain⟨rfl,m,t,rfl⟩:=e;refine .inr ⟨_,R,S,k,D,D,?_,?_⟩
     .rw[<-iE,l,Î];simp
     .rw[l];refine .cons ?_ (.cons ?_ (.cons D .nil))
      .cases T with
       |int Y o=>cases m;exact⟨_,D⟩
       |_=>cases m
      .cases W with
       |int Y o=>cases t;exact⟨_,D⟩
       |_=>cases t
    .cases e
   .cases e
 .show η a.x=B (.ref<|HJ K i);rw[z i a d];obtain⟨b,aa,ab⟩:=ń.mp ((by decide+kernel:∀a∈cR,a.x∈Ak.map (·.1)) a<|υ d);have p:=Ě.mp χ.bs.1 b aa;rw[ø]at p;rw[ab]at p;exact yH X G<|uX p.1
theorem MG:∀a∈Oc (VL K),a.2=ga K a.1/\∃fs,(a.1,fs)∈w4:=by
 intro a b
 repeat(rcases ç.mp b with d|b;case inl=>subst d;exact⟨D,_,by repeat(first|exact .head _|apply List.Mem.tail)⟩)
 cases b
theorem Sn.wk(χ:Sn K)(X:K.In h)(G:h.Ns ĺ η):Wk K η<|VL K:=by
 refine⟨λx st θ m f=>(χ.df X G m f).elim λb d=>⟨_,b,d⟩,λp q m i st θ j k f=>?_,λp q i st θ j k f=>?_,χ.mod X G,χ.kl X G,?_,?_,?_⟩
 .obtain⟨e,_⟩:=MG _ j;dsimp only at e;subst e;obtain⟨b,d,l⟩:=χ.dm k f;exact⟨_,b,d,l⟩
 .obtain⟨e,fs,a⟩:=MG _ j;dsimp only at e;subst e;obtain⟨b,d,l⟩:=χ.init a k f;exact⟨_,b,d,l,(χ.cl X G a).1.mg⟩
 .obtain⟨t,⟨u,n,r⟩,i⟩:=(χ.mod X G).Lb;have o:=yH X G<|uX<|Ě.mp χ.bs.2.2.2.1 _<|υ (i:=2) D;rw[o]at n;cases n;cases r;exact⟨⟨_,o,D⟩,i⟩
 .obtain⟨b,d,x⟩:=χ.xc X G (x:="TextFault") (st:=sTf) (fs:=["line","reason"]) (θ:=["self","line","reason"]) (υ (i:=0) D) (λs a=>by(rcases ç.mp a with e|a)<;>first|(rw[e];rfl)|(rw[đ.mp a];rfl))<|b3 λ_ _ _ _ _ _ _ _ _=>D;exact⟨_,_,b,d,x⟩
 .obtain⟨b,d,x⟩:=χ.xc X G (x:="MakingFault") (st:=sMf) (fs:=["reason","place"]) (θ:=["self","reason","place"]) (υ (i:=1) D) (λs a=>by(rcases ç.mp a with e|a)<;>first|(rw[e];rfl)|(rw[đ.mp a];rfl))<|b3 λ_ _ _ _ _ _ _ _ _=>D;exact⟨_,_,b,d,x⟩
theorem RI{r:aab}{k:M}{q:Ŝ}{l:J S}{XP:(S->É z)->ό->Prop}{eO:ś->ό->Prop}{d:DefRec}{Ã:Ζ->Sp}
  (m:r.wellSaid=U) (n:L r.args=L θ) (o:c6 k Cy)
  (p:∀(w:ś) (η:S->É z) (e:O) (h:ό),eO w h->h.Ns ĺ η->η d.name=B (.ref e)-> ∃K:Ζ,K.In h/\∃Ä:jR,(∀(s:Í) (Μ:J z),L Μ=L θ->Cp s Ä ⟨Μ,[]⟩ (θ.zip Μ))/\∀Ξ:ό,K.In Ξ->Ξ.Ns ĺ η->lZ r.prog w K η Ξ c9 k e Ä θ (Ã K))
  (t:∀(K:Ζ) (H:Hp) (N:J V) (a:lY r.args),Ej H->Aa r.args a=U->ny r.args r.asked a=U->o6 K H N (jY r.args a)->Ã K N H (λv R=>Dw K R v<|r.ret.enc<|ny r.args r.f a) λ_ _ _=>Ϡ):
  ER q l XP eO r d [] (λf vs=>jS f vs):=by
 intro w u s1 η ai b x e aj ak al am an kV ao ap aq ar y A args au av C E aw F ax;obtain⟨a,G,I⟩:=Jp C;obtain⟨P,j⟩:=Gy r.args args a G;subst P;obtain⟨K,Q,Ä,T,W⟩:=p w η e _ x b.T.g y;refine JH<|gJ (DZ (Χ:=[]) (cl:=classAt u.heap) (d0:=r.ret.enc<|ny r.args r.f a) Q b.T.g b.T.b b.T.builtins b.T.nolimit A F (xg _ _) (rN E) o W T (by rw[uH];exact n) (λH N X Y=>t K H N a X j I Y) λH ay Z i=>i) λaz Z aa=>?_
 obtain⟨ab,ad,rfl,ae,af,ag,ah⟩:=aa;exact⟨.inl ⟨ab,_,ad,D,λ_=>D,ae,(JI m j _ _).mpr D,λi=>Ř<|i⟩,af,ag,ah⟩
def YT(w:ś)(h:ό):Prop:=∃K:Ζ,K.In h/\Sn K
theorem YZ{XP:(S->É z)->ό->Prop}{d:DefRec}(m:d.name="answers"){n:J S}{q:Ŝ}(o:PySem.Challenge.rw_tangledfiles_s01_answers.wellSaid=U):ER q n XP YT PySem.Challenge.rw_tangledfiles_s01_answers d [] λf vs=>jS f vs:=by
 refine RI (k:=95) (θ:=["calls"]) (Ã:=Ew) o D ⟨D,bM,bM⟩ (λE F G H p i l=>?_) λK I L a M r s t=>?_
 .obtain⟨K,b,j⟩:=p;obtain⟨u,e⟩:=j.df b i (st:=bU 126) (θ:=["calls"]) (υ (i:=60) D)<|b1 λ_ _ _ _ _ _ _=>D;have h:=e.mg;rw[m]at l;rw[l]at h;cases h;refine⟨K,b,u,λN O v=>?_,λP Q R=>Ky (j.wk b i) e<|j.cs b i⟩;obtain⟨T,V,kV,W,X,Z,aa,ab,ad,rfl,ae,af⟩:=e.fn.ex;obtain⟨ag,rfl⟩:=p_ v;exact .of_eq D
 .cases t with
  |cons w x=>
   cases x;cases w with
   |Y y A=>
    have h:=MQ a.1 _ A;subst h;have q:((abh.inLen 0 30000 a.1&&a.1.all (abh.inInt (-2147483648) 2147483647))&&U)=U:=r;rw[ø,ø]at q;exact⟨_,a.1,D,y,(abh.inNat_iff.mp q.1.1).2,s,λe ah _ _ C=>.Y (aN.of C)<|Mu _⟩
end Tf
section
open PySem.W Tf
theorem PySem.Challenge.cw_tangledfiles_s01_answers_holds : PySem.Challenge.rw_tangledfiles_s01_answers.Holds :=
 holds_os (r:=PySem.Challenge.rw_tangledfiles_s01_answers) (q:=qT) (loose:=oq) (Xt:=XJ []) (XP:=λ_ _=>Cm) (Yf:=YfT) (Ya:=λ_=>((true,Lv),true,JT)) (YP:=YT) (N:=20000) Zl
  (λe d a=>⟨fragOf d.heap,N6 _,Ğ (λb=>b.1.1) a,Ğ (λb=>b.2.1) a,Ğ (λb=>b.2.2) a,Ğ (λb=>b.1.2) a⟩)
  (λe m n f h=>let⟨K,i,j⟩:=f;⟨K,λk l a=>h _ _<|i k l a,j⟩) (λ_ _=>trivial) (λ_ _ _ _ _=>trivial) (by rfl) (by rfl) (by rfl) (λd a=>recFacts_of a) Tf.shT Tf.U' Tf.Wl Tf.YK Tf.aaN (YZ rfl Tf.U')
end
