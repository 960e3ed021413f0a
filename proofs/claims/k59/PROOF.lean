import PyProof.Rows.All
import Wide.All
import OpenK.AllK
import Wide.FinOn
import Lean
import PyProof.EqAt
import PyProof.EqKinds
import PyProof.TupleCall
import PyProof.ExcBaseAll.ValueError
import PyProof.NsDelKeeps
import PyProof.NeKinds
import PyProof.Rows.SortShell
import PyProof.Rows.FStr
import PyProof.FString
import PyProof.ExcAttrAll.ValueError
import PyProof.ExcArgsOwn
import PyProof.Rows.SortRuns
import PyProof.TupleIter
import PyProof.Dict
import KE.KDictSum
import PyProof.Rows.SetFrom
import PyProof.SetRoads
import PyProof.Rows.Range3
import PyProof.WalksMore
import PyProof.TupleOfSeq
import PyProof.EnumMake
import PyProof.SliceList
import PyProof.MinMaxWalk
import PyProof.Rows.EnumRows
import PyProof.WalkInts
import PyProof.Rows.SeqCalls
import KE.KRevIter
import PyProof.CollectIter
import PyProof.TupleOfGen
import PyProof.Rows.FactsT2
import PyProof.ListRange
import PyProof.Rows.CallKwBuiltin
import PyProof.ZipIter
import PyProof.Rows.ZipGen
import PyProof.Rows.RuleM_int
import PyProof.Rows.AssignMoreSeq
import KE.KIntText
import PyProof.Rows.StrKeys3
import PyProof.StrBlock
import PyProof.StrCalls2
import PyProof.StrWalks
import PyProof.Rows.RuleN_abs
import PyProof.StrLawsTight
import PyProof.StrLawsChain
import PyProof.StrLawsIn
import PyProof.Rows.StrItems
import PyProof.FitsReplace
import PySem.Challenge.RW_guardround_k59_questions_refused
set_option Elab.async false
set_option linter.all false
set_option compiler.extract_closed false
set_option bootstrap.genMatcherCode false
set_option genSizeOf false
set_option maxRecDepth 100000
set_option maxHeartbeats 8000000
abbrev ZLi:=List Int
abbrev ZPi:=Int×Int
theorem qX{c:Prop}{h:Decidable c}(g:c){l:Sort u}{t e:l}:ite c t e=t:=if_pos g
theorem qY{c:Prop}{h:Decidable c}(g:Not c){l:Sort u}{t e:l}:ite c t e=e:=if_neg g
theorem wX{p:Prop}[i:Decidable p](h:p):decide p=true:=decide_eq_true h
theorem wY{p:Prop}[i:Decidable p](h:Not p):decide p=false:=decide_eq_false h
theorem zX{a b:Prop}(h:a)(n:Not a):b:=absurd h n
noncomputable section
open Array renaming append_assoc->am,back?->qZ,getD->NF,getD_eq_getD_getElem?->Eb,getElem?_eq_getElem->B1,getElem?_eq_none->EC,getElem?_eq_some_iff->DV,getElem?_setIfInBounds_ne->Oy,getElem?_toList->Cz,length_toList->Az,mem_extract_iff_getElem->P5,mem_of_getElem?->Cy,mem_toList_iff->BD,perm_iff_toList_perm->Co,size_map->il,toList->mW,toList_append->Al,toList_inj->dW,toList_map->D3,toList_modify->ZY,toList_push->Ea,toList_reverse->Eu,toList_setIfInBounds->SR
open Array.Perm renaming refl->E3
open Bool renaming and_eq_true->Bv,and_eq_true_iff->Lq,eq_false_or_eq_true->Vq,false_eq_true->C3,false_ne_true->Af,false_or->mV,not_eq_true'->GM,or_eq_true->R8,or_false->Vp,true_and->mU
open False renaming elim->Dv
open ForInStep renaming yield->Gr
open Int renaming ediv_one->qw,emod_lt_of_pos->dR,emod_nonneg->lR,fdiv_eq_ediv_of_nonneg->UF,le_antisymm->lQ,ne_of_gt->qv,toNat_natCast->CZ
open List renaming Perm->DD,all_cons->Vn,all_eq_true->BU,all_map->Ov,any_cons->EU,any_eq_false->dO,any_eq_true->G0,any_toArray->Jy,append_assoc->Bj,append_nil->Bt,contains_iff_mem->X3,drop_drop->lP,drop_eq_getElem_cons->Ic,drop_eq_nil_of_le->Xi,drop_zero->TD,eq_nil_of_length_eq_zero->HA,ext_getElem?->Eg,extract->Ou,filterMap_cons->M5,filterMap_map->cx,find?_cons->CL,find?_eq_none->cw,findIdx?_eq_some_iff_getElem->OE,forIn_cons->KY,forIn_nil->Lp,getElem?_append_left->AM,getElem?_append_right->Aj,getElem?_cons_succ->Jx,getElem?_drop->B4,getElem?_eq_getElem->An,getElem?_eq_none->BZ,getElem?_eq_none_iff->Cw,getElem?_eq_some_iff->AH,getElem?_map->Ak,getElem?_range->HJ,getElem?_replicate->DC,getElem?_set->GK,getElem?_set_ne->BI,getElem?_set_self->CS,getElem?_take_of_lt->Vm,getElem?_zipIdx->ZU,getElem_inj->P4,getElem_mem->Jw,getElem_toArray->ZT,length->Ln,length_append->Ai,length_cons->A0,length_drop->FD,length_eraseIdx_of_lt->TC,length_map->AT,length_nil->Fh,length_range->dN,length_replicate->LD,length_set->Do,length_take->D4,lookup->G9,lookup_cons->CQ,map->Lm,mapM_toArray->dM,map_append->DG,map_congr_left->DK,map_cons->A2,map_filterMap->cu,map_id->qq,map_map->Cq,map_nil->Xh,mem_append->Bg,mem_append_left->Du,mem_append_right->BG,mem_cons->Ax,mem_cons_of_mem->Ab,mem_cons_self->Am,mem_filter->iZ,mem_filterMap->cr,mem_iff_getElem->E2,mem_map->B3,mem_of_getElem?->C6,mem_reverse->iF,mem_singleton->A1,nodup_cons->KW,not_mem_nil->DR,of_mem_zip->R7,pairwise_append->Bi,pairwise_cons->N6,pairwise_iff_getElem->UD,pairwise_lt_range->Xg,pairwise_map->Cp,pairwise_reverse->LC,pairwise_singleton->Jv,perm_append_comm->X1,range->CV,range_succ_eq_map->Xf,rel_of_pairwise_cons->UC,replicate->BF,set_append_right->X0,singleton_append->Gq,size_toArray->Ad,take_add_one->Ot,take_append_drop->Gp,take_of_length_le->CP,zipIdx_nil->iY,zip_cons_cons->N5,zip_nil_left->dL,zip_nil_right->cq
open List.Pairwise renaming cons->SM,drop->qu,filterMap->qt,nil->TF,take->qr
open List.Perm renaming append_left->F8,append_right->SL,swap->aj
open List.cons renaming inj->Hw
open Nat renaming add_le_add_left->BP,add_mul->uJ,add_zero->qp,le_add_right->DU,le_of_ble_eq_true->ZS,le_of_eq->Xy,le_of_lt->KU,le_of_not_lt->QV,le_of_succ_le->PV,le_refl->AN,le_succ->EJ,le_succ_of_le->PU,le_trans->Ap,lt_irrefl->CN,lt_of_le_of_lt->BW,lt_of_lt_of_le->Aa,lt_succ_of_lt->CD,lt_succ_self->Bx,lt_trans->PR,min_eq_left->SK,min_eq_right->iX,ne_of_gt->DO,ne_of_lt->Ae,not_lt->Bd,not_lt_zero->lO,sub_self->Xx,succ_le_succ->iW,succ_ne_self->QU,zero_add->FE,zero_le->Bk
open Nat.succ renaming inj->G8
open Ne renaming symm->Bo
open Option renaming bind_eq_some_iff->UB,bind_some->cp,getD_none->cn,getD_some->ck,isSome_iff_exists->Ib,isSome_map->IM,isSome_some->ZR,map->ZQ,map_eq_some_iff->Vl
open Option.some renaming inj->CB
open Or renaming inl->Ia,inr->Hs
open Prod.mk renaming inj->Vy
open PyProof renaming noPylong_small->UA
open PyProof.Rows renaming AllBare->Ht,IntsAre->R6,IsTup->cy,Keyed->A8,SortKind->LV,SortSt->A6,Subscript_->mN,arrOf->AY,boot_all->uI,boot_int->uH,boot_isinstance->uG,boot_list->uF,boot_max->uE,boot_min->QT,boot_range->Xs,boot_set->uD,boot_sorted->uC,boot_str->uB,boot_sum->uA,boot_tuple->PQ,callWith_builtin1->Ll,callWith_type1->Bc,elem'_eq->iQ,entry_list_sort->t0,envOfC->MM,failedOf->GB,firstMet->Fg,firstMet_length_le->mL,firstOfTuple'->ae,general'->Hv,get?_update_seq->tz,len_partsBetween->t9,listItems_at->dD,listUpdate_at->Hq,list_sort_plain->tw,ltAt'->qN,lt_int->t8,mirror->QO,mirror_perm->Vh,pairsOf->Fe,pairsOf_size->Ih,pendingOf->AW,reverseSlice'->P3,reverseSlice'_eq->LS,seqEpoch_at->KN,seqObj->DX,slot_tuple_getitem->FT,sortedHeap->MD,split_le->t7,split_pos->t6,step_dedup->mI,subscriptTail->aY,subscriptTail_builtinR->dC,tuples'->qJ,wpS_bind->AX,wpS_forRange->Cf,wpS_get->Ec,wpS_modify->Cv,wpS_mono->Er,wpS_pure->Ac
open PyProof.Rows.F renaming entry_set_update_loop->ZW,plain_set_update_loop->KZ
open PyProof.Rows.IntsAre renaming int_at->KA
open PyProof.Rows.IsTup renaming new->dQ
open PyProof.Rows.SortSt renaming mk'->DQ
open PySem renaming Addr->AR,Around->BX,BindsTo->Xk,DictEntry->Ow,FuncData->Hx,Heap->Bu,IsEnum->JI,IsPart->UE,IsRange->qT,IsRangeIter->ic,ItemsOf->qS,JoinOk->dP,Keyword->KO,Model->Xz,NameKind->OD,Paired->FO,PassesOwn->Os,Program->BJ,Result->mP,Scope->SH,SetTable->Et,Shared->AK,Stmt->Bw,Value->AG,Walks->iT,Within->Vx,World->Bs,argBest->Hr,argsOk->dG,assign->mM,assignEach->Ed,atKey->Xt,attributeBase->Da,backTo->CT,backToKw->FN,behindInMarks->CC,binaryOp->Cd,bindArgs->iS,bindC->cc,bindL->cb,bootBuiltins->Ff,boot_len->iV,builtinLookup_eq_fast->iD,builtinsNs->Xr,cLine->Dm,call->ah,callWith->iR,call_meets->QP,callerA->SG,cellsFrom->B7,checkBuiltinCall->qj,check_set_init_1->qi,codeAny->FB,codeAny_builtin->B0,codeAny_call_builtin->FM,codeAny_mono->DY,codeAny_of_tree->IK,collect->dF,compareOp->BH,concat_meets->dE,drawOrder->qh,entryFor->iP,eval->BQ,firstArgMember->OB,fits_of_scanBound->SF,foldedSetIterable->FA,getItem->MK,getMethod->cZ,holding->MH,intKind->G1,intKind_is->mK,intText?->SI,isSubtype->Oq,isSubtype_stop->JG,isSubtype_type->FL,isTrue->Xq,keywordEach->DH,letOwnedTupleGo->M3,mainGlobals->Av,mem_of_lookup->DI,model->AU,newFields->qg,newFunctionEnv->Xp,noFill_tuple_add->T5,noteFrame->qf,pickOrder->Op,plainId_quiet->DB,preSum->mJ,pushCells->Fd,pushCells_keeps->Vv,pyIter->MF,pyNext->Fk,rawInt->Dl,relabel->Ig,relayAll->OA,richCompare->iN,scanBound->Gf,seqIndex_of->iM,seq_tuple_add->aa,setItem->qM,setsByText->Xo,signature?_of->aZ,sizeLine_eq->iL,sliceBounds->Hu,slotArgs->Xn,slot_list_getitem->qL,spliced->qK,standAt->XZ,starEach->AO,storeName->qe,strValues->cY,subscripted->Vg,swapsWith->Fc,sysModules->DM,truthy->mH,tupleKind->T4,tupleKind_room_in1->JF,typeIs_str->QN,typeLookup->mG,typeLookup_type->tt,valueAt->SD,wants->qI,weight_type_call_type->M9,wpAny->AZ,wpAny_Call_Name_kw->C9,wpAny_Dict_empty->qd,wpAny_Name->mF,wpAny_askSetting->Fb,wpAny_assign_Name->qH,wpAny_attempt->DA,wpAny_bind->AA,wpAny_call->JE,wpAny_callSpecial?_slot->BN,wpAny_call_entry->BM,wpAny_comprehension_free->aX,wpAny_dictEntries->SA,wpAny_dictEpoch->Vu,wpAny_eqBool_int->qc,wpAny_execs_cons->qb,wpAny_execs_nil->IJ,wpAny_field->C2,wpAny_fieldsOf->EK,wpAny_handled->P2,wpAny_holding->Bq,wpAny_isInstance->Fa,wpAny_isOneOf_keyiter->M8,wpAny_isTrue_Compare1->iC,wpAny_ite_split->Vt,wpAny_letGo->Vf,wpAny_load->Xm,wpAny_loadName_cell->lL,wpAny_loadName_local->iK,wpAny_loadPart->Xl,wpAny_mono->Ci,wpAny_newList->P1,wpAny_newObj_type->A4,wpAny_nextOf_list_end->iB,wpAny_of_eq->FK,wpAny_passesOwn->Es,wpAny_pure->AC,wpAny_pyIter_enum->E9,wpAny_pyIter_keyiter->iJ,wpAny_pyIter_list->D2,wpAny_pyIter_range->mE,wpAny_pyIter_rangeiter->dB,wpAny_pyIter_slot->R9,wpAny_pyIter_tuple->Dj,wpAny_pyNext_enum_itemD->cX,wpAny_pyNext_range_end->dA,wpAny_rule->HI,wpAny_runValue->N9,wpAny_seqItems->FJ,wpAny_setEntries_of->Fj,wpAny_setField->Di,wpAny_setField_rec->JD,wpAny_setState_of->DL,wpAny_specialOf->tq,wpAny_stack_any->tm,wpAny_standAt->aW,wpAny_storeSet_of->qG,wpAny_throw->Ve,wpAny_truthy_bool->Cc,wpAny_tryCatch->N8,wpAny_typeNameOfWhole_keyiter->EX,wpAny_typeNameOf_keyiter->F9,wpAny_typeOf->MC,wpAny_updateSeq->II
open PySem.Around renaming under->Vr,under_plain->M7,under_plainId->Bh
open PySem.AutoSeq1 renaming wpAny_loadPart'->B6
open PySem.Builtin renaming bitAnd->HK,bitOr->IN,bitXor->dU
open PySem.Builtin.Dict renaming dictSlotNone->uK,showsAll->QY
open PySem.Builtin.Frozenset renaming addrOf->ik,newClass->ij,sizeOf->ii,slot0->ig,updateFrom->Ka
open PySem.Builtin.Int renaming intBits->TK
open PySem.Builtin.List renaming listExtendWith->Gi,listItems->IA,listLengthHint->NE,listSameRef->Ox
open PySem.Builtin.ObjectAttr renaming bindTo->iH
open PySem.Builtin.Range renaming rangeFitsLong->rC,rangeSize->BR,small->Dc
open PySem.Builtin.Slice renaming sliceAdjust->G2,sliceApplied->ND,sliceFields->rB,slicePartIndex->rA,slicePlaces->EO
open PySem.Builtin.SmallTypes renaming nextOf->D6
open PySem.Builtin.Str renaming occurrences->Hy,partsBetween->PY,strKind->TJ
open PySem.Builtin.Tuple renaming tupleCompareSizes->q9,tupleExact->Cu,tupleItemsOf->qz
open PySem.Calls renaming Name_function_global->SQ,callWith_builtin->V1,call_function_entry->TH,evalArgs_plain->X4,spliced_cons->NC,spliced_nil->Ie
open PySem.Challenge renaming pw_guardround_k59_questions_refused->mR,rw_guardround_k59_questions_refused->GF
open PySem.Code renaming frames->qy,isFrame->Xj,quiet_builtin->N7
open PySem.EntryCells renaming newEntry->UI
open PySem.F renaming args_dict_keyiterator_next_1->LX,args_enumerate_next_1->ZX,args_object_init_2->dS,args_str_split_2->PX,args_tuple_add_2->IL,args_tuple_iterator_next_1->UH,called_enumerate->ie,called_set->CG,called_tuple->V0,entry_dict_keyiterator_next->Lk,entry_enumerate_new->cz,entry_enumerate_next->ak,entry_min_loop->SO,entry_object_init->iG,entry_set_init->mT,entry_str_split->QX,entry_tuple_add->Ij,entry_tuple_iterator_next->Vo,entry_type_call->QW,excAttr_ValueError->QS,plainAttrs_list->TB,plainAttrs_str->T9,plain_extend_loop->R5,plain_list_iadd->S9,plain_list_iadd->lT,plain_min_loop->EB,plain_set_new->qW,plain_tuple_new->lS,slot_dict_iter->T8,slot_dict_keyiterator_next->Ca,slot_enumerate_next->HB,slot_list_index->S8,slot_set_iter->qV,slot_str_split->SN,slot_tuple_add->JH,slot_tuple_iterator_next->FF,typeCall_set_1->mS
open PySem.Heap renaming ExtBut->Ik,SameBut->Cr,get?_none_of_le->ZV,get?_push_of_some->AB,get?_push_size->AJ,get?_update_ne->M6,get?_update_other->As,get?_update_self->Ba,lt_size->AS,size_push->A9
open PySem.Heap.IsSliceOf renaming new->qU
open PySem.Heap.SameBut renaming refl->UG,update->Ce
open PySem.IsRange renaming new->Vz
open PySem.NameKind renaming cell->Cg,free->FC
open PySem.Obj renaming cls_mapFields->JC,data_mapFields->CK,isFreed_of_fields->Ef,mapFields->EZ,mapSeq->Ct,putSet->OC
open PySem.Paired renaming length->EL,snoc->Xe
open PySem.SeqAt renaming EqAt->ag
open PySem.SeqAt.EqAt renaming int_int->Vk,int_str->Vj,str_int->Vi
open PySem.SeqAt.RcAt renaming tuples->ql
open PySem.SetTable renaming below->GC,grown->EY
open PySem.SetTable.probe renaming go->iO
open PySem.Shared renaming TypeIs->iU,heap->mO
open PySem.Source renaming order->N4
open PySem.Str renaming cps_append->DZ,empty->Xa,join->C1,length_append->PN,ofString->qk
open PySem.Txt renaming join->PM,split->DF
open PySem.Value renaming bool->J9,builtin->lN,bytes->qR,float->Xv,int->Go,isInt->qQ,isInt_shape->cf,isStrOf->lM,none->B2,ref->A7,str->PL,type->Cn
open PySem.W renaming Frag->AE,InstAt->dJ,Looks->Gh,callWith_K->MP,cellsFrom_some->T7,clsIn->Gg,codeIn->QR,emptyDict->Cj,excIn->iE,findIn->CF,findObj->cj,fnOf->HF,handedIn->ai,hasDictIn->NB,hideAll->Ju,hideAll_get->Xd,hideAll_none->KS,instObj->Db,isFn->T6,kdu_collect->Xc,keepIn->Ee,kia_one->CI,kitOne->Dy,kitx_dict->ZP,kitx_list->ZO,lookIn->KR,looks_findIn->KQ,looks_subIn->Xb,makesIn->ci,methodObj->NA,mg_none_of->DN,mg_of->LU,mroIn->Lj,nsOkIn->QQ,of_hideAll->MN,plainGet->Ii,plainGet_of->LW,plainOver->ZN,specialIn->ZM,subIn->SJ,tail_of_in->Xw,takerIn->PP,takesIn->cg,typeIn->dI
open PySem.W.Looks renaming here->qo,ld->qm
open PySem.W.WData renaming int->t4
open PySem.W.WShape renaming has->qP
open PySem.Walks renaming list->af,range->qO,tuple->Xu
open PySem.Within renaming cons->t5
open PySem.pickOrder renaming go->SE
open StateT renaming run_pure->dH
open Sum renaming inl->M4,inr->KP
open Sum.inr renaming inj->Vw
open True renaming intro->EI
open PySem PySem.Spec PyProof.Rows
namespace L2
abbrev Key:=Sum Int Str
def Tj:Key->AG->Bool
 | .inl k,v=>qQ k v
 | .inr x,v=>lM x v
def keyH(w:Bs):Key->Int
 | .inl k=>hashInt k
 | .inr x=>hashStr w x
theorem C5:∀{k:Key} {v:AG},Tj k v=true->(∃i t,k=M4 i/\v=Go i t)∨(∃x t,k=KP x/\v=PL x t)
 | .inl i,v,h=>by
  obtain⟨t,e⟩:=cf (k:=i) (v:=v) h;exact .inl ⟨i,t,rfl,e⟩
 | .inr x,v,h=>by
  obtain⟨t,e⟩:=AG.isStrOf_shape (x:=x) (v:=v) h;exact .inr ⟨x,t,rfl,e⟩
theorem bi(i:Int)(t:Tok):Tj (.inl i) (.int i t)=true:=by simp[Tj,qQ]
theorem bh(x:Str)(t:Tok):Tj (.inr x) (.str x t)=true:=by simp[Tj,lM]
theorem oh(a b:Int):decide ((M4 a:Key)=M4 b)=(a==b):=by
 by_cases e:a=b
 ·subst e;simp
 ·have h:¬(M4 a:Key)=M4 b:=λq=>e (M4.inj q)
  rw[wY h];exact(beq_eq_false_iff_ne.mpr e).symm
theorem oY(a b:Str):decide ((KP a:Key)=KP b)=decide (a=b):=by
 by_cases e:a=b
 ·subst e;simp
 ·have h:¬(KP a:Key)=KP b:=λq=>e (Vw q)
  rw[wY h,wY e]
theorem og(a:Int)(b:Str):decide ((M4 a:Key)=KP b)=false:=wY (λq=>nomatch q)
theorem oZ(a:Str)(b:Int):decide ((KP a:Key)=M4 b)=false:=wY (λq=>nomatch q)
def Dx(prog:BJ)(w:Bs):PySem.KeyKind prog w Key where
 is:=Tj
 hash:=keyH w
 inj:=λv a b m hb=>by
  rcases C5 m with⟨i,t,rfl,rfl⟩ | ⟨x,t,rfl,rfl⟩
  ·rcases C5 hb with⟨j,u,rfl,e⟩ | ⟨y,u,rfl,e⟩
   ·injection e with g _;rw[g]
   ·exact nomatch e
  ·rcases C5 hb with⟨j,u,rfl,e⟩ | ⟨y,u,rfl,e⟩
   ·exact nomatch e
   ·injection e with g _;rw[g]
 byValue:=λk v h=>by
  rcases C5 h with⟨i,t,rfl,rfl⟩ | ⟨x,t,rfl,rfl⟩ <;> rfl
 pyHash:=λl h=>by
  rcases C5 l with⟨i,t,rfl,rfl⟩ | ⟨x,t,rfl,rfl⟩
  ·exact wpAny_pyHash_int h
  ·exact wpAny_pyHash_str h
 eqBool:=λo l h=>by
  rcases C5 o with⟨i,t,rfl,rfl⟩ | ⟨x,t,rfl,rfl⟩
  ·rcases C5 l with⟨j,u,rfl,rfl⟩ | ⟨y,u,rfl,rfl⟩
   ·rw[oh]at h;exact qc h
   ·rw[og]at h;exact Vj i t y u _ _ _ _ h
  ·rcases C5 l with⟨j,u,rfl,rfl⟩ | ⟨y,u,rfl,rfl⟩
   ·rw[oZ]at h;exact Vi x t j u _ _ _ _ h
   ·rw[oY]at h;exact wpAny_eqBool_str h
 «strs»:=λk x t v h=>by
  rcases C5 h with⟨i,u,rfl,e⟩ | ⟨y,u,rfl,e⟩
  ·exact nomatch e
  ·injection e with g _
   subst g
   cases v <;> rfl
theorem Wt(prog:BJ)(w:Bs)(i:Int)(t:Tok):(Dx prog w).is (.inl i) (.int i t)=true:=bi i t
theorem Ws(prog:BJ)(w:Bs)(x:Str)(t:Tok):(Dx prog w).is (.inr x) (.str x t)=true:=bh x t
inductive V where
 | non | bl (b:Bool) | int (i:Int) | str (x:Str) | byt (b:Array UInt8) | flt (b:UInt64) | ref (a:AR) | ty (n:String)
 deriving DecidableEq
def RelV:V->AG->Prop
 | .non,u=>u=B2
 | .bl b,u=>u=J9 b
 | .int i,u=>∃t,u=Go i t
 | .str x,u=>∃t,u=PL x t
 | .byt b,u=>∃t,u=qR b t
 | .flt b,u=>∃t,u=Xv b t
 | .ref a,u=>u=A7 a
 | .ty n,u=>u=Cn n
abbrev BL:List V->List AG->Prop:=FO RelV
theorem BL.length(r:BL xs us):xs.length=us.length:=EL r
theorem BL.get:∀{xs:List V} {us:List AG} {i:Nat} {x:V},BL xs us->xs[i]?=some x->∃u,us[i]?=some u/\RelV x u
 | _,_,_,_,.nil,e=>by simp at e
 | _,_,0,_,.cons r _,e=>by simp at e;subst e;exact⟨_,rfl,r⟩
 | _,_,i+1,x,.cons _ t,e=>by
  obtain⟨u,g,l⟩:=BL.get (i:=i) (x:=x) t (by simpa using e);exact⟨u,by simpa using g,l⟩
theorem BL.set(r:RelV x u):∀{xs:List V} {us:List AG} (i:Nat),BL xs us->BL (xs.set i x) (us.set i u)
 | _,_,_,.nil=>.nil
 | _,_,0,.cons _ t=>.cons r t
 | _,_,i+1,.cons q t=>.cons q (BL.set r i t)
theorem BL.append:∀{xs g:List V} {us l:List AG},BL xs us->BL g l->BL (xs++g) (us++l)
 | _,_,_,_,.nil,s=>s
 | _,_,_,_,.cons r t,s=>.cons r (BL.append t s)
theorem BL.take:∀{xs:List V} {us:List AG} (n:Nat),BL xs us->BL (xs.take n) (us.take n)
 | _,_,0,_=>.nil
 | _,_,_+1,.nil=>.nil
 | _,_,n+1,.cons r t=>.cons r (BL.take n t)
theorem BL.drop:∀{xs:List V} {us:List AG} (n:Nat),BL xs us->BL (xs.drop n) (us.drop n)
 | _,_,0,r=>r
 | _,_,_+1,.nil=>.nil
 | _,_,n+1,.cons _ t=>BL.drop n t
def Lh:Option V->Option AG->Prop
 | some v,some u=>RelV v u
 | none,none=>True
 | _,_=>False
def KV{g:Type}:List (g×V)->List (g×AG)->Prop:=FO λ(p:g×V) (q:g×AG)=>p.1=q.1/\RelV p.2 q.2
def kV:Key->V
 | .inl i=>.int i
 | .inr x=>.str x
inductive HO where
 | lst (xs:List V)
 | tup (xs:List V)
 | dK (sN:List (Key×V)) | dT (sN:List (List Key×V))
 | set (S:Int->Bool) (n:Nat)
 | ins (C dx:AR) (fs:List (Str×V))
 | own (x:AR)
 | xd (fs:List (Str×V))
 | met (f x:AR)
 | rng (lo hi:Int)
 | frz (o:Obj) (u:HO)
 | tbl (ps:Array AG)
 | ext (φ:Bu->Prop)
abbrev Hp:=AR->Option HO
def upd(H:Hp)(a:AR)(o:HO):Hp:=λb=>if b=a then some o else H b
theorem BV:upd H a o a=some o:=by unfold upd;rw[qX rfl]
theorem BC(h:b≠a):upd H a o b=H b:=by unfold upd;rw[qY h]
theorem sZ{H:Hp}{a b:AR}{o u:HO}(h:H a=some o)(h':H b=some u)(d:o≠u):a≠b:=by
 intro e;subst e;rw[h]at h';exact d (CB h')
theorem Bl{H:Hp}{a b:AR}{o:HO}(h:H a=some o)(h':H b=none):a≠b:=by
 intro e;subst e;rw[h]at h';cases h'
section
variable(P:BJ)(w:Bs)
def C8(H:Hp)(h:Bu)(a:AR):HO->Prop
 | .lst g=>g.length<=sizeLine/\∃(m:List AG) (n:Nat),BL g m/\h.get? a=some { cls:=.type "list",data:=.seq m.toArray n }
 | .tup g=>(g.length<=sizeLine/\∃o,h.get? a=some o/\o.dict=none)/\∃m:List AG,BL g m/\cy h a m.toArray
 | .dK s=>s.length<=sizeLine/\(a==DM)=false/\∃E,KV s E/\h.DictOf (Dx P w) a E
 | .dT s=>s.length<=sizeLine/\(a==DM)=false/\∃g:List (List Key×AR×AG),
   FO (λ(p:List Key×V) (q:List Key×AR×AG)=>p.1=q.1/\H q.2.1=some (.tup (p.1.map kV))/\RelV p.2 q.2.2) s g /\
   ∃o G L,h.get? a=some o/\o.ExactDict/\o.data=.dict G L/\G.toList=g.map (entryOfKey (T4 (Dx P w)))/\(g.map (·.1)).Nodup
 | .set S n=>h.SetOf (G1 P w) a S n
 | .ins C A fs=>H A=some (.own a)/\fs.length<=1000/\A≠a/\h.get? a=some (Db C A) /\
   ∃l,h.Ns1 A l/\(∀f,Lh (fs.lookup f) (l f))/\Vx l (fs.map (·.1))
 | .own _=>∃o,h.get? a=some o
 | .xd fs=>∃l,h.Ns1 a l/\∀f,Lh (fs.lookup f) (l f)
 | .rng lo N=>∃t u v,h.get? a=some { cls:=.type "range",data:=.fields #[.int lo t,.int N u,.int 1 v] }
 | .frz o u=>h.get? a=some o/\C8 H h a u
 | .tbl O=>h.get? a=some { cls:=.none,data:=.fields O }
 | .met f x=>h.get? a=some (NA (.ref f) (.ref x))
 | .ext B=>B h/\(∃o,h.get? a=some o)/\∀I J:Bu,B I->(∀o,I.get? a=some o->J.get? a=some o)->B J
def HOk(H:Hp)(h:Bu):Prop:=∀a o,H a=some o->C8 P w H h a o
end
section
variable{P:BJ}{w:Bs}{H H':Hp}{h h':Bu}{a:AR}{o:HO}
theorem C8.lt(x:C8 P w H h a o):a < h.objs.size:=by
 cases o with
 | lst g=>obtain⟨_,_,_,_,e⟩:=x;exact AS e
 | tup g=>obtain⟨_,_,_,p⟩:=x;exact p.lt
 | dK l=>obtain⟨_,_,_,_,o,_,_,e,_⟩:=x;exact AS e
 | dT l=>obtain⟨_,_,_,_,o,_,_,e,_⟩:=x;exact AS e
 | set S n=>obtain⟨o,_,_,_,e,_⟩:=x;exact AS e
 | ins C m fs=>obtain⟨_,_,_,e,_⟩:=x;exact AS e
 | own y=>obtain⟨_,e⟩:=x;exact AS e
 | xd fs=>obtain⟨_,⟨_,_,_,e,_⟩,_⟩:=x;exact AS e
 | rng lo s=>obtain⟨_,_,_,e⟩:=x;exact AS e
 | frz A u=>obtain⟨e,_⟩:=x;exact AS e
 | tbl B=>exact AS (show h.get? a=some _ from x)
 | met f y=>exact AS (show h.get? a=some _ from x)
 | ext E=>obtain⟨_,⟨_,e⟩,_⟩:=x;exact AS e
theorem FO.mapP{m s:Type}{F G:m->s->Prop}:∀{g:List m} {l:List s},FO F g l->(∀a b,F a b->G a b)->FO G g l
 | _,_,.nil,_=>.nil
 | _,_,.cons r t,f=>.cons (f _ _ r) (FO.mapP t f)
theorem C8.stay(x:C8 P w H h a o)(k:∀b u,(b=a∨H b=some (.own a))->h.get? b=some u->h'.get? b=some u)
  (ho:∀b,H b=some (.own a)->H' b=some (.own a)) (I:∀b xs,H b=some (.tup xs)->H' b=some (.tup xs)):C8 P w H' h' a o:=by
 induction o with
 | lst xs=>obtain⟨z,s,n,r,e⟩:=x;exact⟨z,s,n,r,k _ _ (.inl rfl) e⟩
 | tup xs=>obtain⟨⟨z,J,A,L⟩,s,r,g,e,c⟩:=x;exact⟨⟨z,J,k _ _ (.inl rfl) A,L⟩,s,r,g,k _ _ (.inl rfl) e,c⟩
 | dK N=>obtain⟨z,y,O,r,g,l,m,e,c⟩:=x;exact⟨z,y,O,r,g,l,m,k _ _ (.inl rfl) e,c⟩
 | dT N=>
  obtain⟨z,y,xs,r,g,l,m,e,c⟩:=x;exact⟨z,y,xs,FO.mapP r λp q z=>⟨z.1,I _ _ z.2.1,z.2.2⟩,g,l,m,k _ _ (.inl rfl) e,c⟩
 | set S n=>obtain⟨g,l,m,t,e,c⟩:=x;exact⟨g,l,m,t,k _ _ (.inl rfl) e,c⟩
 | ins C T fs=>
  obtain⟨d,z,Q,e,B,⟨E,l,m,A,c⟩,r⟩:=x;exact⟨ho _ d,z,Q,k _ _ (.inl rfl) e,B,⟨E,l,m,k _ _ (.inr d) A,c⟩,r⟩
 | own y=>obtain⟨g,e⟩:=x;exact⟨g,k _ _ (.inl rfl) e⟩
 | xd fs=>obtain⟨B,⟨E,l,m,e,c⟩,r⟩:=x;exact⟨B,⟨E,l,m,k _ _ (.inl rfl) e,c⟩,r⟩
 | rng lo U=>obtain⟨t,u,v,e⟩:=x;exact⟨t,u,v,k _ _ (.inl rfl) e⟩
 | frz g u R=>obtain⟨e,q⟩:=x;exact⟨k _ _ (.inl rfl) e,R q⟩
 | tbl G=>
  have e:h.get? a=some { cls:=.none,data:=.fields G }:=x;show h'.get? a=some { cls:=.none,data:=.fields G };exact k a _ (.inl rfl) e
 | met f y=>
  have e:h.get? a=some (NA (.ref f) (.ref y)):=x;show h'.get? a=some (NA (.ref f) (.ref y));exact k a _ (.inl rfl) e
 | ext X=>obtain⟨p,⟨o,e⟩,st⟩:=x;exact⟨st _ _ p λo q=>k _ _ (.inl rfl) q,⟨o,k _ _ (.inl rfl) e⟩,st⟩
theorem HOk.lt(x:HOk P w H h)(e:H a=some o):a < h.objs.size:=(x a o e).lt
theorem HOk.fresh(x:HOk P w H h)(e:h.objs.size<=a):H a=none:=by
 cases q:H a with
 | none=>rfl
 | some u=>exact zX (Aa (x.lt q) e) (CN _)
theorem HOk.kept(x:HOk P w H h)(k:∀b u,h.get? b=some u->h'.get? b=some u):HOk P w H h':=λa o e=>
 (x a o e).stay (λb u _ q=>k b u q) (λ_ q=>q) λ_ _ q=>q
theorem HOk.laid(x:HOk P w H h)(k:∀b u,h.get? b=some u->h'.get? b=some u)(l:h.objs.size<=a)(new:C8 P w (upd H a o) h' a o):HOk P w (upd H a o) h':=λb u e=>by
 have g:=x.fresh l
 by_cases hb:b=a
 ·subst hb;rw[BV]at e;cases e;exact new
 ·rw[BC hb]at e
  exact(x b u e).stay (λc v _ q=>k c v q) (λc q=>by rw[BC (Bl q g)];exact q) λc m q=>by rw[BC (Bl q g)];exact q
end
def Rd(H:Hp)(a:AR)(u:HO):Prop:=H a=some u∨∃o,H a=some (.frz o u)
theorem Rd.ok(r:Rd H a u)(x:HOk P w H h):C8 P w H h a u:=by
 rcases r with r | ⟨o,r⟩
 ·exact x a u r
 ·obtain⟨_,q⟩:=x a _ r
  exact q
def Mut:Option HO->Prop
 | some (.lst _)=>True
 | some (.dK _)=>True
 | some (.dT _)=>True
 | some (.set _ _)=>True
 | some (.ins _ _ _)=>True
 | some (.ext _)=>True
 | _=>False
section
variable{P:BJ}{w:Bs}{H:Hp}{h h':Bu}{x e:AR}
theorem HOk.write(ok:HOk P w H h)(l:Mut (H x))(s:e=x∨H e=some (.own x))(k:∀b u,b≠e->h.get? b=some u->h'.get? b=some u)(E:∃u,h'.get? e=some u)
  (new:C8 P w (upd H x A) h' x A):HOk P w (upd H x A) h':=λb u q=>by
 have B:∀c y,H c=some (.own y)->c≠x:=λc y r z=>by subst z;rw[r]at l;exact l
 have G:∀c m,H c=some (.tup m)->c≠x:=λc m r z=>by subst z;rw[r]at l;exact l
 by_cases hb:b=x
 ·subst hb;rw[BV]at q;cases q;exact new
 ·rw[BC hb]at q
  by_cases g:b=e
  ·have C:H b=some (.own x):=by
    rcases s with z | z
    ·exact zX (g.trans z) hb
    ·rw[g];exact z
   rw[q]at C;cases C;obtain⟨v,I⟩:=E;exact⟨v,by rw[g];exact I⟩
  ·refine(ok b u q).stay (λc v o r=>k c v ?_ r) (λc r=>by rw[BC (B c b r)];exact r) λc m r=>by rw[BC (G c m r)];exact r
   rcases o with rfl | o
   ·exact g
   ·rintro rfl
    rcases s with z | z
    ·exact B c b o z
    ·rw[o]at z;cases z;exact hb rfl
end
structure Un(fs ex:List AR)(H H':Hp)(h h':Bu):Prop where
 keep:∀b o,h.get? b=some o->H b=none->b∉fs->b∉ex->h'.get? b=some o
 slot:∀b o,h.get? b=some o->H b=none->b∈fs->b∉ex->∃sl,h'.get? b=some { o with slots:=sl }
 free:∀b o,h.get? b=some o->H b=none->b∉ex->H' b=none
 there:∀b o,h.get? b=some o->b∉ex->∃o',h'.get? b=some o'
 tups:∀b xs,H b=some (.tup xs)->H' b=some (.tup xs)
 frzs:∀b o u,H b=some (.frz o u)->H' b=some (.frz o u)
 tbls:∀b ps,H b=some (.tbl ps)->∃more,H' b=some (.tbl (ps++more))
section
variable{fs ex:List AR}{H H1:Hp}{h h1 h':Bu}{a x e:AR}{o:HO}
theorem Un.any(u:Un fs ex H H1 h h1)(q:h.get? b=some g)(n:H b=none)(l:b∉ex):∃sl,h1.get? b=some { g with slots:=sl }:=by
 by_cases hb:b∈fs
 ·exact u.slot b g q n hb l
 ·exact⟨g.slots,u.keep b g q n hb l⟩
theorem Un.kept(k:∀b u,h.get? b=some u->h'.get? b=some u):Un fs ex H H h h':=
 ⟨λb g q _ _ _=>k b g q,λb g q _ _ _=>⟨g.slots,k b g q⟩,λ_ _ _ n _=>n,λb g q _=>⟨g,k b g q⟩,λ_ _ q=>q,λ_ _ _ q=>q,λ_ l q=>⟨#[],by rw[q];simp⟩⟩
theorem Un.refl:Un fs ex H H h h:=Un.kept λ_ _ q=>q
theorem Un.laid(k:∀b u,h.get? b=some u->h'.get? b=some u)(l:h.objs.size<=a)(g:H a=none):Un fs ex H (upd H a o) h h' where
 keep:=λb u q _ _ _=>k b u q
 slot:=λb u q _ _ _=>⟨u.slots,k b u q⟩
 free:=λb u q n _=>by rw[BC (Ae (Aa (AS q) l))];exact n
 there:=λb u q _=>⟨u,k b u q⟩
 tups:=λb m q=>by rw[BC (Bl q g)];exact q
 frzs:=λb u m q=>by rw[BC (Bl q g)];exact q
 tbls:=λb s q=>⟨#[],by rw[BC (Bl q g),q];simp⟩
theorem Un.write(l:Mut (H x))(A:e=x∨H e=some (.own x))(k:∀b u,b≠e->h.get? b=some u->h'.get? b=some u)(B:∃u,h'.get? e=some u):Un fs ex H (upd H x o) h h':=by
 have s:∀b,H b=none->b≠x:=λb n z=>by subst z;rw[n]at l;exact l
 have hb:∀b,H b=none->b≠e:=λb n z=>by
  subst z
  rcases A with r | r
  ·exact s b n r
  ·rw[n]at r;cases r
 have m:∀b u,H b=some u->¬Mut (some u)->b≠x:=λb u q C z=>by subst z;rw[q]at l;exact C l
 refine⟨λb u q n _ _=>k b u (hb b n) q,λb u q n _ _=>⟨u.slots,k b u (hb b n) q⟩,λb u q n _=>by rw[BC (s b n)];exact n,λb u q _=>?_,
  λb E q=>by rw[BC (m b _ q λz=>z)];exact q,λb u E q=>by rw[BC (m b _ q λz=>z)];exact q,λb G q=>⟨#[],by rw[BC (m b _ q λz=>z),q];simp⟩⟩
 by_cases g:b=e
 ·subst g;exact B
 ·exact⟨u,k b u g q⟩
end
def trk(h:Bu)(H:Hp):List AR:=(CV h.objs.size).filter λa=>(H a).isSome
def U3(h:Bu)(H:Hp):Bu:=Ju h (trk h H)
theorem bq(h:Bu)(H:Hp):(U3 h H).objs.size=h.objs.size:=PySem.W.hideAll_size _ _
theorem gC(e:h.get? b=some o)(n:H b=none):(U3 h H).get? b=some o:=
 Xd _ e λg=>by
  have q:(H b).isSome=true:=(iZ.mp g).2;rw[n]at q;simp at q
theorem kD(e:(U3 h H).get? b=some o):h.get? b=some o/\H b=none:=by
 have g:h.get? b=some o:=MN (trk h H) e;refine⟨g,?_⟩
 cases q:H b with
 | none=>rfl
 | some x=>
  have l:b∈trk h H:=iZ.mpr ⟨List.mem_range.mpr (AS g),by simp[q]⟩;have z:(U3 h H).get? b=none:=KS (trk h H) l;rw[z]at e;cases e
structure Mod(K:AE)(mg:Str->Option AG)(base:Bu):Prop where
 kin:K.In base
 glob:base.Ns Av mg
 blt:∃mb,base.Ns Xr mb/\∀x:Str,x≠"__name__"->mb x=Ff x
 nolimit:base.NoLimit
structure Cx where
 prog:BJ
 w:Bs
 K:AE
 mg:Str->Option AG
 base:Bu
 A:BX
 N:List Str
 s₀:AK
 H₀:Hp
 env:Env
 outer:List Env
 stack:List Env
 ex:List AR
 fn:Str->Bool
 calm:Bool
 pn:List (AR×Obj)
 xe:AG->AK->Prop
def frs(l:List Env):List AR:=l.filterMap (·.frame)
abbrev Cx.fs(X:Cx):List AR:=frs X.outer
def Vis(g:SH)(x:Str):Prop:=g.names.lookup x=some .local∨g.names.lookup x=some .cell∨g.names.lookup x=some .free
def Loc(g:SH)(x:Str):Prop:=g.names.lookup x=some .local∨g.names.lookup x=some .cell
def Look(g:Env)(h:Bu)(m:Str->Option AG)(x:Str)(u:AG):Prop:=
 (g.kindOf x=some .local/\m x=some u)∨((g.kindOf x=some .cell∨g.kindOf x=some .free)/\∃c,g.cells.lookup x=some c/\h.IsCell c (some u))
structure Cx.Ok(X:Cx):Prop where
 mod:Mod X.K X.mg X.base
 kind:X.env.scope.kind=.function
 glob:X.env.globals=Av
 blt:X.env.builtins=Xr
 above:X.s₀.heap.objs.size<=X.env.locals
 inj:∀x y c,X.env.cells.lookup x=some c->X.env.cells.lookup y=some c->x=y
 has:∀x,(X.env.kindOf x=some .cell∨X.env.kindOf x=some .free)->∃c,X.env.cells.lookup x=some c
 cab:∀x c,X.fn x=true->X.env.cells.lookup x=some c->X.s₀.heap.objs.size<=c
 hd:X.calm=true->X.A.handled=none
 frames:X.A.frames=some X.stack
 stk:X.stack=X.outer∨(X.stack=X.env :: X.outer/\X.env.frame=some X.env.locals)
 exf:∀b∈X.ex,b≠X.env.locals/\∀x c,X.env.cells.lookup x=some c->c≠b
 bs:∀b o,X.base.get? b=some o->X.s₀.heap.get? b=some o/\X.H₀ b=none
 bsz:X.base.objs.size<=X.s₀.heap.objs.size
 noex:∀b o,X.base.get? b=some o->b∉X.ex
 exfs:∀b∈X.ex,b∉X.fs
 funs:X.s₀.heap.FunFrames X.base X.outer
 frf:∀b∈X.fs,X.H₀ b=none
structure Inv(X:Cx)(ζ:List (AR×Obj))(σ:List (Option V))(H:Hp)(s:AK):Prop where
 ok:X.Ok
 os:s.os=X.s₀.os
 bare:Ht s.gens
 base:Un X.fs X.ex X.H₀ H X.s₀.heap s.heap
 loc:∃m,s.heap.Ns X.env.locals m/\∀(i:Nat) (x:Str) (v:V),X.N[i]?=some x->σ[i]?=some (some v)->Vis X.env.scope x->∃u,RelV v u/\Look X.env s.heap m x u
 cell:∀x c,X.env.cells.lookup x=some c->∃v,s.heap.IsCell c v
 free:H X.env.locals=none
 freeC:∀x c,X.env.cells.lookup x=some c->H c=none
 pin:∀p∈X.pn++ζ,s.heap.get? p.1=some p.2/\H p.1=none/\p.1≠X.env.locals/\p.1∉X.fs/\∀v,p.2.data≠.cell v
 hok:HOk X.prog X.w H s.heap
 len:σ.length=X.N.length
section
variable{X:Cx}{ζ:List (AR×Obj)}{σ:List (Option V)}{H H':Hp}{s:AK}{h':Bu}
theorem Cx.Ok.nofr(ok:X.Ok)(e:X.base.get? b=some o):b∉X.fs:=λhb=>by
 have:=(ok.funs.mem hb).1;rw[e]at this;cases this
theorem Inv.bs(I:Inv X ζ σ H s):∀b o,X.base.get? b=some o->s.heap.get? b=some o/\H b=none:=λb o e=>
 ⟨I.base.keep b o (I.ok.bs b o e).1 (I.ok.bs b o e).2 (I.ok.nofr e) (I.ok.noex b o e),I.base.free b o (I.ok.bs b o e).1 (I.ok.bs b o e).2 (I.ok.noex b o e)⟩
theorem Inv.bk(I:Inv X ζ σ H s):∀b o,X.base.get? b=some o->s.heap.get? b=some o:=λb o e=>(I.bs b o e).1
theorem Inv.mod(I:Inv X ζ σ H s):Mod X.K X.mg X.base:=I.ok.mod
theorem Inv.kIn(I:Inv X ζ σ H s):X.K.In s.heap:=I.ok.mod.kin.keeps I.bk
theorem Inv.lt(I:Inv X ζ σ H s):X.env.locals < s.heap.objs.size:=let ⟨_,g,_⟩:=I.loc;g.lt
theorem Inv.sz(I:Inv X ζ σ H s):X.s₀.heap.objs.size<=s.heap.objs.size:=Ap I.ok.above (KU I.lt)
theorem Inv.nofs(I:Inv X ζ σ H s)(h:s.heap.objs.size<=a):a∉X.fs:=λhb=>by
 obtain⟨_,o,g,_⟩:=I.ok.funs.mem hb;exact zX (Aa (AS g) (Ap I.sz h)) (CN _)
theorem Inv.cne(I:Inv X ζ σ H s):∀x c,X.env.cells.lookup x=some c->c≠X.env.locals:=λx c e z=>by
 obtain⟨v,o,g,l⟩:=I.cell x c e;obtain⟨m,⟨C,E,G,A,B,_⟩,_⟩:=I.loc;rw[z,A]at g;cases g;rw[B]at l;cases l
theorem Inv.funs(I:Inv X ζ σ H s):s.heap.FunFrames X.base X.outer:=by
 have all:∀(l:List Env),(∀b∈frs l,b∈X.fs)->X.s₀.heap.FunFrames X.base l->s.heap.FunFrames X.base l:=by
  intro l
  induction l with
  | nil=>intro _ _;trivial
  | cons B r C=>
   intro A E;obtain⟨G,⟨L,o,g,J,N,O⟩,P⟩:=E;have m:L∈X.fs:=A L (by unfold frs;rw[M5,g];exact Am)
   obtain⟨sl,e⟩:=I.base.slot L o N (I.ok.frf L m) m λz=>I.ok.exfs L z m
   exact⟨G,⟨L,_,g,J,e,O⟩,C (λb hb=>A b (by unfold frs;rw[M5,g];exact Ab _ hb)) P⟩
 exact all X.outer (λ_ hb=>hb) I.ok.funs
theorem Inv.stack(I:Inv X ζ σ H s):s.heap.FunFrames X.base X.stack:=by
 rcases I.ok.stk with e | ⟨e,g⟩
 ·rw[e];exact I.funs
 ·rw[e]
  obtain⟨m,l,_⟩:=I.loc;refine .cons (by rw[I.ok.kind];decide) g l ?_ I.funs;exact ZV (Ap I.ok.bsz I.ok.above)
theorem Inv.stkSub(I:Inv X ζ σ H s):∀b∈frs X.stack,b∈X.env.locals :: X.fs:=λb hb=>by
 rcases I.ok.stk with e | ⟨e,g⟩
 ·rw[e]at hb;exact Ab _ hb
 ·rw[e]at hb
  unfold frs at hb;rw[M5,g]at hb;exact hb
theorem Inv.stkFree(I:Inv X ζ σ H s):∀b∈frs X.stack,H b=none:=λb hb=>by
 rcases Ax.mp (I.stkSub b hb)with e | hb
 ·rw[e];exact I.free
 ·obtain⟨_,o,g,_⟩:=I.ok.funs.mem hb
  exact I.base.free b o g (I.ok.frf b hb) λz=>I.ok.exfs b z hb
theorem Inv.step{g':Array GenState}{t':Nat}{d':Drawn}{ch:List AR}(I:Inv X ζ σ H s)
  (E:∀b∈ch,(b∈X.ex∨X.s₀.heap.objs.size<=b)/\b≠X.env.locals/\(∀x c,X.env.cells.lookup x=some c->c≠b)/\∀p∈X.pn++ζ,p.1≠b)
  (keep:∀b o,b≠X.env.locals->b∉X.fs->b∉ch->s.heap.get? b=some o->H b=none->h'.get? b=some o)
  (slot:∀b o,b≠X.env.locals->b∈X.fs->b∉ch->s.heap.get? b=some o->H b=none->∃sl,h'.get? b=some { o with slots:=sl }) (free:∀b o,b∉ch->s.heap.get? b=some o->H b=none->H' b=none)
  (there:∀b o,b∉ch->s.heap.get? b=some o->∃G,h'.get? b=some G)
  (J:∀b xs,H b=some (.tup xs)->H' b=some (.tup xs)) (L:∀b o u,H b=some (.frz o u)->H' b=some (.frz o u)) (N:∀b Q,H b=some (.tbl Q)->∃more,H' b=some (.tbl (Q++more)))
  (ns:∀m,s.heap.Ns X.env.locals m->h'.Ns X.env.locals m) (S:HOk X.prog X.w H' h') (hg:Ht g') :
  Inv X ζ σ H' { s with heap:=h',gens:=g',drawn:=d',toks:=t' }:=by
 have U:∀b o,X.s₀.heap.get? b=some o->b≠X.env.locals:=λb o e=>Ae (Aa (AS e) I.ok.above)
 have R:∀b o,X.s₀.heap.get? b=some o->b∉X.ex->b∉ch:=λb o e g hb=>by
  rcases(E b hb).1 with z | z
  ·exact g z
  ·exact zX (Aa (AS e) z) (CN _)
 have A:∀x c,X.env.cells.lookup x=some c->∀v,s.heap.IsCell c v->h'.IsCell c v:=by
  rintro x c e v ⟨o,C,T⟩
  have O:c∉ch:=λz=>(E c z).2.2.1 x c e rfl
  by_cases Y:c∈X.fs
  ·obtain⟨sl,q⟩:=slot c o (I.cne x c e) Y O C (I.freeC x c e)
   exact⟨_,q,T⟩
  ·exact⟨o,keep c o (I.cne x c e) Y O C (I.freeC x c e),T⟩
 refine⟨I.ok,I.os,hg,⟨λb o e n hb g=>?_,λb o e n hb g=>?_,λb o e n g=>?_,λb o e g=>?_,λb xs e=>J b xs (I.base.tups b xs e),λb o xs e=>L b o xs (I.base.frzs b o xs e),λb Q e=>?_⟩,?_,λx c e=>?_,?_,λx c e=>?_,λp Z=>?_,S,I.len⟩
 ·exact keep b o (U b o e) hb (R b o e g) (I.base.keep b o e n hb g) (I.base.free b o e n g)
 ·obtain⟨sl,B⟩:=I.base.slot b o e n hb g
  obtain⟨yx,P⟩:=slot b _ (U b o e) hb (R b o e g) B (I.base.free b o e n g);exact⟨yx,P⟩
 ·obtain⟨G,B⟩:=I.base.there b o e g
  exact free b G (R b o e g) B (I.base.free b o e n g)
 ·obtain⟨G,B⟩:=I.base.there b o e g
  exact there b G (R b o e g) B
 ·obtain⟨m1,B⟩:=I.base.tbls b Q e
  obtain⟨m2,P⟩:=N b _ B;exact⟨m1++m2,by rw[P,am]⟩
 ·obtain⟨m,hn,hl⟩:=I.loc
  refine⟨m,ns m hn,λi x v B P e3=>?_⟩;obtain⟨u,r,l⟩:=hl i x v B P e3;refine⟨u,r,?_⟩
  rcases l with l | ⟨k,c,e,z⟩
  ·exact .inl l
  ·exact .inr ⟨k,c,e,A x c e _ z⟩
 ·obtain⟨v,z⟩:=I.cell x c e
  exact⟨v,A x c e v z⟩
 ·obtain⟨m,⟨o,_,_,C,_⟩,_⟩:=I.loc
  exact free _ o (λz=>(E _ z).2.1 rfl) C I.free
 ·obtain⟨v,o,C,T⟩:=I.cell x c e
  exact free c o (λz=>(E c z).2.2.1 x c e rfl) C (I.freeC x c e)
 ·obtain⟨e,n,ne,nf,d⟩:=I.pin p Z
  have O:p.1∉ch:=λz=>(E p.1 z).2.2.2 p Z rfl
  exact⟨keep p.1 p.2 ne nf O e n,free p.1 p.2 O e n,ne,nf,d⟩
theorem Inv.stepN{g':Array GenState}{t':Nat}{d':Drawn}{ch:List AR}(I:Inv X ζ σ H s)
  (E:∀b∈ch,(b∈X.ex∨X.s₀.heap.get? b=none)/\b≠X.env.locals/\(∀x c,X.env.cells.lookup x=some c->c≠b)/\∀p∈X.pn++ζ,p.1≠b)
  (keep:∀b o,b≠X.env.locals->b∉X.fs->b∉ch->s.heap.get? b=some o->H b=none->h'.get? b=some o)
  (slot:∀b o,b≠X.env.locals->b∈X.fs->b∉ch->s.heap.get? b=some o->H b=none->∃sl,h'.get? b=some { o with slots:=sl }) (free:∀b o,b∉ch->s.heap.get? b=some o->H b=none->H' b=none)
  (there:∀b o,b∉ch->s.heap.get? b=some o->∃G,h'.get? b=some G)
  (J:∀b xs,H b=some (.tup xs)->H' b=some (.tup xs)) (L:∀b o u,H b=some (.frz o u)->H' b=some (.frz o u)) (N:∀b Q,H b=some (.tbl Q)->∃more,H' b=some (.tbl (Q++more)))
  (ns:∀m,s.heap.Ns X.env.locals m->h'.Ns X.env.locals m) (S:HOk X.prog X.w H' h') (hg:Ht g') :
  Inv X ζ σ H' { s with heap:=h',gens:=g',drawn:=d',toks:=t' }:=by
 have U:∀b o,X.s₀.heap.get? b=some o->b≠X.env.locals:=λb o e=>Ae (Aa (AS e) I.ok.above)
 have R:∀b o,X.s₀.heap.get? b=some o->b∉X.ex->b∉ch:=λb o e g hb=>by
  rcases(E b hb).1 with z | z
  ·exact g z
  ·rw[z]at e;cases e
 have A:∀x c,X.env.cells.lookup x=some c->∀v,s.heap.IsCell c v->h'.IsCell c v:=by
  rintro x c e v ⟨o,C,T⟩
  have O:c∉ch:=λz=>(E c z).2.2.1 x c e rfl
  by_cases Y:c∈X.fs
  ·obtain⟨sl,q⟩:=slot c o (I.cne x c e) Y O C (I.freeC x c e)
   exact⟨_,q,T⟩
  ·exact⟨o,keep c o (I.cne x c e) Y O C (I.freeC x c e),T⟩
 refine⟨I.ok,I.os,hg,⟨λb o e n hb g=>?_,λb o e n hb g=>?_,λb o e n g=>?_,λb o e g=>?_,λb xs e=>J b xs (I.base.tups b xs e),λb o xs e=>L b o xs (I.base.frzs b o xs e),λb Q e=>?_⟩,?_,λx c e=>?_,?_,λx c e=>?_,λp Z=>?_,S,I.len⟩
 ·exact keep b o (U b o e) hb (R b o e g) (I.base.keep b o e n hb g) (I.base.free b o e n g)
 ·obtain⟨sl,B⟩:=I.base.slot b o e n hb g
  obtain⟨yx,P⟩:=slot b _ (U b o e) hb (R b o e g) B (I.base.free b o e n g);exact⟨yx,P⟩
 ·obtain⟨G,B⟩:=I.base.there b o e g
  exact free b G (R b o e g) B (I.base.free b o e n g)
 ·obtain⟨G,B⟩:=I.base.there b o e g
  exact there b G (R b o e g) B
 ·obtain⟨m1,B⟩:=I.base.tbls b Q e
  obtain⟨m2,P⟩:=N b _ B;exact⟨m1++m2,by rw[P,am]⟩
 ·obtain⟨m,hn,hl⟩:=I.loc
  refine⟨m,ns m hn,λi x v B P e3=>?_⟩;obtain⟨u,r,l⟩:=hl i x v B P e3;refine⟨u,r,?_⟩
  rcases l with l | ⟨k,c,e,z⟩
  ·exact .inl l
  ·exact .inr ⟨k,c,e,A x c e _ z⟩
 ·obtain⟨v,z⟩:=I.cell x c e
  exact⟨v,A x c e v z⟩
 ·obtain⟨m,⟨o,_,_,C,_⟩,_⟩:=I.loc
  exact free _ o (λz=>(E _ z).2.1 rfl) C I.free
 ·obtain⟨v,o,C,T⟩:=I.cell x c e
  exact free c o (λz=>(E c z).2.2.1 x c e rfl) C (I.freeC x c e)
 ·obtain⟨e,n,ne,nf,d⟩:=I.pin p Z
  have O:p.1∉ch:=λz=>(E p.1 z).2.2.2 p Z rfl
  exact⟨keep p.1 p.2 ne nf O e n,free p.1 p.2 O e n,ne,nf,d⟩
theorem Inv.un{t':Nat}(I:Inv X ζ σ H s)(u:Un X.fs [] H H' s.heap h')(g:HOk X.prog X.w H' h'):Inv X ζ σ H' { s with heap:=h',toks:=t' }:=by
 obtain⟨m,⟨o,L,N,l,r⟩,_⟩:=id I.loc;obtain⟨sl,B⟩:=u.any l I.free (by simp)
 exact I.step (g':=s.gens) (d':=s.drawn) (ch:=[]) (λ_ z=>nomatch z) (λb o _ hb _ e n=>u.keep b o e n hb (by simp)) (λb o _ hb _ e n=>u.slot b o e n hb (by simp)) (λb o _ e n=>u.free b o e n (by simp)) (λb o _ e=>u.there b o e (by simp)) u.tups u.frzs u.tbls (λO C=>by
  obtain⟨P,E,G,A,J⟩:=C;rw[l]at A;cases A
  exact⟨_,E,G,B,J⟩) g I.bare
theorem Inv.call{g':Array GenState}{t':Nat}{d':Drawn}{ch:List AR}(I:Inv X ζ σ H s)(u:Un (frs X.stack) ch H H' s.heap h')(l:HOk X.prog X.w H' h')(G:Ht g')
  (B:∀b∈ch,(b∈X.ex∨X.s₀.heap.objs.size<=b)/\b≠X.env.locals/\(∀x c,X.env.cells.lookup x=some c->c≠b)/\∀p∈X.pn++ζ,p.1≠b) :
  Inv X ζ σ H' { s with heap:=h',gens:=g',drawn:=d',toks:=t' }:=by
 obtain⟨m,⟨o,P,Q,C,r⟩,_⟩:=id I.loc
 obtain⟨sl,A⟩:=u.any C I.free λz=>(B _ z).2.1 rfl
 exact I.step (ch:=ch) B (λb o A hb g e n=>u.keep b o e n (λz=>(Ax.mp (I.stkSub b z)).elim A hb) g) (λb o _ _ g e n=>u.any e n g) (λb o g e n=>u.free b o e n g) (λb o g e=>u.there b o e g) u.tups u.frzs u.tbls (λR J=>by
  obtain⟨S,L,N,E,O⟩:=J;rw[C]at E;cases E
  exact⟨_,L,N,A,O⟩) l G
theorem Inv.turned{t':Nat}{it:AR}(I:Inv X ζ σ H s)(k:∀b o,b≠it->s.heap.get? b=some o->h'.get? b=some o)(B:H it=none)(l:it≠X.env.locals)
  (C:it∈X.ex∨X.s₀.heap.objs.size<=it) (E:∀x c,X.env.cells.lookup x=some c->c≠it) (G:∀p∈X.pn++ζ,p.1≠it):Inv X ζ σ H { s with heap:=h',toks:=t' }:=by
 have A:∀b u,H b=some u->b≠it:=λb u e z=>by rw[z,B]at e;cases e
 refine I.step (g':=s.gens) (d':=s.drawn) (ch:=[it]) (λb hb=>?_) (λb o _ _ g e _=>k b o (λz=>g (by simp[z])) e) (λb o _ _ g e _=>⟨o.slots,k b o (λz=>g (by simp[z])) e⟩) (λ_ _ _ _ n=>n)
  (λb o g e=>⟨o,k b o (λz=>g (by simp[z])) e⟩) (λ_ _ e=>e) (λ_ _ _ e=>e) (λb P e=>⟨#[],by rw[e];simp⟩) (λm J=>?_) (λb u e=>?_) I.bare
 ·have e:b=it:=by simpa using hb
  subst e;exact⟨C,l,E,G⟩
 ·obtain⟨o,L,N,O,r⟩:=J
  exact⟨o,L,N,k _ o (Bo l) O,r⟩
 ·refine(I.hok b u e).stay (λc v g q=>k c v ?_ q) (λ_ q=>q) λ_ _ q=>q
  rcases g with z | z
  ·rw[z];exact A b u e
  ·exact A c _ z
theorem Inv.tok(I:Inv X ζ σ H s)(t:Nat):Inv X ζ σ H { s with toks:=t }:=I.un (h':=s.heap) (t':=t) Un.refl I.hok
theorem Inv.kept(I:Inv X ζ σ H s)(k:∀b u,s.heap.get? b=some u->h'.get? b=some u):Inv X ζ σ H { s with heap:=h',toks:=t' }:=I.un (Un.kept k) (I.hok.kept k)
theorem Inv.laid(I:Inv X ζ σ H s)(k:∀b u,s.heap.get? b=some u->h'.get? b=some u)(g:s.heap.objs.size<=a)(new:C8 X.prog X.w (upd H a o) h' a o) :
  Inv X ζ σ (upd H a o) { s with heap:=h',toks:=t' }:=I.un (Un.laid k g (I.hok.fresh g)) (I.hok.laid k g new)
theorem Inv.write(I:Inv X ζ σ H s)(g:Mut (H x))(l:e=x∨H e=some (.own x))(k:∀b u,b≠e->s.heap.get? b=some u->h'.get? b=some u)(m:∃u,h'.get? e=some u)
  (new:C8 X.prog X.w (upd H x o) h' x o):Inv X ζ σ (upd H x o) { s with heap:=h',toks:=t' }:=I.un (Un.write g l k m) (I.hok.write g l k m new)
theorem Inv.pins_of(I:Inv X ζ σ H s)(h:∀p∈pins',s.heap.get? p.1=some p.2/\H p.1=none/\p.1≠X.env.locals/\p.1∉X.fs/\∀v,p.2.data≠.cell v):Inv X pins' σ H s:=
 ⟨I.ok,I.os,I.bare,I.base,I.loc,I.cell,I.free,I.freeC,λp g=>(Bg.mp g).elim (λz=>I.pin p (Du _ z)) (h p),I.hok,I.len⟩
theorem Wp{N:List Str}(g:N.Nodup){i j:Nat}{x:Str}(a:N[i]?=some x)(b:N[j]?=some x):i=j:=by
 obtain⟨o,l⟩:=AH.mp a;obtain⟨A,m⟩:=AH.mp b;exact(P4 g).mp (l.trans m.symm)
theorem TU{M:Xz}{A:BX}{E:AG->AK->Prop}{i:Nat}{x:Str}{v:V}{u:AG}{Q:Unit->AK->Prop}(I:Inv X ζ σ H s)(hN:X.N.Nodup)(hi:X.N[i]?=some x)(G:Loc X.env.scope x)(r:RelV v u)
  (h:∀s',Inv X ζ (σ.set i (some v)) H s'->(∃a,Cr a s.heap s'.heap/\(a=X.env.locals∨X.env.cells.lookup x=some a))->Q () s') (hf:X.fn x=true∨X.env.scope.names.lookup x=some .local:=by first | exact .inl rfl | exact .inr rfl | assumption):AZ M A (qe X.env x u) Q E s:=by
 obtain⟨m,T,hl⟩:=id I.loc
 have Pq:(X.env.scope.kind==.class||(X.env.scope.kind==.module&&X.env.locals != X.env.globals))=false:=by rw[I.ok.kind];rfl
 have Ϯ:i < σ.length:=by rw[I.len];exact(AH.mp hi).1
 have cne:=I.cne
 have l:∀{a:AR} {h':Bu},(∃o,s.heap.get? a=some o/\H a=none)->Cr a s.heap h'->HOk X.prog X.w H h':=λ{a h'} ha g b ob e=>by
  obtain⟨_,_,xj⟩:=ha
  refine(I.hok b ob e).stay (λc w' C q=>(g.2 c ?_).trans q) (λ_ q=>q) λ_ _ q=>q
  rintro rfl
  rcases C with rfl | C
  ·rw[xj]at e;cases e
  ·rw[xj]at C;cases C
 rcases G with L | L
 ·refine wpAny_storeName_local L T (λh' vL g=>?_) Pq
  obtain⟨oL,_,_,U,_⟩:=id T;refine h _ ⟨I.ok,I.os,I.bare,⟨λb o e n hb G=>?_,λb o e n hb G=>?_,I.base.free,λb o e G=>?_,I.base.tups,I.base.frzs,I.base.tbls⟩,⟨_,vL,λj y Y B J Z=>?_⟩,λy c e=>?_,I.free,I.freeC,λp hp=>?_,l ⟨oL,U,I.free⟩ g,by simpa using I.len⟩ ⟨_,g,.inl rfl⟩
  ·exact(g.2 b (Ae (Aa (AS e) I.ok.above))).trans (I.base.keep b o e n hb G)
  ·obtain⟨sl,B⟩:=I.base.slot b o e n hb G
   exact⟨sl,(g.2 b (Ae (Aa (AS e) I.ok.above))).trans B⟩
  ·obtain⟨o',B⟩:=I.base.there b o e G
   exact⟨o',(g.2 b (Ae (Aa (AS e) I.ok.above))).trans B⟩
  ·by_cases O:j=i
   ·subst O
    rw[hi]at B;cases B;rw[CS Ϯ]at J;cases J;exact⟨u,r,.inl ⟨L,by simp⟩⟩
   ·rw[BI (Bo O)]at J
    obtain⟨u',r',q⟩:=hl j y Y B J Z;refine⟨u',r',?_⟩
    rcases q with⟨k,e⟩ | ⟨k,c,e,z⟩
    ·refine .inl ⟨k,?_⟩
     have:y≠x:=λe=>O (Wp hN B (e▸hi))
     simp[this,e]
    ·exact .inr ⟨k,c,e,z.sameBut g (cne y c e)⟩
  ·obtain⟨w',z⟩:=I.cell y c e
   exact⟨w',z.sameBut g (cne y c e)⟩
  ·obtain⟨e,n,R,nf,d⟩:=I.pin p hp
   exact⟨(g.2 p.1 R).trans e,n,R,nf,d⟩
 ·have P':X.fn x=true:=by
   rcases hf with z | z
   ·exact z
   ·rw[z]at L;cases L
  obtain⟨c,C⟩:=I.ok.has x (.inl L);obtain⟨w',z⟩:=I.cell x c C;refine wpAny_storeName_cell I.ok.kind L C z (λh' xl g=>?_);obtain⟨oc,ϯ,T'⟩:=id z;refine h { s with heap:=h' } ⟨I.ok,I.os,I.bare,⟨λb o e n hb G=>?_,λb o e n hb G=>?_,I.base.free,λb o e G=>?_,I.base.tups,I.base.frzs,I.base.tbls⟩,⟨m,T.sameBut g (Bo (cne x c C)),λj y Y B J Z=>?_⟩,λy S e=>?_,I.free,I.freeC,λp hp=>?_,l ⟨oc,ϯ,I.freeC x c C⟩ g,by simpa using I.len⟩ ⟨c,g,.inr C⟩
  ·exact(g.2 b (Ae (Aa (AS e) (I.ok.cab x c P' C)))).trans (I.base.keep b o e n hb G)
  ·obtain⟨sl,B⟩:=I.base.slot b o e n hb G
   exact⟨sl,(g.2 b (Ae (Aa (AS e) (I.ok.cab x c P' C)))).trans B⟩
  ·obtain⟨o',B⟩:=I.base.there b o e G
   exact⟨o',(g.2 b (Ae (Aa (AS e) (I.ok.cab x c P' C)))).trans B⟩
  ·by_cases O:j=i
   ·subst O
    rw[hi]at B;cases B;rw[CS Ϯ]at J;cases J;exact⟨u,r,.inr ⟨.inl L,c,C,xl⟩⟩
   ·rw[BI (Bo O)]at J
    obtain⟨u',r',q⟩:=hl j y Y B J Z;refine⟨u',r',?_⟩
    rcases q with q | ⟨k,S,e,z'⟩
    ·exact .inl q
    ·refine .inr ⟨k,S,e,z'.sameBut g ?_⟩
     rintro rfl;exact O (Wp hN B (I.ok.inj _ _ _ e C▸hi))
  ·by_cases P:S=c
   ·subst P;exact⟨_,xl⟩
   ·obtain⟨w2,z2⟩:=I.cell y S e
    exact⟨w2,z2.sameBut g P⟩
  ·obtain⟨e,n,R,nf,d⟩:=I.pin p hp
   refine⟨(g.2 p.1 ?_).trans e,n,R,nf,d⟩;intro q;rw[q,ϯ]at e;have q':oc=p.2:=CB e;exact d w' (by rw[<-q'];exact T')
theorem Qm(I:Inv X ζ σ H s)(g:X.N.Nodup)(hi:X.N[i]?=some x)(l:Loc X.env.scope x)(r:RelV v u)
  (h:∀s',Inv X ζ (σ.set i (some v)) H s'->Q () s') (m:X.fn x=true∨X.env.scope.names.lookup x=some .local:=by first | exact .inl rfl | exact .inr rfl | assumption):AZ M A (qe X.env x u) Q E s:=
 TU I g hi l r (λs' o _=>h s' o) m
theorem Inv.call'(I:Inv X ζ σ H s)(ho:s'.os=s.os)(u:Un (frs X.stack) ch H H' s.heap s'.heap)(g:HOk X.prog X.w H' s'.heap)(l:Ht s'.gens)
  (m:∀b∈ch,(b∈X.ex∨X.s₀.heap.objs.size<=b)/\b≠X.env.locals/\(∀x c,X.env.cells.lookup x=some c->c≠b)/\∀p∈X.pn++ζ,p.1≠b):Inv X ζ σ H' s':=by
 obtain⟨h',g',d',t',o⟩:=s';have e:o=s.os:=ho;subst e;exact I.call (g':=g') (t':=t') (d':=d') u g l m
end
abbrev XK:=AG->Option AR->Hp->Prop
abbrev St:=List (Option V)
abbrev VK:=V->Hp->Prop
abbrev TE:=St->Hp->VK->Prop
abbrev TT:=St->Hp->(Bool->Hp->Prop)->Prop
abbrev TA:=St->Hp->(List V->Hp->Prop)->Prop
structure cW where
 nx:St->Hp->Prop
 rt:VK
 bk:St->Hp->Prop:=λ_ _=>False
 ct:St->Hp->Prop:=λ_ _=>False
abbrev TS:=cW->St->Hp->Prop
def EP(X:Cx)(l:List (AR×Obj))(m:St)(Q:VK)(u:AG)(s':AK):Prop:=∃v g,Inv X l m g s'/\RelV v u/\Q v g
def TP(X:Cx)(l:List (AR×Obj))(m:St)(Q:Bool->Hp->Prop)(b:Bool)(s':AK):Prop:=∃g,Inv X l m g s'/\Q b g
def AP(X:Cx)(m:List (AR×Obj))(o:St)(Q:List V->Hp->Prop)(us:List AG)(s':AK):Prop:=∃g l,Inv X m o l s'/\BL g us/\Q g l
def SP(X:Cx)(m:List (AR×Obj))(D:cW)(f:Flow)(s':AK):Prop:=
 match f with
 | .next=>∃g l,Inv X m g l s'/\D.nx g l
 | .brk=>∃g l,Inv X m g l s'/\D.bk g l
 | .cont=>∃g l,Inv X m g l s'/\D.ct g l
 | .ret u=>∃v g l,Inv X m g l s'/\RelV v u/\D.rt v l
def PE(X:Cx)(e:Expr)(t:TE):Prop:=
 ∀(l:List (AR×Obj)) (s:AK) (g:St) (H:Hp) (Q:VK),Inv X l g H s->t g H Q->AZ (AU X.prog X.w) X.A (BQ e X.env) (EP X l g Q) X.xe s
def PT(X:Cx)(e:Expr)(t:TT):Prop:=
 ∀(l:List (AR×Obj)) (s:AK) (g:St) (H:Hp) (Q:Bool->Hp->Prop),Inv X l g H s->t g H Q->AZ (AU X.prog X.w) X.A (Xq e X.env (BQ e X.env)) (TP X l g Q) X.xe s
def PW(X:Cx)(e:Expr)(t:TT):Prop:=
 ∀(g:Sem AG) (m:List (AR×Obj)) (s:AK) (l:St) (H:Hp) (Q:Bool->Hp->Prop),Inv X m l H s->t l H Q->AZ (AU X.prog X.w) X.A (Xq e X.env g) (TP X m l Q) X.xe s
theorem PW.pt(h:PW X e t):PT X e t:=h _
def PA(X:Cx)(es:List Expr)(t:TA):Prop:=
 ∀(g:Pos) (m:List (AR×Obj)) (s:AK) (l:St) (H:Hp) (Q:List V->Hp->Prop),Inv X m l H s->t l H Q->AZ (AU X.prog X.w) X.A (qK (CT g (AO es X.env))) (AP X m l Q) X.xe s
def PS(X:Cx)(st:Bw)(t:TS):Prop:=
 ∀(g:List (AR×Obj)) (s:AK) (l:St) (H:Hp) (D:cW),Inv X g l H s->t D l H->AZ (AU X.prog X.w) X.A (exec st X.env) (SP X g D) X.xe s
def PSs(X:Cx)(st:List Bw)(t:TS):Prop:=
 ∀(g:List (AR×Obj)) (s:AK) (l:St) (H:Hp) (D:cW),Inv X g l H s->t D l H->AZ (AU X.prog X.w) X.A (execs st X.env) (SP X g D) X.xe s
theorem thn{g:Type}{t:Sem g}{Q l:g->AK->Prop}{M:Xz}{A:BX}{E:AG->AK->Prop}{s:AK}(h:AZ M A t Q E s)(m:∀a s,Q a s->l a s):AZ M A t l E s:=Ci h m λ_ _ x=>x
section
variable{X:Cx}
def nB(i:Nat):TE:=λg H Q=>∃v,g[i]?=some (some v)/\Q v H
def tC(v:V):TE:=λ_ H Q=>Q v H
theorem nr(C:X.N[i]?=some x)(E:Vis X.env.scope x)(o:(x==("__debug__" : Str))=false:=by decide) (G:(x==("__classdict__" : Str))=false:=by decide):PE X (.Name x pos) (nB i):=by
 intro J s L H Q I h;obtain⟨v,e,h⟩:=h;obtain⟨m,O,P⟩:=I.loc;obtain⟨u,r,l⟩:=P i x v C e E;have fin:EP X J L Q u s:=⟨v,H,I,r,h⟩
 rcases l with⟨g,R⟩ | ⟨g,c,A,B⟩
 ·exact mF (iK I.ok.kind g O R fin) o
 ·rcases g with g | g
  ·exact mF (lL I.ok.kind g A B fin) o
  ·exact mF (wpAny_loadName_free I.ok.kind g A B fin G) o
theorem fC{i j pos}:PE X (.Constant (.int i) j pos) (tC (.int i)):=λ_ _ _ H _ I h=>wpAny_Constant_int ⟨.int i,H,I.tok _,⟨_,rfl⟩,h⟩
theorem sL{b j pos}:PE X (.Constant (.bool b) j pos) (tC (.bl b)):=λ_ _ _ H _ I h=>Constant_bool ⟨.bl b,H,I,rfl,h⟩
theorem ny{j pos}:PE X (.Constant .none j pos) (tC .non):=λ_ _ _ H _ I h=>Constant_none ⟨.non,H,I,rfl,h⟩
theorem nu{x j pos}:PE X (.Constant (.str x) j pos) (tC (.str x)):=λ_ _ _ H _ I h=>Calls.Constant_str ⟨.str x,H,I.tok _,⟨_,rfl⟩,h⟩
def Gl(X:Cx)(x:Str):Prop:=X.env.kindOf x=some .globalImplicit
theorem Nf(I:Inv X o B H s)(g:Gl X x)(l:X.mg x=some u)(h:Q u s)
  (m:(x==("__debug__" : Str))=false:=by decide):AZ (AU X.prog X.w) X.A (BQ (.Name x pos) X.env) Q E s:=
 SQ I.ok.kind g (Calls.loadGlobal_global (by rw[I.ok.glob];exact I.mod.glob.keeps I.bk) l h) m
theorem G5(I:Inv X J L H s)(g:Gl X x)(l:X.mg x=none)(m:Ff x=some u)(h:Q u s)
  (o:x≠"__name__":=by decide) (B:(x==("__debug__" : Str))=false:=by decide):AZ (AU X.prog X.w) X.A (BQ (.Name x pos) X.env) Q E s:=by
 obtain⟨N,C,G⟩:=I.mod.blt;exact SQ I.ok.kind g (Calls.loadGlobal_builtin (by rw[I.ok.glob];exact I.mod.glob.keeps I.bk) l (by rw[I.ok.blt];exact C.keeps I.bk) ((G x o).trans m) h) B
theorem Ul(g:Gl X x)(l:X.mg x=some u)(r:RelV v u)(m:(x==("__debug__" : Str))=false:=by decide):PE X (.Name x pos) (tC v):=
 λ_ _ _ H _ I h=>Nf I g l ⟨v,H,I,r,h⟩ m
theorem jy(g:Gl X x)(l:X.mg x=none)(m:Ff x=some u)(r:RelV v u)(o:x≠"__name__":=by decide) (s:(x==("__debug__" : Str))=false:=by decide):PE X (.Name x pos) (tC v):=
 λ_ _ _ H _ I h=>G5 I g l m ⟨v,H,I,r,h⟩ o s
variable{a b:Expr}{ta tb:TE}{pos:Pos}
def PC(X:Cx)(op:CmpOp)(a b:Expr)(t:TE):Prop:=
 ∀(o:List (AR×Obj)) (s:AK) (m:St) (H:Hp) (Q:VK),Inv X o m H s->t m H Q ->
  AZ (AU X.prog X.w) X.A (BQ a X.env) (λv g=>AZ (AU X.prog X.w) X.A (BQ b X.env) (λu l=>AZ (AU X.prog X.w) X.A (BH op v u) (EP X o m Q) X.xe l) X.xe g) X.xe s
def tB(t:TE):TT:=λg H Q=>t g H λx l=>∃c,x=.bl c/\Q c l
theorem n9(h:PC X op a b t)(g:CC op b=false:=by first | exact nobehind _ (by decide) (by decide) | rfl):PE X (.Compare a [op] [b] pos) t:=λl s m H Q I hw=>wpAny_Compare1 (h l s m H Q I hw) g
theorem ef(h:PC X op a b t)(g:CC op b=false:=by first | exact nobehind _ (by decide) (by decide) | rfl):PT X (.Compare a [op] [b] pos) (tB t):=by
 intro l s m H Q I hw;refine iC (thn (h l s m H _ I hw) λv G g=>thn g λu J o=>thn o λc L ⟨x,A,B,C,E⟩=>?_) g;obtain⟨d,rfl,q⟩:=E;cases C;exact Cc ⟨A,B,q⟩
theorem nU(h:PE X e t)(l:∀g,Xq e X.env g=(do let v <-g;XZ e.pos;MH [v] (mH v)):=by intro _;rfl):PT X e (tB t):=by
 intro m s o H Q I hw;refine isTrue_plain (thn (h m s o H _ I hw) λv G ⟨x,A,B,C,E⟩=>?_) (l _);obtain⟨d,rfl,q⟩:=E;cases C;exact Cc ⟨A,B,q⟩
variable{tA zQ:TT}{rest:List Expr}
def rY(t u:TT):TT:=λg H Q=>t g H λc l=>if c=true then u g l Q else Q false l
def tOr(t u:TT):TT:=λg H Q=>t g H λc l=>if c=true then Q true l else u g l Q
def tNot(t:TT):TT:=λg H Q=>t g H λc l=>Q (!c) l
theorem jW(g:PT X a tA):PW X (.BoolOp .And [a] pos) tA:=by
 intro o l s m H Q I h;refine isTrue_and (thn (g l s m H Q I h) λc A e=>?_)
 cases c with
 | true=>exact isTrue_and_nil e
 | false=>exact e
theorem nR(g:PT X a tA):PW X (.BoolOp .Or [a] pos) tA:=by
 intro o l s m H Q I h;refine isTrue_or (thn (g l s m H Q I h) λc A e=>?_)
 cases c with
 | false=>exact isTrue_or_nil e
 | true=>exact e
theorem nS(B:PT X a tA)(hb:PW X (.BoolOp .And (b :: rest) pos) zQ):PW X (.BoolOp .And (a :: b :: rest) pos) (rY tA zQ):=by
 intro C g s l H Q I h;refine isTrue_and (thn (B g s l H _ I h) λc E ⟨m,o,A⟩=>?_)
 cases c with
 | true=>exact hb C g E l m Q o A
 | false=>exact⟨m,o,A⟩
theorem sE(B:PT X a tA)(hb:PW X (.BoolOp .Or (b :: rest) pos) zQ):PW X (.BoolOp .Or (a :: b :: rest) pos) (tOr tA zQ):=by
 intro C g s l H Q I h;refine isTrue_or (thn (B g s l H _ I h) λc E ⟨m,o,A⟩=>?_)
 cases c with
 | true=>exact⟨m,o,A⟩
 | false=>exact hb C g E l m Q o A
theorem nV(g:PT X a tA):PT X (.UnaryOp .Not a pos) (tNot tA):=by
 intro l s m H Q I h;exact isTrue_not (g l s m H (λc o=>Q (!c) o) I h)
def rX(ta tb:TE):TE:=λg H Q=>ta g H λx l=>∃c,x=.bl c/\if c=true then tb g l Q else Q (.bl false) l
theorem nv{op}{t}(h:PE X a t):PE X (.BoolOp op [a] pos) t:=λg s l H Q I hw=>BoolOp_one (h g s l H Q I hw)
theorem oB(B:PE X a ta)(hb:PE X (.BoolOp .And (b :: rest) pos) tb):PE X (.BoolOp .And (a :: b :: rest) pos) (rX ta tb):=by
 intro l s m H Q I h;refine BoolOp_and (thn (B l s m H _ I h) λv C ⟨x,o,A,E,g⟩=>?_);obtain⟨c,rfl,g⟩:=g;cases E;refine Cc ?_
 cases c with
 | true=>exact hb l C m o Q A g
 | false=>exact⟨.bl false,o,A,rfl,g⟩
def tIf(t:TT)(ta tb:TE):TE:=λg H Q=>t g H λc l=>if c=true then ta g l Q else tb g l Q
theorem fD(C:PT X c tA)(E:PE X a ta)(hb:PE X b tb):PE X (.IfExp c a b pos) (tIf tA ta tb):=by
 intro g s l H Q I h;refine wpAny_IfExp (thn (C g s l H _ I h) λd m ⟨o,A,B⟩=>?_)
 cases d with
 | true=>exact E g m l o Q A B
 | false=>exact hb g m l o Q A B
end
def SqL(K:AE)(H:Hp)(a:AR)(xs:List V):Prop:=
 Rd H a (.lst xs) ∨
  ∃(o:Obj) (g:Array AG) (n:Nat),K.lookup a=some o/\o.cls=.type "list"/\o.dict=none/\o.data=.seq g n/\g.size<=sizeLine/\BL xs g.toList
def SqT(K:AE)(H:Hp)(a:AR)(xs:List V):Prop:=
 Rd H a (.tup xs) ∨
  ∃(o:Obj) (g:Array AG) (n:Nat),K.lookup a=some o/\o.cls=.type "tuple"/\o.data=.seq g n/\g.size<=sizeLine/\BL xs g.toList
noncomputable def absV:AG->Option V
 | .none=>some .non
 | .bool b=>some (.bl b)
 | .int i _=>some (.int i)
 | .str x _=>some (.str x)
 | .bytes b _=>some (.byt b)
 | .float b _=>some (.flt b)
 | .ref a=>some (.ref a)
 | .type n=>some (.ty n)
 | _=>none
theorem RelV.abs(r:RelV x u):absV u=some x:=by
 cases x with
 | non=>cases r;rfl
 | bl _=>cases r;rfl
 | int _=>obtain⟨t,rfl⟩:=r;rfl
 | str _=>obtain⟨t,rfl⟩:=r;rfl
 | byt _=>obtain⟨t,rfl⟩:=r;rfl
 | flt _=>obtain⟨t,rfl⟩:=r;rfl
 | ref _=>cases r;rfl
 | ty _=>cases r;rfl
theorem RelV.inj(r:RelV x u)(q:RelV y u):x=y:=CB (r.abs.symm.trans q.abs)
theorem BL.inj:∀{xs g:List V} {us:List AG},BL xs us->BL g us->xs=g
 | _,_,_,.nil,.nil=>rfl
 | _,_,_,.cons r t,.cons l m=>by rw[r.inj l,BL.inj t m]
section
variable{X:Cx}{ζ:List (AR×Obj)}{σ:St}{H:Hp}{s:AK}{a:AR}{xs ys:List V}
theorem Inv.list(I:Inv X ζ σ H s)(h:SqL X.K H a xs):∃g:List AG,BL xs g/\PlainL s.heap a g.toArray/\xs.length<=sizeLine:=by
 rcases h with h | ⟨o,g,n,l,m,A,B,C,r⟩
 ·obtain⟨z,g,n,r,e⟩:=h.ok I.hok
  exact⟨g,r,⟨_,n,e,rfl,rfl,rfl⟩,z⟩
 ·refine⟨g.toList,r,⟨o,n,I.kIn a o l,m,A,by simpa using B⟩,?_⟩
  have e:=r.length;simp only[Az]at e
  lia
theorem Inv.tuple(I:Inv X ζ σ H s)(h:SqT X.K H a xs):∃g:List AG,BL xs g/\cy s.heap a g.toArray/\xs.length<=sizeLine:=by
 rcases h with h | ⟨o,g,n,l,m,A,B,r⟩
 ·obtain⟨z,g,r,p⟩:=h.ok I.hok
  exact⟨g,r,p,z.1⟩
 ·refine⟨g.toList,r,⟨o,I.kIn a o l,m,n,by simpa using A⟩,?_⟩
  have e:=r.length;simp only[Az]at e
  lia
theorem Inv.list_inj(I:Inv X ζ σ H s)(h:SqL X.K H a xs)(h':SqL X.K H a ys):xs=ys:=by
 obtain⟨m,r,⟨o,n,e,_,_,d⟩,_⟩:=I.list h;obtain⟨its',A,⟨B,C,g,_,_,l⟩,_⟩:=I.list h';rw[e]at g;cases g;rw[d]at l
 injection l with d1 _
 have:m=its':=by simpa using congrArg mW d1
 subst this;exact r.inj A
theorem Inv.tuple_inj(I:Inv X ζ σ H s)(h:SqT X.K H a xs)(h':SqT X.K H a ys):xs=ys:=by
 obtain⟨m,r,⟨o,e,_,n,d⟩,_⟩:=I.tuple h;obtain⟨its',A,⟨B,g,_,C,l⟩,_⟩:=I.tuple h';rw[e]at g;cases g;rw[d]at l
 injection l with d1 _
 have:m=its':=by simpa using congrArg mW d1
 subst this;exact r.inj A
end
section
variable{X:Cx}{st:Bw}{rest:List Bw}{t u:TS}{e:Expr}{te:TE}{pos:Pos}
def rL:TS:=λD g H=>D.nx g H
def tSeq(t u:TS):TS:=λD g H=>t { D with nx:=u D } g H
theorem ja:PSs X [] rL:=λ_ _ g H _ I h=>IJ ⟨g,H,I,h⟩
theorem ei(m:PS X st t)(o:PSs X rest u):PSs X (st :: rest) (tSeq t u):=by
 intro l s A H D I h;refine qb (thn (m l s A H { D with nx:=u D } I h) λf B q=>?_)
 cases f with
 | next=>
  obtain⟨g,C,E,q⟩:=q;exact o l B g C D E q
 | ret v=>exact q
 | brk=>exact q
 | cont=>exact q
theorem jZ(g:PS X st t):PSs X [st] t:=by
 intro l s m H D I h;refine qb (thn (g l s m H D I h) λf o q=>?_)
 cases f with
 | next=>exact IJ q
 | ret v=>exact q
 | brk=>exact q
 | cont=>exact q
theorem Inv.quiet(I:Inv X g l H s):interactive X.env=false:=by simp[interactive,I.ok.kind]
def rP(te:TE):TS:=λD g H=>te g H λ_ l=>D.nx g l
theorem jc(l:PE X e te)(m:Fc e none pos.line X.env=pure false:=by rfl):PS X (.Expr e pos) (rP te):=by
 intro o s g H D I h;exact wpAny_Expr_any (thn (l o s g H _ I h) λv E ⟨x,A,B,G,C⟩=>⟨g,A,B,C⟩) I.quiet m
def tRet(te:TE):TS:=λD g H=>te g H D.rt
theorem nX(l:PE X e te):PS X (.Return (some e) pos) (tRet te):=by
 intro m s g H D I h;exact wpAny_Return_some (thn (l m s g H _ I h) λv E ⟨x,o,A,B,C⟩=>⟨x,g,o,A,B,C⟩)
def tIfS(c:TT)(t u:TS):TS:=λD g H=>c g H λb l=>if b=true then t D g l else u D g l
theorem sG(C:PT X c tc)(E:PSs X a t)(hb:PSs X b u):PS X (.If c a b pos) (tIfS tc t u):=by
 intro g s l H D I h;refine wpAny_If (thn (C g s l H _ I h) λd m ⟨o,A,B⟩=>?_)
 cases d with
 | true=>exact E g m l o D A B
 | false=>exact hb g m l o D A B
def nD:TS:=λ_ _ _=>False
theorem ek:PS X st nD:=λ_ _ _ _ _ _ h=>h.elim
end
abbrev TG:=V->St->Hp->(St->Hp->Prop)->Prop
abbrev TGs:=List V->St->Hp->(St->Hp->Prop)->Prop
def PG(X:Cx)(B:Expr)(t:TG):Prop:=
 ∀(l:List (AR×Obj)) (s:AK) (m:St) (H:Hp) (v:V) (u:AG) (Q:St->Hp->Prop),Inv X l m H s->RelV v u->t v m H Q ->
  AZ (AU X.prog X.w) X.A (mM B X.env u) (λ_ C=>∃g o,Inv X l g o C/\Q g o) X.xe s
def PGs(X:Cx)(E:List Expr)(t:TGs):Prop:=
 ∀(l:List (AR×Obj)) (s:AK) (m:St) (H:Hp) (o:List V) (B:List AG) (Q:St->Hp->Prop),Inv X l m H s->BL o B->t o m H Q ->
  AZ (AU X.prog X.w) X.A (assignInOrder ((Ed E X.env).map (·.2)) B) (λ_ G=>∃g C,Inv X l g C G/\Q g C) X.xe s
abbrev tX:=V->V->V->Hp->(Hp->Prop)->Prop
def tZ(X:Cx)(t:tX):Prop:=
 ∀(g:List (AR×Obj)) (s:AK) (l:St) (H:Hp) (o i v:V) (m iv u:AG) (Q:Hp->Prop),Inv X g l H s->RelV o m->RelV i iv->RelV v u->t o i v H Q ->
  AZ (AU X.prog X.w) X.A (qM m iv u) (λ_ C=>∃B,Inv X g l B C/\Q B) X.xe s
abbrev TIp:=V->V->Hp->VK->Prop
def PIp(X:Cx)(op:Operator)(t:TIp):Prop:=
 ∀(g:List (AR×Obj)) (s:AK) (l:St) (H:Hp) (x y:V) (v u:AG) (Q:VK),Inv X g l H s->RelV x v->RelV y u->t x y H Q ->
  AZ (AU X.prog X.w) X.A (inplaceOp op v u) (EP X g l Q) X.xe s
section
variable{X:Cx}{pos:Pos}
def aH(i:Nat):TG:=λv g H Q=>Q (g.set i (some v)) H
theorem jo(g:X.N.Nodup)(hi:X.N[i]?=some x)(l:Loc X.env.scope x)(m:X.fn x=true∨X.env.scope.names.lookup x=some .local:=by first | exact .inl rfl | exact .inr rfl | assumption):PG X (.Name x pos) (aH i):=by
 intro A s B H v u Q I r h;exact qH (Qm I g hi l r (λC o=>⟨_,H,o,h⟩) m)
def gNil:TGs:=λg l H Q=>g=[]/\Q l H
def tP(t:TG)(u:TGs):TGs:=λl m H Q=>∃v r,l=v :: r/\t v m H λg o=>u r g o Q
theorem jm:PGs X [] gNil:=by
 intro l s g H m o Q I r h;obtain⟨e,h⟩:=h;subst e;cases r;exact assignInOrder_nil ⟨g,H,I,h⟩
theorem e8(m:PG X e t)(o:PGs X es u)
  (A:(Ed (e :: es) X.env).map (·.2)=mM e X.env :: (Ed es X.env).map (·.2):=by rfl):PGs X (e :: es) (tP t u):=by
 intro l s B H O P Q I r h;obtain⟨v,R,C,h⟩:=h;subst C
 cases r with
 | cons r E=>
  rw[A];refine assignInOrder_cons (thn (m l s B H _ _ _ I r h) λ_ G ⟨g,J,L,N⟩=>?_);exact o l G g J _ _ Q L E N
def gTup(K:AE)(n:Nat)(t:TGs):TG:=λv l H Q=>∃a g,v=.ref a/\SqT K H a g/\g.length=n/\t g l H Q
theorem nq(A:X.calm=true)(h:PGs X es t)
  (B:(Ed es X.env).length=n:=by rfl) (C:(Ed es X.env).findIdx? (·.1)=none:=by rfl):PG X (.Tuple es k pos) (gTup X.K n t):=by
 intro g s l H v u Q I r hw;obtain⟨a,E,G,J,L,hw⟩:=hw;subst G;cases r;obtain⟨S,m,N,T⟩:=I.tuple J
 refine assign_Tuple_tuple (I.ok.hd A) N (by simp[B,<-L,m.length]) C λO P=>?_
 have R:Inv X g l H { s with heap:=O }:=I.kept (t':=s.toks) λb o e=>P b o (Ae (AS e)) e
 exact h g _ l H E _ Q R (by simpa using m) hw
def nG(te:TE)(g:TG):TS:=λD l H=>te l H λx m=>g x l m D.nx
theorem nh(A:PE X e te)(B:PG X l g)(C:swapsWithSole [l] e pos.line X.env=pure false:=by rfl)(hw:swappedStores [l] e X.env=pure none:=by rfl)
  (E:(Ed [l] X.env).map (·.2)=[mM l X.env]:=by rfl):PS X (.Assign [l] e pos) (nG te g):=by
 intro m s o H D I h;refine wpAny_Assign_stores (thn (A m s o H _ I h) λv G ⟨x,J,L,N,O⟩=>?_) C hw;rw[E]
 exact thn (B m G o J x v _ L N O) λ_ P q=>q
theorem nW(l:X.N.Nodup)(hi:X.N[i]?=some x)(m:Loc X.env.scope x)(o:PE X e te)(A:Fc e (some (.Name x g)) pos.line X.env=pure false:=by rfl)(B:X.fn x=true∨X.env.scope.names.lookup x=some .local:=by first | exact .inl rfl | exact .inr rfl | assumption) :
  PS X (.Assign [.Name x g] e pos) (nG te (aH i)):=by
 intro C s E H D I h;refine wpAny_Assign_Name (thn (o C s E H _ I h) λv Q ⟨y,G,J,L,O⟩=>?_) A;exact Qm J l hi m L (λR P=>⟨_,G,P,O⟩) B
def tAug(i:Nat)(te:TE)(l:TIp):TS:=λD g H=>∃x,g[i]?=some (some x)/\te g H λy m=>l x y m λz o=>D.nx (g.set i (some z)) o
theorem ng(O:X.N.Nodup)(hi:X.N[i]?=some x)(C:Loc X.env.scope x)(P:PE X e te)(ho:PIp X op Q)(R:X.fn x=true∨X.env.scope.names.lookup x=some .local:=by first | exact .inl rfl | exact .inr rfl | assumption) :
  PS X (.AugAssign (.Name x J) op e pos) (tAug i te Q):=by
 intro E s L H D I h;obtain⟨v,S,h⟩:=h;obtain⟨m,T,U⟩:=I.loc
 have G:Vis X.env.scope x:=by rcases C with k | k;exact .inl k;exact .inr (.inl k)
 obtain⟨u,r,l⟩:=U i x v hi S G;refine wpAny_AugAssign_Name ?_
 have go:AZ (AU X.prog X.w) X.A (BQ e X.env) (λw o=>AZ (AU X.prog X.w) X.A (inplaceOp op u w) (λr B=>AZ (AU X.prog X.w) X.A (qe X.env x r) (λ_=>SP X E D .next) X.xe B) X.xe o) X.xe s:=by
  refine thn (P E s L H _ I h) λw Y ⟨y,Z,I1,r1,q1⟩=>?_
  refine thn (ho E Y L Z v y u w _ I1 r r1 q1) λz s2 ⟨zv,H2,I2,r2,q2⟩=>?_
  exact Qm I2 O hi C r2 (λs3 I3=>⟨_,H2,I3,q2⟩) R
 rcases l with⟨g,hm⟩ | ⟨g,c,hc,uT⟩
 ·exact iK I.ok.kind g T hm go
 ·rcases g with g | g
  ·exact lL I.ok.kind g hc uT go
  ·rcases C with k | k
   ·have:X.env.scope.names.lookup x=some .free:=g
    rw[k]at this;cases this
   ·have:X.env.scope.names.lookup x=some .free:=g
    rw[k]at this;cases this
def rW(to l te:TE)(m:V->V->Hp->VK->Prop)(s:TIp)(A:tX):TS:=λD g H=>to g H λo B=>l g B λi C=>m o i C λx E=>te g E λy G=>s x y G λz I=>A o i z I λJ=>D.nx g J
def tf(X:Cx)(t:V->V->Hp->VK->Prop):Prop:=
 ∀(g:List (AR×Obj)) (s:AK) (l:St) (H:Hp) (o i:V) (m iv:AG) (Q:VK),Inv X g l H s->RelV o m->RelV i iv->t o i H Q ->
  AZ (AU X.prog X.w) X.A (MK m iv) (EP X g l Q) X.xe s
theorem jf(ho:PE X o to)(hi:PE X i G)(J:tf X L)(N:PE X e te)(O:PIp X op P)(Q:tZ X R)
  (S:∀g iv new,augStore i g iv new=(do MH [new,g,iv] (qM g iv new);release [new,g,iv] [];pure .next):=by intros;rfl):PS X (.AugAssign (.Subscript o i tpos) op e pos) (rW to G te L P R):=by
 intro m s l H D I h;refine wpAny_AugAssign_SubscriptAny (thn (ho m s l H _ I h) λg T ⟨A,U,Y,B,Z⟩=>?_) S
 refine thn (hi m T l U _ Y Z) λiv s2 ⟨C,H2,I2,E,q2⟩=>?_
 refine thn (J m s2 l H2 A C g iv _ I2 B E q2) λold s3 ⟨x3,H3,I3,r3,q3⟩=>?_
 refine thn (N m s3 l H3 _ I3 q3) λv s4 ⟨x4,H4,I4,r4,q4⟩=>?_
 refine thn (O m s4 l H4 x3 x4 old v _ I4 r3 r4 q4) λnew s5 ⟨x5,H5,I5,r5,q5⟩=>?_
 exact thn (Q m s5 l H5 A C x5 g iv new _ I5 B E r5 q5) λ_ s6 ⟨H6,I6,q6⟩=>⟨l,H6,I6,q6⟩
def ipI(f:Int->Int->Int):TIp:=λx y H Q=>∃i j,x=.int i/\y=.int j/\Q (.int (f i j)) H
theorem ou:PIp X .Add (ipI λi j=>i+j):=by
 intro A s B H x y v u Q I g l h;obtain⟨i,j,m,o,q⟩:=h;subst m;subst o;obtain⟨t,rfl⟩:=g;obtain⟨C,rfl⟩:=l;exact iadd_int ⟨.int _,H,I.tok _,⟨_,rfl⟩,q⟩
def nA(c:TT)(B:TS):TS:=λD g H=>∃W:Nat->St->Hp->Prop,(∃m,W m g H)/\∀m g H,W m g H ->
 c g H λb o=>if b=true then ∃N:St->Hp->Prop,(∀l s,N l s->∃A,A < m/\W A l s)/\B { D with nx:=N,ct:=N,bk:=D.nx } g o else D.nx g o
theorem ej(Q:Os (AU X.prog X.w) X.A X.env X.xe)(Z:PT X c tc)(hb:PSs X body tb):PS X (.While c body [] pos) (nA tc tb):=by
 intro E s σ H D I h;obtain⟨W,⟨m0,w0⟩,turn⟩:=h;refine wpAny_While (codeAny_whileLoop (λn s'=>∃m R,Inv X E m R s'/\W n m R) ?_ m0 ⟨σ,H,I,w0⟩);rintro n s1 ⟨l,S,I1,w1⟩;refine Es Q (thn (Z E s1 l S _ I1 (turn n l S w1)) λb s2 ⟨T,U,B⟩=>?_)
 cases b with
 | true=>
  obtain⟨N,Y,B⟩:=B;rw[qX rfl];refine Es Q (thn (hb E s2 l T _ U B) λf s3 C=>?_)
  cases f with
  | next=>
   obtain⟨g,o,G,J⟩:=C;obtain⟨L,O,P⟩:=Y g o J;exact⟨L,O,g,o,G,P⟩
  | cont=>
   obtain⟨g,o,G,J⟩:=C;obtain⟨L,O,P⟩:=Y g o J;exact⟨L,O,g,o,G,P⟩
  | brk=>exact C
  | ret v=>exact C
 | false=>
  rw[qY Af];exact IJ ⟨l,T,U,B⟩
end
structure It where
 go:Nat->Hp->Prop
 yld:Nat->Hp->V->Hp->Prop
 stop:Nat->Hp->Prop
def M1(X:Cx)(g:List (AR×Obj))(H:Hp)(b:AR):Prop:=
 H b=none/\b≠X.env.locals/\b∉X.fs/\(b∈X.ex∨X.s₀.heap.objs.size<=b)/\(∀x c,X.env.cells.lookup x=some c->c≠b)/\∀p∈X.pn++g,p.1≠b
theorem Inv.fpOk(I:Inv X g A H s)(hb:s.heap.objs.size<=b)(l:m b=none):M1 X g m b:=by
 refine⟨l,DO (Aa I.lt hb),I.nofs hb,.inr (Ap I.sz hb),λx c e z=>?_,λp o z=>?_⟩
 ·obtain⟨v,q⟩:=I.cell x c e
  exact zX (Aa q.lt (by rw[z];exact hb)) (CN _)
 ·exact zX (Aa (AS (I.pin p o).1) (by rw[z];exact hb)) (CN _)
structure P0(P:BJ)(w:Bs)(K:AE)(tg:Expr)(J:It)(fp:List AR)(it:AR)(tn:Nat->Bu->Prop):Prop where
 mem:it∈fp
 obj:∀i h,tn i h->∀b∈fp,∃o,h.get? b=some o/\∀v,o.data≠.cell v
 keep:∀i h h',tn i h->(∀b∈fp,∀o,h.get? b=some o->h'.get? b=some o)->tn i h'
 item:∀(X:Cx),X.prog=P->X.w=w->X.K=K->X.calm=true->∀(i:Nat) (ζ:List (AR×Obj)) (s:AK) (σ:St) (H:Hp) (E:AG->AK->Prop),Inv X ζ σ H s->(∀b∈fp,M1 X ζ H b)->tn i s.heap->J.go i H ->
  AZ (AU P w) X.A (Fk (.ref it)) (λr s1=>∃u,r=some u /\
   AZ (AU P w) X.A (M3 tg (.ref it) u) (λ_ s2=>∃x H',Inv X ζ σ H' s2/\RelV x u/\J.yld i H x H'/\tn (i+1) s2.heap/\∀b∈fp,H' b=none) E s1) E s
 done:∀(X:Cx),X.prog=P->X.w=w->X.K=K->X.calm=true->∀(i:Nat) (ζ:List (AR×Obj)) (s:AK) (σ:St) (H:Hp) (E:AG->AK->Prop),Inv X ζ σ H s->(∀b∈fp,M1 X ζ H b)->tn i s.heap->J.stop i H ->
  AZ (AU P w) X.A (Fk (.ref it)) (λr s1=>r=none/\Inv X ζ σ H s1) E s
 self:∀(A:BX) (i:Nat) (s:AK) (Q:AG->AK->Prop) (E:AG->AK->Prop),tn i s.heap->Q (.ref it) s->AZ (AU P w) A (MF (.ref it)) Q E s
abbrev TI:=St->Hp->(It->Hp->Prop)->Prop
def PIE(X:Cx)(m:List (AR×Obj))(B:St)(C:Expr)(R:It->Hp->Prop)(g:AG)(o:AK):Prop:=
 ∃(it:AR) (s:List AR) (A:Nat->Bu->Prop) (J:It) (l:Hp),g=.ref it/\Inv X m B l o/\P0 X.prog X.w X.K C J s it A/\A 0 o.heap/\(∀b∈s,M1 X m l b)/\R J l
def PI(X:Cx)(m iter:Expr)(o:TI):Prop:=
 ∀(l:List (AR×Obj)) (s:AK) (g:St) (H:Hp) (R:It->Hp->Prop),Inv X l g H s->o g H R ->
  AZ (AU X.prog X.w) X.A (BQ iter X.env) (λv B=>AZ (AU X.prog X.w) X.A (MF v) (PIE X l g m R) X.xe B) X.xe s
theorem Tq(ho:s.heap.get? it=some o)(l:o.cls=.type n)(m:o.data=.fields vs)
  (B:["enumerate", "zip", "dict_itemiterator", "dict_reverseitemiterator", "odict_iterator", "itertools.zip_longest", "itertools.pairwise"].contains n=false) (g:Q () s):AZ M A (M3 C (.ref it) u) Q E s:=by
 unfold M3
 cases C <;> first
  | exact AC g
  | (cases u <;> first
    | exact AC g
    | (refine AA (Xm ho ?_)
       rw[l,m];show AZ M A (if (["enumerate", "zip", "dict_itemiterator", "dict_reverseitemiterator", "odict_iterator", "itertools.zip_longest", "itertools.pairwise"].contains n&&vs[0]?==some (Dl _))=true then _ else _) Q E s;rw[qY (by intro h;rw[B,Bool.false_and]at h;cases h)]
       exact AC g))
def Itl(K:AE)(a:AR):It:=
 ⟨λi H=>∃g x,SqL K H a g/\g[i]?=some x,λi H x l=>l=H/\∀g,SqL K H a g->g[i]?=some x,λi H=>∃g,SqL K H a g/\g.length<=i⟩
def Itt(K:AE)(a:AR):It:=
 ⟨λi H=>∃g x,SqT K H a g/\g[i]?=some x,λi H x l=>l=H/\∀g,SqT K H a g->g[i]?=some x,λi H=>∃g,SqT K H a g/\g.length<=i⟩
def Itr(lo:Int)(n:Nat):It:=⟨λi _=>i < n,λi H x g=>g=H/\x=.int (lo+i),λi _=>n<=i⟩
theorem av{P}{w}{K}{Z}(a it:AR):P0 P w K Z (Itl K a) [it] it (λi h=>h.IsListIter it a i) where
 mem:=by simp
 obj:=λi h st b hb=>by
  have e:b=it:=by simpa using hb
  subst e;obtain⟨o,e,c,d⟩:=st;exact⟨o,e,λv z=>by rw[d]at z;cases z⟩
 keep:=λi h l st k=>st.at λo e=>k it (by simp) o e
 item:=by
  intro X B hw C T i U s Y H E I m st G;subst B hw C;obtain⟨xs,x,A,J⟩:=G;obtain⟨f',L,p,hz⟩:=I.list A;obtain⟨u,hu,ru⟩:=L.get J;obtain⟨N,O,f2,Q,R,S⟩:=m it (by simp)
  refine wpAny_pyNext_list_item st p.isList (x:=u) (by simpa using hu) λl g sb=>?_
  have I1:Inv X U Y H { s with heap:=l }:=I.turned (t':=s.toks) (λb o hb e=>(sb.2 b hb).trans e) N O Q R S;obtain⟨o,e,c,d⟩:=id g;exact⟨u,rfl,Tq (s:={ s with heap:=l }) e c d (by decide) ⟨x,H,I1,ru,⟨rfl,λys hy=>by rw[I.list_inj hy A];exact J⟩,g,λb hb=>(m b hb).1⟩⟩
 done:=by
  intro X B hw C T i U s Y H E I m st G;subst B hw C;obtain⟨xs,A,J⟩:=G;obtain⟨f',L,p,hz⟩:=I.list A;obtain⟨N,O,f2,Q,R,S⟩:=m it (by simp);have hl:=L.length
  exact wpAny_pyNext_list_end (I.ok.hd T) st p.isList (by simp;lia) λl eb=>⟨rfl,I.turned (t':=s.toks) (λb o hb e=>eb b o hb e) N O Q R S⟩
 self:=λ_ _ _ _ _ st h=>wpAny_pyIter_listiter st h
theorem YB{P}{w}{K}{tg}(a it:AR):P0 P w K tg (Itt K a) [it] it (λi h=>h.IsTupleIter it a i) where
 mem:=by simp
 obj:=λi h st b hb=>by
  have e:b=it:=by simpa using hb
  subst e;obtain⟨o,e,c,d⟩:=st;exact⟨o,e,λv z=>by rw[d]at z;cases z⟩
 keep:=λi h l st k=>st.at λo e=>k it (by simp) o e
 item:=by
  intro X B hw C U i Y s Z H E I m st G;subst B hw C;obtain⟨xs,x,A,J⟩:=G;obtain⟨L,N,p,hz⟩:=I.tuple A;obtain⟨u,hu,ru⟩:=N.get J;obtain⟨O,Q,f2,R,S,T⟩:=m it (by simp)
  refine wpAny_pyNext_tuple_item st (show s.heap.IsTuple a L.toArray from p) (x:=u) (by simpa using hu) λl g sb=>?_
  have I1:Inv X Y Z H { s with heap:=l }:=I.turned (t':=s.toks) (λb o hb e=>(sb.2 b hb).trans e) O Q R S T;obtain⟨o,e,c,d⟩:=id g;exact⟨u,rfl,Tq (s:={ s with heap:=l }) e c d (by decide) ⟨x,H,I1,ru,⟨rfl,λys hy=>by rw[I.tuple_inj hy A];exact J⟩,g,λb hb=>(m b hb).1⟩⟩
 done:=by
  intro X B hw C U i Y s Z H E I m st G;subst B hw C;obtain⟨xs,A,J⟩:=G;obtain⟨L,N,p,hz⟩:=I.tuple A;obtain⟨O,Q,f2,R,S,T⟩:=m it (by simp);have hl:=N.length
  exact wpAny_pyNext_tuple_end (I.ok.hd U) st (show s.heap.IsTuple a L.toArray from p) (by simp;lia) λl eb=>⟨rfl,I.turned (t':=s.toks) (λb o hb e=>eb b o hb e) O Q R S T⟩
 self:=λ_ _ _ _ _ st h=>wpAny_pyIter_tupleiter st h
theorem YC{P}{w}{K}{T}(it:AR)(lo:Int)(n:Nat):P0 P w K T (Itr lo n) [it] it (λi h=>ic h it (lo+(i:Nat) * 1) ((n:Int) - (i:Nat)) 1) where
 mem:=by simp
 obj:=λi h st b hb=>by
  have e:b=it:=by simpa using hb
  subst e
  exact⟨_,st,λv z=>by
   have U:Data.fields _=Data.cell v:=z
   cases U⟩
 keep:=λi h l st k=>k it (by simp) _ st
 item:=by
  intro X A hw B C i R s S H E I m st G;subst A hw B;obtain⟨J,L,f2,N,O,Q⟩:=m it (by simp);have W:=qO (prog:=X.prog) (w:=X.w) (I.ok.hd C) it lo 1 n
  refine W.item i s _ _ G st λv l tk Y g Z=>?_
  obtain⟨t,rfl⟩:=Y;have I1:Inv X R S H { s with heap:=l,toks:=tk }:=I.turned (λb o hb e=>Z b o (by simpa using hb) e) J L N O Q;refine⟨_,rfl,Tq (s:={ s with heap:=l,toks:=tk }) (n:="range_iterator") g rfl rfl (by decide) ⟨.int (lo+i),H,I1,⟨t,?_⟩,⟨rfl,rfl⟩,g,λb hb=>(m b hb).1⟩⟩;rw[Int.mul_one]
 done:=by
  intro X A hw B C i R s S H E I m st G;subst A hw B;obtain⟨J,L,f2,N,O,Q⟩:=m it (by simp)
  exact dA (I.ok.hd C) st (by have:n<=i:=G;lia) λl eb=>⟨rfl,I.turned (t':=s.toks) (λb o hb e=>eb b o hb e) J L N O Q⟩
 self:=λ_ _ _ _ _ st h=>dB st h
section
variable{X:Cx}
def tH(K:AE)(l:TE):TI:=λm H R=>l m H λx g=>∃a,x=.ref a/\(∃o,SqL K g a o)/\R (Itl K a) g
def iTup(K:AE)(l:TE):TI:=λm H R=>l m H λx g=>∃a,x=.ref a/\(∃o,SqT K g a o)/\R (Itt K a) g
theorem jj{l}{A}(B:PE X l A):PI X O l (tH X.K A):=by
 intro C s E H R I h
 refine thn (B C s E H _ I h) λv g ⟨x,G,m,J,L⟩=>?_
 obtain⟨a,e,⟨P,N⟩,q⟩:=L;subst e;cases J;obtain⟨Q,S,p,T⟩:=m.list N;refine D2 p.isList ?_;refine⟨g.heap.objs.size,[g.heap.objs.size],_,_,G,rfl,m.kept (t':=g.toks) λb o e=>AB _ e,av a _,⟨_,AJ _ rfl,rfl,rfl⟩,λb hb=>?_,q⟩
 have e:b=g.heap.objs.size:=by simpa using hb
 subst e;exact m.fpOk (AN _) (m.hok.fresh (AN _))
theorem nj{l}{A}(B:PE X l A):PI X P l (iTup X.K A):=by
 intro C s E H R I h
 refine thn (B C s E H _ I h) λv g ⟨x,G,m,J,L⟩=>?_
 obtain⟨a,e,⟨Q,N⟩,q⟩:=L;subst e;cases J;obtain⟨O,S,p,T⟩:=m.tuple N;refine Dj (show g.heap.IsTuple a O.toArray from p) ?_;refine⟨g.heap.objs.size,[g.heap.objs.size],_,_,G,rfl,m.kept (t':=g.toks) λb o e=>AB _ e,YB a _,⟨_,AJ _ rfl,rfl,rfl⟩,λb hb=>?_,q⟩
 have e:b=g.heap.objs.size:=by simpa using hb
 subst e;exact m.fpOk (AN _) (m.hok.fresh (AN _))
theorem Wc{g}{l}{H}{s}{R}{E}{lo hi}{t u v}{tk}(I:Inv X g l H s)(B:-(2 ^ 62)<=lo)(C:lo < 2 ^ 62)(G:-(2 ^ 62)<=hi)(J:hi < 2 ^ 62)
  (q:R (Itr lo (hi - lo).toNat) H):AZ (AU X.prog X.w) X.A (MF (.ref s.heap.objs.size)) (PIE X g l O R) E { s with heap:=s.heap.push { cls:=.type "range",data:=.fields #[.int lo t,.int hi u,.int 1 v] },toks:=tk }:=by
 refine mE (Vz ..) (small_one B C G J) ?_
 have m:Inv X g l H { s with heap:=s.heap.push { cls:=.type "range",data:=.fields #[.int lo t,.int hi u,.int 1 v] },toks:=tk }:=I.kept λb o e=>AB _ e
 refine⟨(s.heap.push { cls:=.type "range",data:=.fields #[.int lo t,.int hi u,.int 1 v] }).objs.size,[(s.heap.push { cls:=.type "range",data:=.fields #[.int lo t,.int hi u,.int 1 v] }).objs.size],_,_,H,rfl,
  m.kept (t':=tk) λb o e=>AB _ e,YC _ lo (hi - lo).toNat,?_,λb hb=>?_,q⟩
 ·have L:lo+((0:Nat):Int) * 1=lo:=by simp
  have N:(((hi - lo).toNat:Nat):Int) - ((0:Nat):Int)=BR lo hi 1:=by rw[rangeSize_one];split <;> lia
  show ic _ _ (lo+((0:Nat):Int) * 1) ((((hi - lo).toNat:Nat):Int) - ((0:Nat):Int)) 1;rw[L,N];exact AJ _ rfl
 ·have e:b=(s.heap.push { cls:=.type "range",data:=.fields #[.int lo t,.int hi u,.int 1 v] }).objs.size:=by simpa using hb
  subst e;exact m.fpOk (AN _) (m.hok.fresh (AN _))
def tF(g:TA):TI:=λl H R=>g l H λm o=>∃j:Int,m=[.int j]/\-(2 ^ 62)<=j/\j < 2 ^ 62/\R (Itr 0 j.toNat) o
def tE(g:TA):TI:=λl H R=>g l H λm o=>∃i j:Int,m=[.int i,.int j]/\(-(2 ^ 62)<=i/\i < 2 ^ 62/\-(2 ^ 62)<=j/\j < 2 ^ 62)/\R (Itr i (j - i).toNat) o
theorem bR{a}{l}{p pos}(m:Gl X "range") (o:X.mg "range" = none) (A:PA X [a] l) (B:AO [a] X.env=[(false,BQ a X.env)]:=by rfl):PI X O (.Call (.Name "range" p) [a] [] pos) (tF l):=by
 intro C s E H R I h;refine Call_ (G5 I m o Xs (Bc (thn (A pos C s E H _ I h) λP Q ⟨S,T,G,J,g⟩=>?_) B rfl));obtain⟨j,e,g,L,q⟩:=g;subst e
 cases J with
 | cons r N=>
  cases N;obtain⟨t,rfl⟩:=r;exact call_range_1 (Wc G (by lia) (by lia) g L (by simpa using q))
theorem bQ(o:Gl X "range") (A:X.mg "range" = none) (B:PA X [a,b] C) (E:AO [a,b] X.env=[(false,BQ a X.env),(false,BQ b X.env)]:=by rfl) (m:AO [b] X.env=[(false,BQ b X.env)]:=by rfl) :
  PI X T (.Call (.Name "range" p) [a,b] [] pos) (tE C):=by
 intro G s J H R I h;refine Call_ (G5 I o A Xs (Bc (thn (B pos G s J H _ I h) λU Y ⟨Z,H1,L,N,g⟩=>?_) (by rw[E,m]) (by rw[m];rfl)));obtain⟨i,j,e,⟨g,O,P,Q⟩,q⟩:=g;subst e
 cases N with
 | cons r l=>
  cases l with
  | cons S l=>
   cases l;obtain⟨t,rfl⟩:=r;obtain⟨t',rfl⟩:=S;exact call_range_2 (Wc L g O P Q q)
def tFor(C:TI)(g:TG)(E:TS):TS:=λD l H=>C l H λJ G=>∃W:Nat->Nat->St->Hp->Prop,(∃m,W 0 m l G)/\∀i m l H,W i m l H ->
 (J.stop i H/\D.nx l H)∨(J.go i H/\∃N:St->Hp->Prop,(∀o s,N o s->∃B,B < m/\W (i+1) B o s)/\∀x s,J.yld i H x s->g x l s λA I=>E { D with nx:=N,ct:=N,bk:=D.nx } A I)
def Q4(g:List AR)(h:Bu):List (AR×Obj):=g.filterMap λb=>(h.get? b).map λo=>(b,o)
theorem Jg(hb:b∈g)(e:h.get? b=some o):(b,o)∈Q4 g h:=cr.mpr ⟨b,hb,by rw[e];rfl⟩
theorem bW(g:p∈Q4 l h):p.1∈l/\h.get? p.1=some p.2:=by
 obtain⟨b,hb,e⟩:=cr.mp g
 cases q:h.get? b with
 | none=>rw[q]at e;cases e
 | some o=>
  rw[q]at e;have m:(b,o)=p:=CB e;subst m;exact⟨hb,q⟩
theorem Inv.pinned(I:Inv X g A H s)(B:∀b∈l,M1 X g H b)(ho:∀b∈l,∃o,s.heap.get? b=some o/\∀v,o.data≠.cell v):Inv X (g++Q4 l s.heap) A H s:=
 I.pins_of λp C=>(Bg.mp C).elim (λz=>I.pin p (BG _ z)) λz=>by
  obtain⟨hb,e⟩:=bW z;obtain⟨E,G,f2,_⟩:=B p.1 hb;obtain⟨o,m,d⟩:=ho p.1 hb;rw[e]at m;cases m;exact⟨e,E,G,f2,d⟩
theorem Inv.unpinned(I:Inv X (g++pl) l H s):Inv X g l H s:=I.pins_of λp m=>I.pin p (BG _ (Du _ m))
theorem nY(P:Os (AU X.prog X.w) X.A X.env X.xe)(hc:X.calm=true)(hi:PI X tg iter wi)(hg:PG X tg g)(hb:PSs X body tb)
  (hs:∀x,FA iter X.env x=pure x:=by intro _;rfl):PS X (.For tg iter body [] pos) (tFor wi g tb):=by
 intro O s σ H D I h;refine wpAny_For (thn (hi O s σ H _ I h) λv s1 h1=>thn h1 λitv s2 h2=>?_) hs;obtain⟨it,Q,tn,J,H2,e,I2,T,u0,f2,W,⟨m0,w0⟩,turn⟩:=h2;subst e
 have Z:∀{H':Hp},(∀b∈Q,H' b=none)->∀b∈Q,M1 X O H' b:=λhn b hb=>⟨hn b hb,(f2 b hb).2⟩
 refine codeAny_forLoop_any (λn s'=>∃i B H',Inv X O B H' s'/\tn i s'.heap/\(∀b∈Q,H' b=none)/\W i n B H') ?_ m0 ⟨0,σ,H2,I2,u0,λb hb=>(f2 b hb).1,w0⟩;rintro n s3 ⟨i,C,Y,I3,vn,R,w3⟩
 rcases turn i n C Y w3 with⟨S,qn⟩ | ⟨go,N,hN,step⟩
 ·refine Es P (thn (T.done X rfl rfl rfl hc i O s3 C Y X.xe I3 (Z R) vn S) λr s4 ⟨hr,I4⟩=>?_)
  subst hr;exact IJ ⟨C,Y,I4,qn⟩
 ·refine Es P (thn (T.item X rfl rfl rfl hc i O s3 C Y X.xe I3 (Z R) vn go) λr s4 ⟨u,hr,h4⟩=>?_)
  subst hr;refine Es P (thn h4 λ_ s5 ⟨x,H5,I5,r5,y5,wD,fr5⟩=>?_);have V':=I5.pinned (Z fr5) (T.obj _ _ wD);refine Es P (thn (hg _ s5 C H5 x u _ V' r5 (step x H5 y5)) λ_ s6 ⟨σ6,H6,I6,q6⟩=>?_);refine Es P (thn (hb _ s6 σ6 H6 _ I6 q6) λf s7 L=>?_)
  have again:∀{l:St} {E:Hp},Inv X (O++Q4 Q s5.heap) l E s7->N l E->∃m,m < n/\∃i B H',Inv X O B H' s7/\tn i s7.heap/\(∀b∈Q,H' b=none)/\W i m B H':=λ{l E} G U=>by
   obtain⟨m',hm,w7⟩:=hN l E U;refine⟨m',hm,i+1,l,E,G.unpinned,T.keep _ _ _ wD λb hb o e=>(G.pin (b,o) (BG _ (BG _ (Jg hb e)))).1,λb hb=>?_,w7⟩;obtain⟨o,e,d⟩:=T.obj _ _ wD b hb;exact(G.pin (b,o) (BG _ (BG _ (Jg hb e)))).2.1
  cases f with
  | next=>obtain⟨l,E,G,U⟩:=L;exact again G U
  | cont=>obtain⟨l,E,G,U⟩:=L;exact again G U
  | brk=>obtain⟨l,E,G,L⟩:=L;exact⟨l,E,G.unpinned,L⟩
  | ret v=>obtain⟨x7,l,E,G,r7,L⟩:=L;exact⟨x7,l,E,G.unpinned,r7,L⟩
end
abbrev R2:=V->V->Hp->VK->Prop
def OpR(X:Cx)(f:AG->AG->Sem AG)(r:R2):Prop:=
 ∀(g:List (AR×Obj)) (s:AK) (l:St) (H:Hp) (x y:V) (v u:AG) (Q:VK),Inv X g l H s->RelV x v->RelV y u->r x y H Q ->
  AZ (AU X.prog X.w) X.A (f v u) (EP X g l Q) X.xe s
def UnR(X:Cx)(f:AG->Sem AG)(r:V->Hp->VK->Prop):Prop:=
 ∀(g:List (AR×Obj)) (s:AK) (l:St) (H:Hp) (x:V) (v:AG) (Q:VK),Inv X g l H s->RelV x v->r x H Q ->
  AZ (AU X.prog X.w) X.A (f v) (EP X g l Q) X.xe s
def HE(X:Cx)(f:AG)(r:List V->Hp->VK->Prop):Prop:=
 ∀(g:List (AR×Obj)) (s:AK) (l:St) (H:Hp) (m:List V) (o:List AG) (Q:VK),Inv X g l H s->BL m o->r m H Q ->
  AZ (AU X.prog X.w) X.A (call f o) (EP X g l Q) X.xe s
def TruR(X:Cx)(r:V->Hp->(Bool->Hp->Prop)->Prop):Prop:=
 ∀(g:List (AR×Obj)) (s:AK) (l:St) (H:Hp) (x:V) (v:AG) (Q:Bool->Hp->Prop),Inv X g l H s->RelV x v->r x H Q ->
  AZ (AU X.prog X.w) X.A (mH v) (TP X g l Q) X.xe s
def tOp(r:R2)(l m:TE):TE:=λg H Q=>l g H λx o=>m g o λy s=>r x y s Q
def tUn(r:V->Hp->VK->Prop)(g:TE):TE:=λl H Q=>g l H λx m=>r x m Q
def rI(C:Int->Int->Prop)(g:Int->Int->V):R2:=λx y H Q=>∃i j,x=.int i/\y=.int j/\C i j/\Q (g i j) H
def rI0(g:Int->Int->V):R2:=λx y H Q=>∃i j,x=.int i/\y=.int j/\Q (g i j) H
def rU(g:Int->V):V->Hp->VK->Prop:=λx H Q=>∃i,x=.int i/\Q (g i) H
section
variable{X:Cx}{a b:Expr}{ta tb:TE}{pos:Pos}
theorem pr(G:PE X a ta)(hb:PE X b tb){B:List (AR×Obj)}{s:AK}{g:St}{H:Hp}{R:V->V->Hp->Prop}(I:Inv X B g H s)
  (h:ta g H λx E=>tb g E λy l=>R x y l) {Q:AG->AK->Prop} {f:AG->AG->Sem AG}
  (J:∀v u C x y l,Inv X B g l C->RelV x v->RelV y u->R x y l->AZ (AU X.prog X.w) X.A (f v u) Q X.xe C) :
  AZ (AU X.prog X.w) X.A (BQ a X.env) (λv m=>AZ (AU X.prog X.w) X.A (BQ b X.env) (λu o=>AZ (AU X.prog X.w) X.A (f v u) Q X.xe o) X.xe m) X.xe s:=by
 refine thn (G B s g H _ I h) λv L ⟨x,E,N,O,P⟩=>?_
 refine thn (hb B L g E _ N P) λu C ⟨y,l,S,T,U⟩=>?_
 exact J v u C x y l S O T U
theorem sJ{op:Operator}{r:R2}(ho:OpR X (Cd op) r)(g:PE X a ta)(hb:PE X b tb):PE X (.BinOp a op b pos) (tOp r ta tb):=by
 intro l s m H Q I h;exact wpAny_BinOp (pr g hb I h λv u o x y A B C E q=>ho l o m A x y v u Q B C E q)
theorem sH(ho:UnR X (unaryOp op) r)(m:PE X a ta):PE X (.UnaryOp op a pos) (tUn r ta):=by
 intro g s l H Q I h;exact UnaryOp_ (thn (m g s l H _ I h) λv o ⟨x,A,B,C,E⟩=>ho g o l A x v Q B C E)
theorem opI{f:AG->AG->Sem AG}{C:Int->Int->Prop}{g:Int->Int->Int}
  (rule:∀(i j:Int) (t u:Tok) (s:AK) (Q:AG->AK->Prop) (E:AG->AK->Prop),C i j->Q (.int (g i j) s.toks) { s with toks:=s.toks+1 }->AZ (AU X.prog X.w) X.A (f (.int i t) (.int j u)) Q E s) :
  OpR X f (rI C λi j=>.int (g i j)):=by
 intro G s J H x y v u Q I l m h;obtain⟨i,j,rfl,rfl,o,q⟩:=h;obtain⟨t,rfl⟩:=l;obtain⟨B,rfl⟩:=m;exact rule i j t B s _ _ o ⟨.int (g i j),H,I.tok _,⟨_,rfl⟩,q⟩
theorem oQ{f:AG->AG->Sem AG}{g:Int->Int->Int}
  (rule:∀(i j:Int) (t u:Tok) (s:AK) (Q:AG->AK->Prop) (E:AG->AK->Prop),Q (.int (g i j) s.toks) { s with toks:=s.toks+1 }->AZ (AU X.prog X.w) X.A (f (.int i t) (.int j u)) Q E s) :
  OpR X f (rI0 λi j=>.int (g i j)):=by
 intro B s C H x y v u Q I l m h;obtain⟨i,j,rfl,rfl,q⟩:=h;obtain⟨t,rfl⟩:=l;obtain⟨o,rfl⟩:=m;exact rule i j t o s _ _ ⟨.int (g i j),H,I.tok _,⟨_,rfl⟩,q⟩
theorem kA{f:AG->AG->Sem AG}{g:Int->Int->Bool}
  (rule:∀(i j:Int) (t u:Tok) (s:AK) (Q:AG->AK->Prop) (E:AG->AK->Prop),Q (.bool (g i j)) s->AZ (AU X.prog X.w) X.A (f (.int i t) (.int j u)) Q E s) :
  OpR X f (rI0 λi j=>.bl (g i j)):=by
 intro B s C H x y v u Q I l m h;obtain⟨i,j,rfl,rfl,q⟩:=h;obtain⟨t,rfl⟩:=l;obtain⟨o,rfl⟩:=m;exact rule i j t o s _ _ ⟨.bl (g i j),H,I,rfl,q⟩
def lK(i j:Int):Prop:=0 < j/\j < 1073741824
def qD(i j:Int):Prop:=0<=j/\j<=1000000/\i.natAbs < 2 ^ 64
def iA(i j:Int):Prop:=(-(2 ^ 64) < i/\i < 2 ^ 64)∨(-(2 ^ 64) < j/\j < 2 ^ 64)
theorem iA.ok(h:iA i j):IntMulOk i j:=by
 rcases h with⟨g,l⟩ | ⟨g,l⟩
 ·exact .of_left (intBits_le_64 g l)
 ·exact .of_right (intBits_le_64 g l)
theorem YA(k:Nat):(0:Int)<=2 ^ k:=by
 rw[two_pow_cast];exact Int.natCast_nonneg _
theorem oP:OpR X (Cd .Add) (rI0 λi j=>.int (i+j)):=oQ λ_ _ _ _ _ _ _ q=>add_int q
theorem oE:OpR X (Cd .Sub) (rI0 λi j=>.int (i - j)):=oQ λ_ _ _ _ _ _ _ q=>sub_int q
theorem oH:OpR X (Cd .Mult) (rI iA λi j=>.int (i * j)):=opI λ_ _ _ _ _ _ _ g q=>mul_int q g.ok
theorem j7:OpR X (Cd .FloorDiv) (rI lK λi j=>.int (i / j)):=opI λi j _ _ _ _ _ g q=>by
 have l:(0:Int) < j:=g.1;have m:j < 1073741824:=g.2;exact floordiv_int (by lia) (by rw[UF i (by lia)];exact q) (.inl (UA (by omega)))
theorem oI:OpR X (Cd .Mod) (rI (λ_ j=>0 < j) λi j=>.int (i % j)):=opI λi j _ _ _ _ _ g q=>by
 have l:(0:Int) < j:=g;exact mod_int' (by lia) (by rw[Int.fmod_eq_emod_of_nonneg i (by lia)];exact q)
theorem oG:OpR X (Cd .LShift) (rI qD λi j=>.int (i * 2 ^ j.toNat)):=opI λ_ _ _ _ _ _ _ g q=>lshift_int_small g.1 g.2.1 g.2.2 q
theorem oF:OpR X (Cd .RShift) (rI (λ_ j=>0<=j) λi j=>.int (i / 2 ^ j.toNat)):=opI λi j _ _ _ _ _ g q=>
 rshift_int g (by rw[UF i (YA _)];exact q)
theorem oO:OpR X (Cd .BitAnd) (rI0 λi j=>.int (HK i j)):=oQ λ_ _ _ _ _ _ _ q=>and_int q
theorem unI{f:AG->Sem AG}{g:Int->Int}
  (rule:∀(i:Int) (t:Tok) (s:AK) (Q:AG->AK->Prop) (E:AG->AK->Prop),Q (.int (g i) s.toks) { s with toks:=s.toks+1 }->AZ (AU X.prog X.w) X.A (f (.int i t)) Q E s) :
  UnR X f (rU λi=>.int (g i)):=by
 intro m s o H x v Q I l h;obtain⟨i,rfl,q⟩:=h;obtain⟨t,rfl⟩:=l;exact rule i t s _ _ ⟨.int (g i),H,I.tok _,⟨_,rfl⟩,q⟩
theorem my:UnR X (unaryOp .USub) (rU λi=>.int (-i)):=unI λ_ _ _ _ _ q=>neg_int q
end
section
variable{X:Cx}{a b c:Expr}{ta tb tc:TE}{pos:Pos}
theorem gc(I:Inv X g l H s)(q:Q (.bl k) H)(e:k=m):EP X g l Q (.bool m) s:=by
 subst e;exact⟨.bl k,H,I,rfl,q⟩
theorem sP:OpR X (BH .Lt) (rI0 λi j=>.bl (decide (i < j))):=kA λ_ _ _ _ _ _ _ q=>lt_int q
theorem sQ:OpR X (BH .LtE) (rI0 λi j=>.bl (decide (i<=j))):=kA λ_ _ _ _ _ _ _ q=>le_int q
theorem sS:OpR X (BH .Gt) (rI0 λi j=>.bl (decide (j < i))):=kA λ_ _ _ _ _ _ _ q=>gt_int q
theorem sT:OpR X (BH .GtE) (rI0 λi j=>.bl (decide (j<=i))):=kA λ_ _ _ _ _ _ _ q=>ge_int q
theorem oK:OpR X (BH .Is) (λx y H Q=>y=.non/\Q (.bl (decide (x=.non))) H):=by
 intro m s o H x y v u Q I g l h;obtain⟨rfl,q⟩:=h;cases l;refine is_none_gen (gc I q ?_)
 cases x <;> first
  | (cases g;rfl)
  | (obtain⟨t,rfl⟩:=g;rfl)
theorem jz:OpR X (BH .IsNot) (λx y H Q=>y=.non/\Q (.bl (!decide (x=.non))) H):=by
 intro m s o H x y v u Q I g l h;obtain⟨rfl,q⟩:=h;cases l;refine isnot_none_gen (gc I q ?_)
 cases x <;> first
  | (cases g;rfl)
  | (obtain⟨t,rfl⟩:=g;rfl)
theorem OpR.or(h:OpR X f r)(h':OpR X f A):OpR X f (λx y H Q=>r x y H Q∨A x y H Q):=by
 intro g s l H x y v u Q I m o q
 rcases q with q | q
 ·exact h g s l H x y v u Q I m o q
 ·exact h' g s l H x y v u Q I m o q
theorem B5(b:Expr)(h:op≠.In:=by decide)(g:op≠.NotIn:=by decide):CC op b=false:=by
 have l:(op==CmpOp.In)=false:=by cases op <;> first | rfl | exact zX rfl h
 have m:(op==CmpOp.NotIn)=false:=by cases op <;> first | rfl | exact zX rfl g
 cases b <;> simp[CC,l,m]
theorem jw{op:CmpOp}{r:R2}(ho:OpR X (BH op) r)(g:PE X a ta)(hb:PE X b tb)(l:CC op b=false):PE X (.Compare a [op] [b] pos) (tOp r ta tb):=by
 intro m s o H Q I h;exact wpAny_Compare1 (pr g hb I h λv u A x y B C E G q=>ho m A o B x y v u Q C E G q) l
def lX(t:TE):TT:=λg H Q=>t g H λx l=>∃k,x=.bl k/\Q k l
theorem Zu(ho:OpR X (BH op) r)(m:PE X a ta)(hb:PE X b tb)(o:CC op b=false):PT X (.Compare a [op] [b] pos) (lX (tOp r ta tb)):=by
 intro g s l H Q I h
 refine iC (thn (m g s l H _ I h) λv A ⟨x,B,C,E,G⟩=>thn (hb g A l B _ C G) λu J ⟨y,L,N,O,P⟩=>
  thn (ho g J l L x y v u _ N E O P) λc Y ⟨z,R,S,T,k,e,U⟩=>?_) o
 subst e;cases T;exact Cc ⟨R,S,U⟩
def dz(r m:R2)(ta tb tc:TE):TE:=λg H Q=>ta g H λx o=>tb g o λy s=>r x y s λz l=>∃k,z=.bl k /\
 (if k=true then tc g l λw' A=>m y w' A Q else Q (.bl false) l)
theorem eh(ho:OpR X (BH op) r)(E:OpR X (BH g) G)(J:PE X a ta)(hb:PE X b tb)(L:PE X c tc)
  (N:lastMarks [op,g] [b,c]=false:=by with_unfolding_all rfl):PT X (.Compare a [op,g] [b,c] pos) (lX (dz r G ta tb tc)):=by
 intro l s m H Q I h
 refine isTrue_chain (thn (J l s m H _ I h) λv O ⟨x,P,R,S,T⟩=>test_link (thn (hb l O m P _ R T) λu U ⟨y,Y,Z,o,q2⟩=>
  thn (ho l U m Y x y v u _ Z S o q2) λd s3 ⟨z,A,B,r3,k,e,C⟩=>?_)) N
 subst e;cases r3;refine Cc ?_
 cases k with
 | false=>
  obtain⟨k',e',q'⟩:=C;cases e';exact ite_ff ⟨A,B,q'⟩
 | true=>
  refine ite_tt (test_last (thn (L l s3 m A _ B C) λw' s4 ⟨z',H4,I4,r4,q4⟩=>thn (E l s4 m H4 y z' u w' _ I4 o r4 q4) λd' s5 ⟨z2,H5,I5,r5,k2,e2,q5⟩=>?_));subst e2;cases r5;exact Cc ⟨H5,I5,q5⟩
def qA(K:AE)(x:V)(H:Hp)(k:Bool):Prop:=
 match x with
 | .non=>k=false
 | .bl b=>k=b
 | .int i=>k=(i != 0)
 | .str y=>y.length<=sizeLine/\k=((y.length:Int) != 0)
 | .byt y=>y.size<=sizeLine/\k=((y.size:Int) != 0)
 | .ref p=>(∃g,SqL K H p g/\k = !g.isEmpty)∨(∃g,SqT K H p g/\k = !g.isEmpty)∨∃l,H p=some (.dK l)/\k = !l.isEmpty
 | _=>False
theorem Yw{g:Type}{l:List (g×V)}{vs:List (g×AG)}(r:KV l vs):(!vs.isEmpty) = !l.isEmpty:=by
 cases r <;> rfl
theorem RM(r:BL xs g):(!g.toArray.isEmpty) = !xs.isEmpty:=by
 cases r <;> simp
theorem Kr:(sizeLine:Nat) < 2 ^ 63:=by rw[iL];decide
theorem m9:TruR X (λx H Q=>∃k,qA X.K x H k/\Q k H):=by
 intro O s R H x v Q I A h;obtain⟨k,e,q⟩:=h;have S:=Kr;have T:sizeLine=16777216:=iL
 cases x with
 | non=>
  cases A;have g:k=false:=e;subst g;exact truthy_none ⟨H,I,q⟩
 | bl b=>
  cases A;have g:k=b:=e;subst g;exact Cc ⟨H,I,q⟩
 | int i=>
  obtain⟨t,rfl⟩:=A;have g:k=(i != 0):=e;subst g;exact PySem.P.truthy_int ⟨H,I,q⟩
 | str y=>
  obtain⟨t,rfl⟩:=A;obtain⟨J,g⟩:y.length<=sizeLine/\k=((y.length:Int) != 0):=e;subst g;exact PySem.P.truthy_str (by lia) ⟨H,I.tok _,q⟩
 | byt y=>
  obtain⟨t,rfl⟩:=A;obtain⟨J,g⟩:y.size<=sizeLine/\k=((y.size:Int) != 0):=e;subst g;exact PySem.W.truthy_bytes (by lia) ⟨H,I.tok _,q⟩
 | ref p=>
  cases A
  have g:(∃o,SqL X.K H p o/\k = !o.isEmpty)∨(∃o,SqT X.K H p o/\k = !o.isEmpty)∨∃B,H p=some (.dK B)/\k = !B.isEmpty:=e
  rcases g with⟨o,C,g⟩ | ⟨o,C,g⟩ | ⟨B,C,g⟩
  ·subst g
   obtain⟨L,r,E,G⟩:=I.list C;have l:=r.length;exact wpAny_truthy_list E.isList (by simp only[Ad];lia) ⟨H,I.tok _,by rw[RM r];exact q⟩
  ·subst g
   obtain⟨L,r,E,G⟩:=I.tuple C;have l:=r.length;exact truthy_tuple E (by simp only[Ad];lia) ⟨H,I.tok _,by rw[RM r];exact q⟩
  ·subst g
   obtain⟨G,N,vs,r,m⟩:B.length<=sizeLine/\(p==DM)=false/\∃vs,KV B vs/\s.heap.DictOf (Dx X.prog X.w) p vs:=I.hok p _ C
   have l:B.length=vs.length:=EL r;exact wpAny_truthy_dict N m (by lia) ⟨H,I.tok _,by rw[Yw r];exact q⟩
 | _=>exact(show False from e).elim
theorem ee(A:PE X a ta)(B:∀g,Xq a X.env g=(do let v <-g;XZ a.pos;MH [v] (mH v))) :
  PT X a (λl H Q=>ta l H λx m=>∃k,qA X.K x m k/\Q k m):=by
 intro o s l H Q I h;exact isTrue_plain (thn (A o s l H _ I h) λv C ⟨x,E,G,J,L⟩=>m9 o C l E x v Q G J L) (B _)
theorem vals1(r:BL [x] us):∃u,us=[u]/\RelV x u:=by
 cases r with
 | cons g l=>cases l;exact⟨_,rfl,g⟩
theorem vals2(r:BL [x,y] us):∃u w',us=[u,w']/\RelV x u/\RelV y w':=by
 cases r with
 | cons g l=>
  cases l with
  | cons m o=>cases o;exact⟨_,_,rfl,g,m⟩
theorem cN(l:X.calm=true):HE X (.builtin "max") (λxs H Q=>∃i j,xs=[.int i,.int j]/\Q (.int (if j > i then j else i)) H):=by
 intro m s o H xs A Q I r h;obtain⟨i,j,rfl,q⟩:=h;obtain⟨u,w',rfl,⟨t,rfl⟩,⟨B,rfl⟩⟩:=vals2 r
 refine max_two_ints (I.ok.hd l) λC tk k=>⟨_,H,I.kept k,?_,q⟩
 by_cases g:j > i
 ·rw[qX g,qX g];exact⟨_,rfl⟩
 ·rw[qY g,qY g];exact⟨_,rfl⟩
theorem cM(l:X.calm=true):HE X (.builtin "min") (λxs H Q=>∃i j,xs=[.int i,.int j]/\Q (.int (if j < i then j else i)) H):=by
 intro m s o H xs A Q I r h;obtain⟨i,j,rfl,q⟩:=h;obtain⟨u,w',rfl,⟨t,rfl⟩,⟨B,rfl⟩⟩:=vals2 r
 refine min_two_ints (I.ok.hd l) λC tk k=>⟨_,H,I.kept k,?_,q⟩
 by_cases g:j < i
 ·rw[qX g,qX g];exact⟨_,rfl⟩
 ·rw[qY g,qY g];exact⟨_,rfl⟩
end
structure ZI(h:Bu)(x dx C:AR)(mA:Str->Option AG):Prop where
 obj:h.get? x=some (Db C dx)
 ns:h.Ns1 dx mA
 ne:dx≠x
theorem bf{h:Bu}{g:AR}{l:Str->Option AG}(n:h.Ns1 g l):∃m,h.get? g=some m/\∀name,KR name m=some (l name):=by
 obtain⟨o,s,J,A,B,C,_,E⟩:=n;refine⟨o,A,λname=>?_⟩;have e:=E name;unfold nsFind findBy at e;rw[<-Array.find?_toList]at e;unfold KR;rw[B];dsimp only;split
 ·rename_i y q
  rw[q]at e;exact congrArg some e
 ·rename_i q
  rw[q]at e
  have a:s.toList.any (·.refKey)=false:=by
   rw[dO];intro y G;obtain⟨z,t,H⟩:=C y (BD.mp G);simp[Ow.refKey,H]
  have I:¬s.toList.any (·.refKey)=true:=by rw[a];exact Af
  rw[qY I];exact congrArg some e
theorem ZI.look{h}{x l C}{m}(I:ZI h x l C m):∃g,dJ h x (Db C l) C (some g)/\∀name,KR name g=some (m name):=
 let ⟨g,o,s⟩:=bf I.ns
 ⟨g,⟨I.obj,rfl,rfl,o⟩,s⟩
section
variable{prog:BJ}{w:Bs}{A:BX}{E:AG->AK->Prop}{s:AK}{K:AE}{x dx C f:AR}{mA:Str->Option AG}{name:Str}{v:AG}
theorem kU(X:K.In s.heap)(I:ZI s.heap x dx C mA)(g:Ii K C name=true)(l:NB K C=true)
  (m:CF K (.ref C) name=some none) (o:mA name=some v) (B:ai v=true) (h:Q v { s with toks:=s.toks+1 }) :
  AZ (AU prog w) A (getAttr (.ref x) name expr) Q E s:=by
 obtain⟨H,J,G⟩:=I.look;exact PySem.W.get_value X J (LW g).1 (PySem.W.findObj_own l m rfl (by rw[G,o])) B h
theorem gK(X:K.In s.heap)(I:ZI s.heap x dx C mA)(g:Ii K C name=true)
  (l:CF K (.ref C) name=some (some (.ref f))) (m:T6 K (.ref f)=true) (o:mA name=none) (h:Q (.ref f,[.ref x]) s) :
  AZ (AU prog w) A (cZ (.ref x) name pl) Q E s:=by
 obtain⟨B,J,G⟩:=I.look;exact PySem.W.method_fn X J (LW g).1 (LW g).2 l (beq_iff_eq.mp m) (by show(KR name B).map (·.isSome)=some false;rw[G,o];rfl) h
theorem jL(X:K.In s.heap)(I:ZI s.heap x dx C mA)
  (G:CF K (.ref C) "__setattr__" = some (some (.builtin "object.__setattr__"))) (H:ZN K C=true) (L:PP K C name=some none) (N:NB K C=true)
  (hw:Vx mA O) (hsz:O.length<=sizeLine)
  (h:∀h',ZI h' x dx C (λy=>if y=name then some v else mA y)->Cr dx s.heap h'->Q () { s with heap:=h',toks:=s.toks+2 }) :
  AZ (AU prog w) A (setAttr (.ref x) name v) Q E s:=by
 obtain⟨Y,J,Z⟩:=I.look;refine PySem.W.set_plain X J G (PySem.W.osa_open (s:={ s with toks:=s.toks+1 }) (r:=none) X J H L λb=>?_);obtain⟨cd,P,R⟩:=PySem.W.any_some N;have S:s.heap.get? x=some ⟨.ref C,some dx,.plain,#[]⟩:=I.obj;refine AA (AC (AA (AA (Xl S (AA (qo (s:={ s with toks:=s.toks+1 }) (PySem.W.looks_clsIn X P) ?_))))));rw[R];refine AC (a:=some dx) (AA (AC (AA ?_)))
 refine wpAny_nsSet1 (s:={ s with toks:=s.toks+1 }) I.ns λh' o B=>?_
 obtain⟨oD,T,U,g,l,m⟩:=o.count (t5 name v hw);refine AA (wpAny_lookBehind g (by rw[l];exact pastItsLine_dict (Ap m (by rw[A0];lia))) ?_);exact AC (h _ ⟨(B.2 _ (Bo I.ne)).trans I.obj,o,I.ne⟩ B)
theorem fR(X:K.In s.heap)(m:ci K C=true)
  (hi:CF K (.ref C) "__init__" = some (some (.ref f))) (o:dI K (.ref f)=some (.type "function"))
  (h:FB (AU prog w) (A.under (.builtin "type.__call__" ⟨.ref C :: vs,l⟩)) (.call (.ref f) ⟨.ref (s.heap.objs.size+1) :: vs,l⟩) (PySem.W.InitBack (s.heap.objs.size+1) R)
   { s with heap:=(s.heap.push Cj).push (Db C s.heap.objs.size) }) :
  FB (AU prog w) A (.call (.ref C) ⟨vs,l⟩) R s:=by
 obtain⟨B,g,d,t,os⟩:=s;exact PySem.W.make_core (PySem.W.makes_of X m) (KQ X hi) (λself=>PySem.W.bind_fn X self o) (.inl rfl) h
end
def putF(f:Str)(v:V):List (Str×V)->List (Str×V)
 | []=>[(f,v)]
 | (g,x) :: r=>if g=f then(g,v) :: r else(g,x) :: putF f v r
theorem O7(f g:Str)(v:V):∀fs:List (Str×V),(putF f v fs).lookup g=if g=f then some v else fs.lookup g
 | []=>by
  show G9 g [(f,v)]=_
  by_cases h:g=f
  ·have hb:(g==f)=true:=beq_iff_eq.mpr h
   simp only[G9,hb,qX h]
  ·have hb:(g==f)=false:=beq_eq_false_iff_ne.mpr h
   simp only[G9,hb,qY h]
 | (k,x) :: r=>by
  have m:=O7 f g v r;rw[show putF f v ((k,x) :: r)=(if k=f then(k,v) :: r else(k,x) :: putF f v r)from rfl]
  by_cases l:k=f
  ·rw[qX l]
   by_cases h:g=k
   ·have hb:(g==k)=true:=beq_iff_eq.mpr h
    simp only[G9,hb,qX (h.trans l)]
   ·have hb:(g==k)=false:=beq_eq_false_iff_ne.mpr h
    simp only[G9,hb,qY (λe:g=f=>h (e.trans l.symm))]
  ·rw[qY l]
   by_cases h:g=k
   ·have hb:(g==k)=true:=beq_iff_eq.mpr h
    simp only[G9,hb,qY (λe:g=f=>l (h.symm.trans e))]
   ·have hb:(g==k)=false:=beq_eq_false_iff_ne.mpr h
    simp only[G9,hb];exact m
theorem Oa(f:Str)(v:V):∀fs:List (Str×V),f∈(putF f v fs).map (·.1)/\∀g,g∈fs.map (·.1)->g∈(putF f v fs).map (·.1)
 | []=>⟨by simp[putF],λg h=>by simp at h⟩
 | (k,x) :: r=>by
  obtain⟨m,o⟩:=Oa f v r;rw[show putF f v ((k,x) :: r)=(if k=f then(k,v) :: r else(k,x) :: putF f v r)from rfl]
  by_cases l:k=f
  ·rw[qX l]
   subst l;exact⟨by simp,λg h=>by simpa using h⟩
  ·rw[qY l]
   refine⟨?_,λg h=>?_⟩
   ·rw[A2]
    exact Ab _ m
   ·rw[A2]at h ⊢
    rcases Ax.mp h with e | e
    ·exact Ax.mpr (.inl e)
    ·exact Ab _ (o g e)
theorem O9(f:Str)(v:V):∀fs:List (Str×V),(putF f v fs).length<=fs.length+1
 | []=>by simp[putF]
 | (k,x) :: r=>by
  have l:=O9 f v r;rw[show putF f v ((k,x) :: r)=(if k=f then(k,v) :: r else(k,x) :: putF f v r)from rfl]
  by_cases g:k=f
  ·rw[qX g,A0,A0];lia
  ·rw[qY g,A0,A0];lia
theorem Lh.some_of(r:Lh (some v) o):∃u,o=some u/\RelV v u:=by
 cases o with
 | none=>exact(show False from r).elim
 | some u=>exact⟨u,rfl,r⟩
theorem Lh.none_of(r:Lh none o):o=none:=by
 cases o with
 | none=>rfl
 | some u=>exact(show False from r).elim
theorem br(r:RelV v u):ai u=true:=by
 cases v with
 | non=>cases(show u=B2 from r);rfl
 | bl b=>cases(show u=J9 b from r);rfl
 | int i=>obtain⟨t,e⟩:=(show ∃t,u=Go i t from r);cases e;rfl
 | str x=>obtain⟨t,e⟩:=(show ∃t,u=PL x t from r);cases e;rfl
 | byt b=>obtain⟨t,e⟩:=(show ∃t,u=qR b t from r);cases e;rfl
 | flt b=>obtain⟨t,e⟩:=(show ∃t,u=Xv b t from r);cases e;rfl
 | ref a=>cases(show u=A7 a from r);rfl
 | ty n=>cases(show u=Cn n from r);rfl
section
variable{P:BJ}{w:Bs}{H:Hp}{h:Bu}{a C dx:AR}{fs:List (Str×V)}
theorem QE(l:HOk P w H h)(e:H a=some (.ins C dx fs)):∃g,ZI h a dx C g/\(∀f,Lh (fs.lookup f) (g f))/\Vx g (fs.map (·.1))/\fs.length<=1000/\H dx=some (.own a):=by
 obtain⟨d,z,m,o,g,n,r,q⟩:=(show C8 P w H h a (.ins C dx fs)from l a _ e);exact⟨g,⟨o,n,m⟩,r,q,z,d⟩
end
structure Cls(K:AE)(C:AR):Prop where
 pg:Ii K C Xa=true
 hd:NB K C=true
 po:ZN K C=true
 sa:CF K (.ref C) "__setattr__" = some (some (.builtin "object.__setattr__"))
theorem Cls.get{K}{C}(c:Cls K C)(f:Str):Ii K C f=true:=c.pg
def Dt(K:AE)(C:AR)(f:Str):Prop:=CF K (.ref C) f=some none
theorem Dt.taker{K}{C}{f}(n:Dt K C f):PP K C f=some none:=by
 unfold PP;rw[show CF K (.ref C) f=some none from n];rfl
structure Li(K:AE)(C:AR)(m:Str)(f:AR):Prop where
 at_:CF K (.ref C) m=some (some (.ref f))
 fn:T6 K (.ref f)=true
 kp:Ee K (.ref f)=true
section
variable{X:Cx}{ζ:List (AR×Obj)}{σ:St}{H:Hp}{s:AK}{a C dx:AR}{fs:List (Str×V)}{f:Str}{v:V}{A:BX}{E:AG->AK->Prop}
theorem Yy(I:Inv X ζ σ H s)(e:H a=some (.ins C dx fs))(c:Cls X.K C)(n:Dt X.K C f)(l:fs.lookup f=some v)
  (h:∀u s',Inv X ζ σ H s'->RelV v u->Q u s'):AZ (AU X.prog X.w) A (getAttr (.ref a) f b) Q E s:=by
 obtain⟨m,O,r,_,_,_⟩:=QE I.hok e;obtain⟨u,B,g⟩:=Lh.some_of (v:=v) (o:=m f) (by rw[<-l];exact r f);exact kU I.kIn O (c.get f) c.hd n B (br g) (h u _ (I.tok _) g)
theorem Yx(I:Inv X ζ σ H s)(e:H a=some (.ins C dx fs))(c:Cls X.K C)(k:Li X.K C m g)(l:fs.lookup m=none)
  (h:Q (.ref g,[.ref a]) s):AZ (AU X.prog X.w) A (cZ (.ref a) m pl) Q E s:=by
 obtain⟨o,O,r,_,_,_⟩:=QE I.hok e;have B:o m=none:=Lh.none_of (by rw[<-l];exact r m);exact gK I.kIn O (c.get m) k.at_ k.fn B h
theorem YN(I:Inv X ζ σ H s)(e:H a=some (.ins C dx fs))(c:Cls X.K C)(n:Dt X.K C f)(U:fs.length < 1000)(J:RelV y u)
  (h:∀s',Inv X ζ σ (upd H a (.ins C dx (putF f y fs))) s'->Q () s'):AZ (AU X.prog X.w) A (setAttr (.ref a) f u) Q E s:=by
 obtain⟨m,O,r,B,_,G⟩:=QE I.hok e
 have L:(fs.map (·.1)).length<=sizeLine:=by rw[AT,iL];lia
 refine jL I.kIn O c.sa c.po n.taker c.hd B L λN l P=>h _ ?_
 have R:∃o,N.get? dx=some o:=let ⟨o,_,_,S,_⟩:=l.ns;⟨o,S⟩
 refine I.write (x:=a) (e:=dx) (by rw[e];exact EI) (.inr G) (λb q hb z=>(P.2 b hb).trans z) R ?_;refine⟨by rw[BC O.ne];exact G,?_,O.ne,l.obj,_,l.ns,λg=>?_,λg T=>?_⟩
 ·have:=O9 f y fs;lia
 ·show Lh ((putF f y fs).lookup g) (if g=f then some u else m g)
  rw[O7]
  by_cases q:g=f
  ·rw[qX q,qX q];exact J
  ·rw[qY q,qY q];exact r g
 ·by_cases q:g=f
  ·rw[q];exact(Oa f y fs).1
  ·refine(Oa f y fs).2 g (B g λz=>T ?_)
   show(if g=f then some u else m g)=none;rw[qY q];exact z
theorem Inv.made(I:Inv X ζ σ H s):Inv X ζ σ (upd (upd H s.heap.objs.size (.own (s.heap.objs.size+1))) (s.heap.objs.size+1) (.ins C s.heap.objs.size []))
  { s with heap:=(s.heap.push Cj).push (Db C s.heap.objs.size) }:=by
 have g:(s.heap.push Cj).get? s.heap.objs.size=some Cj:=AJ s.heap rfl
 have m:((s.heap.push Cj).push (Db C s.heap.objs.size)).get? (s.heap.objs.size+1)=some (Db C s.heap.objs.size):=by
  have:=AJ (s.heap.push Cj) (o:=Db C s.heap.objs.size) rfl;rwa [A9]at this
 have B:(s.heap.push Cj).Ns s.heap.objs.size (λ_=>none):=⟨Cj,#[],_,g,rfl,(λe G=>zX G (by simp)),λ_=>rfl⟩;have J:=I.laid (a:=s.heap.objs.size) (o:=.own (s.heap.objs.size+1)) (h':=s.heap.push Cj) (t':=s.toks) (λb u q=>AB _ q) (AN _) ⟨_,g⟩;refine J.laid (a:=s.heap.objs.size+1) (o:=.ins C s.heap.objs.size []) (t':=s.toks) (λb u q=>AB _ q) (Xy (A9 _ _)) ?_;have l:s.heap.objs.size≠s.heap.objs.size+1:=Ae (Bx _);refine⟨by rw[BC l,BV],Bk _,l,m,λ_=>none,(Bu.Ns1.of_empty B).at λo q=>AB _ q,λ_=>EI,λy L=>zX rfl L⟩
theorem lA(hb:Da e f g (BQ e g)=BQ e g)
  (h:AZ (AU prog w) A (BQ e g) (λo l=>AZ (AU prog w) A (getAttr o f true) Q E l) E s):AZ (AU prog w) A (BQ (.Attribute e f pos) g) Q E s:=
 Attribute_any_ h (by rw[arm_eval_Attribute,hb])
end
def tFld(K:AE)(l:TE)(f:Str):TE:=λm H Q=>l m H λx g=>∃a C o fs v,x=.ref a/\g a=some (.ins C o fs)/\Cls K C/\Dt K C f/\fs.lookup f=some v/\Q v g
def sFld(K:AE)(o s:TE)(f:Str):TS:=λD g H=>s g H λy A=>o g A λx l=>∃a C m fs,x=.ref a/\l a=some (.ins C m fs)/\Cls K C/\Dt K C f/\fs.length < 1000 /\
 D.nx g (upd l a (.ins C m (putF f y fs)))
section
variable{X:Cx}{o e value:Expr}{f:Str}{pos pos':Pos}{ta tv:TE}
theorem n8(g:PE X e ta)(hb:Da e f X.env (BQ e X.env)=BQ e X.env):PE X (.Attribute e f pos) (tFld X.K ta f):=by
 intro m s A H Q I h;refine lA hb (thn (g m s A H _ I h) λu O ⟨x,B,E,G,a,C,P,fs,v,ex,J,c,n,l,q⟩=>?_);subst ex;obtain rfl:u=A7 a:=G
 exact Yy E J c n l λR S L N=>⟨v,B,L,N,q⟩
theorem nZ(A:PE X o ta)(B:PE X value tv)(E:Fc value (some (.Attribute o f pos')) pos.line X.env=pure false):PS X (.Assign [.Attribute o f pos'] value pos) (sFld X.K ta tv f):=by
 intro m s g H D I h;refine plainObj_wpAny_Assign_Attribute (thn (B m s g H _ I h) λu G ⟨y,J,L,N,q⟩=>thn (A m G g J _ L q) λO U ⟨x,Y,P,Q,a,C,Z,fs,ex,R,c,n,l,S⟩=>?_) E;subst ex;obtain rfl:O=A7 a:=Q
 exact YN P R c n l N λs3 T=>⟨g,_,T,S⟩
end
section
variable{X:Cx}{ζ:List (AR×Obj)}{σ:St}{H:Hp}{s:AK}{A:BX}{E:AG->AK->Prop}{Q:AG->AK->Prop}{c:AG}{b:Bool}
inductive N0(K:AE)(H:Hp):V->AG->Prop where
 | non:N0 K H .non (.type "NoneType")
 | bl (x:Bool):N0 K H (.bl x) (.type "bool")
 | int (i:Int):N0 K H (.int i) (.type "int")
 | str (x:Str):N0 K H (.str x) (.type "str")
 | flt (x:UInt64):N0 K H (.flt x) (.type "float")
 | lst {a:AR} {xs:List V} (e:H a=some (.lst xs)):N0 K H (.ref a) (.type "list")
 | frz {a:AR} {o:Obj} {xs:List V} (e:H a=some (.frz o (.lst xs))):N0 K H (.ref a) (.type "list")
 | tup {a:AR} {xs:List V} (e:H a=some (.tup xs)):N0 K H (.ref a) (.type "tuple")
 | dK {a:AR} {sN:List (Key×V)} (e:H a=some (.dK sN)):N0 K H (.ref a) (.type "dict")
 | dT {a:AR} {sN:List (List Key×V)} (e:H a=some (.dT sN)):N0 K H (.ref a) (.type "dict")
 | ins {a C dx:AR} {fs:List (Str×V)} (e:H a=some (.ins C dx fs)) (cl:Cls K C) (ha:CF K (.ref C) "__class__" = some (some (.builtin "object.__class__")))
   (hn:ZM K (.builtin "object.__class__") "__get__" = some (some (.builtin "getset_descriptor.__get__"))) (ϰ:cg K (.builtin "object.__class__")=some true)
   (hm:Lj K C (.type "object")=some true):N0 K H (.ref a) (.ref C)
theorem bn(I:Inv X ζ σ H s)(g:RelV x u)(ty:N0 X.K H x t)(e:Dy X.K t c=some b)(h:∀tk,Q (.bool b) { s with toks:=tk }) :
  AZ (AU X.prog X.w) A (call (.builtin "isinstance") [u,c]) Q E s:=by
 cases ty with
 | non=>cases(show u=B2 from g);exact CI PySem.W.kitx_none I.kIn EI e (λz=>nomatch z) h
 | bl y=>cases(show u=J9 y from g);exact CI PySem.W.kitx_bool I.kIn EI e (λz=>nomatch z) h
 | int i=>obtain⟨t,q⟩:=(show ∃t,u=Go i t from g);cases q;exact CI PySem.W.kitx_int I.kIn EI e (λz=>nomatch z) h
 | str y=>obtain⟨t,q⟩:=(show ∃t,u=PL y t from g);cases q;exact CI PySem.W.kitx_str I.kIn EI e (λz=>nomatch z) h
 | flt y=>obtain⟨t,q⟩:=(show ∃t,u=Xv y t from g);cases q;exact CI PySem.W.kitx_float I.kIn EI e (λz=>nomatch z) h
 | @lst a B l=>
  cases(show u=A7 a from g);obtain⟨_,_,n,_,m⟩:=(show C8 X.prog X.w H s.heap a (.lst B)from I.hok a _ l);exact CI ZO I.kIn ⟨_,m,rfl⟩ e (λz=>nomatch z) h
 | @frz a P B l=>
  cases(show u=A7 a from g);obtain⟨_,_,_,n,_,m⟩:=(show C8 X.prog X.w H s.heap a (.frz P (.lst B))from I.hok a _ l);exact CI ZO I.kIn ⟨_,m,rfl⟩ e (λz=>nomatch z) h
 | @tup a B l=>
  cases(show u=A7 a from g);obtain⟨_,_,_,p⟩:=(show C8 X.prog X.w H s.heap a (.tup B)from I.hok a _ l);obtain⟨o,m,G,_⟩:=p;exact CI PySem.W.kitx_tuple I.kIn ⟨o,m,G⟩ e (λz=>nomatch z) h
 | @dK a L l=>
  cases(show u=A7 a from g);obtain⟨_,_,Z,_,p⟩:=(show C8 X.prog X.w H s.heap a (.dK L)from I.hok a _ l);obtain⟨o,R,S,m,G,_⟩:=p;exact CI ZP I.kIn ⟨o,m,G.1⟩ e (λz=>nomatch z) h
 | @dT a L l=>
  cases(show u=A7 a from g);obtain⟨_,_,B,_,o,R,S,m,G,_⟩:=(show C8 X.prog X.w H s.heap a (.dT L)from I.hok a _ l);exact CI ZP I.kIn ⟨o,m,G.1⟩ e (λz=>nomatch z) h
 | @ins a C dx fs l N T U ϰ Y=>
  cases(show u=A7 a from g);obtain⟨mA,O,_⟩:=QE I.hok l;obtain⟨od,J,_⟩:=O.look;exact CI (PySem.W.kitx_own (N.get _) N.hd T U ϰ Y) I.kIn J e (λz=>nomatch z) h
end
structure GD(k:Nat)(A:BX):Prop where
 hd:A.handled=none
 dp:A.depth+3 * k+5 < recursionLimit
 un:A.units+16 * k+200 < Dm
theorem GD.mono(r:GD k A)(h:j<=k):GD j A:=⟨r.hd,by have:=r.dp;lia,by have:=r.un;lia⟩
theorem GD.deeper(r:GD (k+1) A)(g:Env):GD k (A.deeper g):=
 ⟨r.hd,by have:=r.dp;show A.depth+1+3 * k+5 < _;lia,by have:=r.un;show A.units+3+16 * k+200 < _;lia⟩
theorem Yq{A:BX}{C:AR}{us:List AG}{g:List (Str×AG)}:(A.under (.builtin "type.__call__" ⟨.ref C :: us,g⟩)).depth=A.depth+1:=by
 first | rfl | simp[Vr,Code.weight,Code.isCreation,Code.isGuard,Code.isCaller,qy,Xj,guardIds]
theorem Yp{A:BX}{C:AR}{us:List AG}{g:List (Str×AG)}:(A.under (.builtin "type.__call__" ⟨.ref C :: us,g⟩)).units=A.units+1:=by
 first | rfl | simp[Vr,Code.cUnits,qy,Xj]
theorem GD.make{k}{A}(r:GD (k+1) A)(C:AR)(us:List AG)(g:List (Str×AG)):GD k (A.under (.builtin "type.__call__" ⟨.ref C :: us,g⟩)):=
 ⟨r.hd,by have:=r.dp;rw[Yq];lia,by have:=r.un;rw[Yp];lia⟩
theorem GD.depth(r:GD k A):A.depth < recursionLimit:=by have:=r.dp;lia
theorem GD.units(r:GD k A):A.units+64 < Dm:=by have:=r.un;lia
def tNil:TA:=λ_ H Q=>Q [] H
def rS(l:TE)(m:TA):TA:=λg H Q=>l g H λx o=>m g o λs A=>Q (x :: s) A
section
variable{X:Cx}{e:Expr}{es:List Expr}{te:TE}{t:TA}{pos:Pos}
theorem E5:PA X [] tNil:=λ_ _ _ _ H Q I h=>Ie ⟨[],H,I,.nil,h⟩
theorem De(m:PE X e te)(o:PA X es t)(A:AO (e :: es) X.env=(false,BQ e X.env) :: AO es X.env:=by rfl):PA X (e :: es) (rS te t):=by
 intro pos g s l H Q I h;rw[A];show AZ _ _ (qK ((false,BQ e X.env) :: CT pos (AO es X.env))) _ _ s;refine NC (thn (m g s l H _ I h) λu B ⟨x,C,E,G,J⟩=>?_)
 exact thn (o pos g B l C _ E J) λS T ⟨L,N,O,P,R⟩=>⟨x :: L,N,O,.cons G P,R⟩
def tTup(t:TA):TE:=λm H Q=>t m H λg l=>g.length<=sizeLine/\∀p,l p=none->Q (.ref p) (upd l p (.tup g))
def tLst(t:TA):TE:=λm H Q=>t m H λg l=>g.length<=sizeLine/\∀p,l p=none->Q (.ref p) (upd l p (.lst g))
theorem nt{x1}(h:PA X es t):PE X (.Tuple es x1 pos) (tTup t):=by
 intro o s A H Q I B;refine wpAny_Tuple_spliced (thn (h pos o s A H _ I B) λC g ⟨E,l,m,r,z,q⟩=>⟨by rw[<-r.length];exact z,?_⟩);have G:l g.heap.objs.size=none:=m.hok.fresh (AN _);refine⟨.ref g.heap.objs.size,upd l g.heap.objs.size (.tup E),m.laid (t':=g.toks) (λb u e=>AB _ e) (AN _) ?_,rfl,q _ G⟩;exact⟨⟨z,⟨_,AJ _ rfl,rfl⟩⟩,C,r,⟨_,AJ _ rfl,rfl,_,rfl⟩⟩
theorem nz(h:PA X es t):PE X (.List es pos) (tLst t):=by
 intro o s A H Q I B;refine wpAny_List_spliced (thn (h pos o s A H _ I B) λC g ⟨E,l,m,r,z,q⟩=>⟨by rw[<-r.length];exact z,?_⟩);have G:l g.heap.objs.size=none:=m.hok.fresh (AN _);refine⟨.ref g.heap.objs.size,upd l g.heap.objs.size (.lst E),m.laid (t':=g.toks) (λb u e=>AB _ e) (AN _) ?_,rfl,q _ G⟩;exact⟨z,C,0,r,AJ _ rfl⟩
end
abbrev Sp:=List V->Hp->VK->XK->Prop
abbrev CXT:=List Env->Hp->AK->XK->AG->AK->Prop
structure ZJ(P:BJ)(w:Bs)(K:AE)(mg:Str->Option AG)(base:Bu)(A:BX)(outer:List Env)(s:AK)(H:Hp):Prop where
 frames:A.frames=some outer
 mod:Mod K mg base
 bs:∀b o,base.get? b=some o->s.heap.get? b=some o/\H b=none
 bsz:base.objs.size<=s.heap.objs.size
 funs:s.heap.FunFrames base outer
 frf:∀b∈frs outer,H b=none
 hok:HOk P w H s.heap
 bare:Ht s.gens
def CE(g:List Env)(P:BJ)(w:Bs)(H:Hp)(s:AK)(Q:VK)(u:AG)(s':AK):Prop:=
 ∃v l,s'.os=s.os/\Ht s'.gens/\Un (frs g) [] H l s.heap s'.heap/\HOk P w l s'.heap/\RelV v u/\Q v l
def CR(CX:CXT)(g:List Env)(P:BJ)(w:Bs)(H:Hp)(s:AK)(Q:VK)(E:XK)(r:mP)(s':AK):Prop:=
 match r with
 | .ok (.ret u)=>CE g P w H s Q u s'
 | .ok _=>False
 | .error e=>CX g H s E e s'
structure Bm(P:BJ)(w:Bs)(K:AE)(mg:Str->Option AG)(base:Bu)(CX:CXT)(k:Nat)(f:AR)(fd:Hx)(ps:List Str)(sp:Sp):Prop where
 len:∀vs H Q E,sp vs H Q E->vs.length=ps.length
 run:∀(A:BX) (outer:List Env) (s:AK) (H:Hp) (args:Args) (us:List AG) (vs:List V) (Q:VK) (E:XK),GD k A->ZJ P w K mg base A outer s H->Xk s fd args (ps.zip us)->BL vs us->sp vs H Q E ->
  FB (AU P w) A (.call (.ref f) args) (CR CX outer P w H s Q E) s
theorem Bm.imp{P}{w}{K}{m}{base}{CX}{k}{f}{fd}{o}{sp sp'}(F:Bm P w K m base CX k f fd o sp)
  (h:∀vs H Q E,sp' vs H Q E->sp vs H Q E):Bm P w K m base CX k f fd o sp':=
 ⟨λvs H Q E q=>F.len vs H Q E (h _ _ _ _ q),λA g s H l B vs Q E C G hb I J=>F.run A g s H l B vs Q E C G hb I (h _ _ _ _ J)⟩
theorem ZJ.make{P}{w}{K}{l}{base}{A}{g}{s}{H}(e:ZJ P w K l base A g s H)(C:AR)(us:List AG)(m:List (Str×AG)) :
  ZJ P w K l base (A.under (.builtin "type.__call__" ⟨.ref C :: us,m⟩)) g s H:=⟨by first | exact e.frames | (simpa[Vr,Code.envs,Xj,pushEnvs]using e.frames),e.mod,e.bs,e.bsz,e.funs,e.frf,e.hok,e.bare⟩
section
variable{X:Cx}{ζ:List (AR×Obj)}{σ:St}{H:Hp}{s s':AK}
theorem Inv.env0(I:Inv X ζ σ H s):ZJ X.prog X.w X.K X.mg X.base X.A X.stack s H:=
 ⟨I.ok.frames,I.ok.mod,I.bs,Ap I.ok.bsz I.sz,I.stack,I.stkFree,I.hok,I.bare⟩
theorem Inv.after(I:Inv X ζ σ H s)(h:CE X.stack X.prog X.w H s Q u s'):EP X ζ σ Q u s':=by
 obtain⟨v,o,os,l,un,m,r,q⟩:=h;obtain⟨A,g,d,t,B⟩:=s';obtain rfl:B=s.os:=os;exact⟨v,o,I.call (h':=A) (g':=g) (d':=d) (t':=t) (ch:=[]) un m l (λb z=>zX z (by simp)),r,q⟩
end
def rT(sp:Sp)(l:List V)(E:St->XK)(t:TA):TE:=λg H Q=>t g H λm o=>sp (m++l) o Q (E g)
def lY(C:AR)(m:Str)(sp:Sp)(o:List V)(E:St->XK)(s:TE)(t:TA):TE:=λg H Q=>s g H λx l=>∃a A fs,x=.ref a/\l a=some (.ins C A fs)/\fs.lookup m=none /\
 t g l λB G=>sp (x :: (B++o)) G Q (E g)
def rM(C:AR)(sp:Sp)(o:List V)(E:St->XK)(t:TA):TE:=λm H Q=>t m H λs l=>∀x g,l x=none->l g=none->g≠x ->
 sp (.ref x :: (s++o)) (upd (upd l g (.own x)) x (.ins C g [])) (λv A=>v=.non/\Q (.ref x) A) (E m)
def Binds(K:AE)(fd:Hx)(l:List Str)(ds:List AG):Prop:=
 ∀(s:AK) (g:List AG),K.In s.heap->(g++ds).length=l.length->Xk s fd ⟨g,[]⟩ (l.zip (g++ds))
theorem Binds.all{K}{fd}{g}(h:∀us:List AG,us.length=g.length->iS fd ⟨us,[]⟩=pure (g.zip us)):Binds K fd g []:=λs us _ l=>by
 rw[Bt]at l ⊢;exact .of_eq (h us l)
def Jt(CX:CXT)(X:Cx)(E:St->XK):Prop:=∀(m:List (AR×Obj)) (g:St) (H:Hp) (s:AK) (e:AG) (l:AK),Inv X m g H s->CX X.stack H s (E g) e l->X.xe e l
section
variable{X:Cx}{k:Nat}{f C:AR}{fd:Hx}{ps:List Str}{sp:Sp}{E:St->XK}{x m:Str}{p pos apos:Pos}{e o:Expr}{es:List Expr}{ta:TE}{t:TA}
theorem eU(F:Bm X.prog X.w X.K X.mg X.base CX k f fd ps sp)(L:GD k X.A)(hb:Binds X.K fd ps ds)(N:BL B ds)(O:Jt CX X E)
  (I:Inv X G l H s) (r:BL vs us) (h:sp (vs++B) H Q (E l)):AZ (AU X.prog X.w) X.A (call (.ref f) us) (EP X G l Q) X.xe s:=by
 have J:BL (vs++B) (us++ds):=r.append N
 have P:(us++ds).length=ps.length:=by rw[<-J.length];exact F.len _ _ _ _ h
 refine JE (DY (F.run X.A X.stack s H ⟨us,[]⟩ (us++ds) (vs++B) Q (E l) L I.env0 (hb s us I.kIn P) J h) λr R g=>?_)
 cases r with
 | error e=>exact O G l H s e R I g
 | ok S=>
  cases S with
  | ret u=>exact I.after g
  | next=>exact Dv g
  | brk=>exact Dv g
  | cont=>exact Dv g
theorem jx(F:Bm X.prog X.w X.K X.mg X.base CX k f fd ps sp)(l:GD k X.A)(B:Gl X x)(G:X.mg x=some (.ref f))(J:Ee X.K (.ref f)=true)(hb:Binds X.K fd ps ds)(L:BL N ds)(O:Jt CX X E)
  (P:PA X (e :: es) t) (R:(x==("__debug__" : Str))=false:=by decide) (S:AO (e :: es) X.env=(false,BQ e X.env) :: AO es X.env:=by rfl) (T:(CT pos (AO es X.env)).any (·.1)=false:=by rfl) :
  PE X (.Call (.Name x p) (e :: es) [] pos) (rT sp N E t):=by
 intro U s Y H Q I h;refine C9 (Nf I B G ?_ R);refine MP (h₀:=X.base) I.ok.mod.kin J (thn (P pos U s Y H _ I h) λZ s1 ⟨vs,H1,g,r,q⟩=>⟨g.kIn,?_⟩) S T;exact eU F l hb L O g r q
theorem jr(O:PE X o ta)(c:Cls X.K C)(g:Li X.K C m f)(F:Bm X.prog X.w X.K X.mg X.base CX k f fd ps sp)(P:GD k X.A)(hb:Binds X.K fd ps ds)(R:BL S ds)(T:Jt CX X E)(U:PA X (e :: es) t)
  (Y:AO (e :: es) X.env=(false,BQ e X.env) :: AO es X.env:=by rfl) (Z:(CT pos (AO es X.env)).any (·.1)=false:=by rfl)
  (ht:BQ (.Call (.Attribute o m apos) (e :: es) [] pos) X.env=(do
   let B <-BQ o X.env
   XZ apos.atName
   let (f,fts) <-MH [B] (cZ B m pl)
   iR pos f fts (CT pos (AO (e :: es) X.env)) (FN pos (DH [] X.env))):=by rfl) :
  PE X (.Call (.Attribute o m apos) (e :: es) [] pos) (lY C m sp S E ta t):=by
 intro G s J H Q I h;refine PySem.W.methodCall_KW (pl:=pl) (thn (O G s J H _ I h) λu s1 ⟨x,H1,L,rx,a,dx,fs,ex,ea,l,q⟩=>?_) ht;subst ex;obtain rfl:u=A7 a:=rx;refine Yx L ea c g l ?_;refine MP (first:=[.ref a]) (h₀:=X.base) I.ok.mod.kin g.kp (thn (U pos G s1 J H1 _ L q) λus s2 ⟨vs,H2,N,r,q2⟩=>⟨N.kIn,?_⟩) Y Z;exact eU (us:=.ref a :: us) (vs:=.ref a :: vs) F P hb R T N (.cons rfl r) q2
structure Mk(K:AE)(C f:AR):Prop where
 makes:ci K C=true
 init:CF K (.ref C) "__init__" = some (some (.ref f))
 fn:T6 K (.ref f)=true
 kp:Ee K (.ref C)=true
theorem eT(M:Mk X.K C f)(F:Bm X.prog X.w X.K X.mg X.base CX k f fd ps sp)(P:GD (k+1) X.A)(hb:Binds X.K fd ps ds)(R:BL J ds)
  (S:Jt CX X E) (I:Inv X L l H s) (r:BL vs us)
  (h:∀x B,H x=none->H B=none->B≠x->sp (.ref x :: (vs++J)) (upd (upd H B (.own x)) x (.ins C B [])) (λv T=>v=.non/\Q (.ref x) T) (E l)) :
  AZ (AU X.prog X.w) X.A (call (.ref C) us) (EP X L l Q) X.xe s:=by
 have N:=h (s.heap.objs.size+1) s.heap.objs.size (I.hok.fresh (EJ _)) (I.hok.fresh (AN _)) (Ae (Bx _));have G:=Inv.made (C:=C) I;have O:BL (V.ref (s.heap.objs.size+1) :: (vs++J)) (A7 (s.heap.objs.size+1) :: (us++ds)):=.cons rfl (r.append R)
 have U:(A7 (s.heap.objs.size+1) :: us++ds).length=ps.length:=by
  have e:=O.length;rw[F.len _ _ _ _ N]at e;exact e.symm
 refine JE (fR (f:=f) I.kIn M.makes M.init (beq_iff_eq.mp M.fn) (DY (F.run _ X.stack _ _ ⟨A7 (s.heap.objs.size+1) :: us,[]⟩ (A7 (s.heap.objs.size+1) :: (us++ds)) _ _ (E l) (P.make C us [])
  (G.env0.make C us []) (hb _ (A7 (s.heap.objs.size+1) :: us) G.kIn U) O N) λr Y g=>?_))
 cases r with
 | error e=>exact S L l _ _ e Y G g
 | ok Z=>
  cases Z with
  | ret u=>
   obtain⟨v,H',I3,rv,ev,q3⟩:=G.after g;subst ev;exact⟨rv,⟨V.ref (s.heap.objs.size+1),H',I3,rfl,q3⟩⟩
  | next=>exact Dv g
  | brk=>exact Dv g
  | cont=>exact Dv g
theorem jt(M:Mk X.K C f)(F:Bm X.prog X.w X.K X.mg X.base CX k f fd ps sp)(l:GD (k+1) X.A)(B:Gl X x)(G:X.mg x=some (.ref C))(hb:Binds X.K fd ps ds)(J:BL L ds)(N:Jt CX X E)
  (O:PA X (e :: es) t) (P:(x==("__debug__" : Str))=false:=by decide) (R:AO (e :: es) X.env=(false,BQ e X.env) :: AO es X.env:=by rfl) (S:(CT pos (AO es X.env)).any (·.1)=false:=by rfl) :
  PE X (.Call (.Name x p) (e :: es) [] pos) (rM C sp L E t):=by
 intro T s U H Q I h;refine C9 (Nf I B G ?_ P);refine MP (h₀:=X.base) I.ok.mod.kin M.kp (thn (O pos T s U H _ I h) λY Z ⟨vs,H1,g,r,q⟩=>⟨g.kIn,?_⟩) R S;exact eT M F l hb J N g r q
end
structure Aw(N P:List Str)(sc:SH):Prop where
 kind:sc.kind=.function
 co:sc.isCoroutine=false
 gen:sc.isGenerator=false
 nd:N.Nodup
 pre:N.take P.length=P
 par:∀x∈P,sc.names.lookup x=some .local∨sc.names.lookup x=some .cell
 nofree:∀y∈sc.names,y.2≠.free
theorem Tx{kindOf}{x}:∀{binds:List (Str×AG)} {m:Str->Option AG},(∀v,(x,v)∉binds)->cb kindOf binds m x=m x
 | [],_,_=>rfl
 | (n,v) :: r,m,h=>by
  unfold cb;rw[Tx λw hw=>h w (Ab _ hw)];split
  ·have:x≠n:=by rintro rfl;exact h v Am
   simp[this]
  ·rfl
theorem T0{kindOf}{x}:∀{binds:List (Str×AG)} {m:Str->Option AG},(∀v,(x,v)∉binds)->cc kindOf binds m x=m x
 | [],_,_=>rfl
 | (n,v) :: r,m,h=>by
  unfold cc;rw[T0 λw hw=>h w (Ab _ hw)];split
  ·rfl
  ·have:x≠n:=by rintro rfl;exact h v Am
   simp[this]
theorem Tz{kindOf}{x}{v}:∀{P:List Str} {vs:List AG} {i:Nat} {m:Str->Option AG},P.Nodup->P[i]?=some x->vs[i]?=some v->kindOf x=some .local ->
  cb kindOf (P.zip vs) m x=some v
 | [],_,_,_,_,h,_,_=>by simp at h
 | _ :: _,[],_,_,_,_,h,_=>by simp at h
 | p :: P,w :: vs,0,m,o,g,l,s=>by
  simp at g l;subst g;subst l;show cb kindOf ((p,w) :: P.zip vs) m p=_;unfold cb;rw[Tx λv A=>(KW.mp o).1 (R7 A).1,qX s];simp
 | p :: P,w :: vs,i+1,m,o,g,l,s=>by
  show cb kindOf ((p,w) :: P.zip vs) m x=_;unfold cb;exact Tz (i:=i) (KW.mp o).2 (by simpa using g) (by simpa using l) s
theorem T1{kindOf}{x}{v}:∀{P:List Str} {vs:List AG} {i:Nat} {m:Str->Option AG},P.Nodup->P[i]?=some x->vs[i]?=some v->kindOf x≠some .local ->
  cc kindOf (P.zip vs) m x=some v
 | [],_,_,_,_,h,_,_=>by simp at h
 | _ :: _,[],_,_,_,_,h,_=>by simp at h
 | p :: P,w :: vs,0,m,o,g,l,s=>by
  simp at g l;subst g;subst l;show cc kindOf ((p,w) :: P.zip vs) m p=_;unfold cc;rw[T0 λv A=>(KW.mp o).1 (R7 A).1,qY s];simp
 | p :: P,w :: vs,i+1,m,o,g,l,s=>by
  show cc kindOf ((p,w) :: P.zip vs) m x=_;unfold cc;exact T1 (i:=i) (KW.mp o).2 (by simpa using g) (by simpa using l) s
def start(N:List Str)(vs:List V):St:=vs.map some++BF (N.length - vs.length) none
def VD(CX:CXT)(P:BJ)(w:Bs)(K:AE)(mg:Str->Option AG)(base:Bu)(N:List Str)(g:Str)(scope:SH)(f:AR)(l:AG)(A:BX)(outer:List Env)(s:AK)(H:Hp)(E:XK):Cx where
 prog:=P
 w:=w
 K:=K
 mg:=mg
 base:=base
 A:=A.deeper (MM g scope s.heap.objs.size f l)
 N:=N
 s₀:=s
 H₀:=H
 env:=MM g scope s.heap.objs.size f l
 outer:=outer
 stack:=MM g scope s.heap.objs.size f l :: outer
 ex:=[]
 calm:=true
 fn:=λ_=>true
 pn:=[]
 xe:=λe o=>AZ (AU P w) (A.deeper (MM g scope s.heap.objs.size f l)) (leaving (MM g scope s.heap.objs.size f l) e) (λ_ m=>CX outer H s E e m) (λB m=>CX outer H s E B m) o
theorem XG{g:SH}{n:Nat}{x:Str}(h:g.names.lookup x=some .cell):∃c,(B7 n g.names []).lookup x=some c:=by
 have q:=T7 g.names n [] (.inl h);exact Ib.mp q
theorem bo{CX:CXT}{P:BJ}{w:Bs}{K:AE}{O:Str->Option AG}{base:Bu}{N B:List Str}{l:Str}{scope:SH}{f:AR}{I:AG}{A:BX}{g:List Env}{s s1:AK}{H:Hp}{E:XK}{us:List AG}{vs:List V}
  (S:Aw N B scope) (U:A.handled=none) (o:ZJ P w K O base A g s H) (Z:vs.length=B.length) (r:BL vs us)
  (x:InCallC s s.heap.objs.size (cb (MM l scope s.heap.objs.size f I).kindOf (B.zip us) λ_=>none) (B7 (s.heap.objs.size+1) scope.names []) (cc (MM l scope s.heap.objs.size f I).kindOf (B.zip us) λ_=>none) s1) :
  Inv (VD CX P w K O base N l scope f I A g s H E) [] (start N vs) H s1:=by
 have uL:B.length<=N.length:=by have:=congrArg Ln S.pre;rw[D4]at this;lia
 obtain⟨J,tk,rfl,R⟩:=x.done
 have Q:∀b:AR,b∉(VD CX P w K O base N l scope f I A g s H E).ex:=λb z=>zX (show b∈([]:List AR)from z) (by simp)
 refine⟨⟨o.mod,S.kind,rfl,rfl,AN _,λy z c J m=>?_,λy C=>?_,λy c _ h=>?_,λ_=>U,BX.frames_deeper o.frames,.inr ⟨rfl,rfl⟩,λb z=>zX z (Q b),o.bs,o.bsz,λb _ _=>Q b,λb z=>zX z (Q b),o.funs,o.frf⟩,
  rfl,o.bare,Un.kept R,⟨_,x.toInCall.ns,λi y v J m h3=>?_⟩,λy c h=>⟨_,x.cell y c h⟩,o.hok.fresh (AN _),λy c h=>?_,λp G=>zX (show p∈([]:List (AR×Obj))from G) (by simp),o.hok.kept R,?_⟩
 ·exact name_of_addr x.apart (DI J) (DI m)
 ·have C:scope.names.lookup y=some .cell∨scope.names.lookup y=some .free:=C
  rcases C with C | C
  ·exact XG C
  ·exact zX rfl (S.nofree _ (DI C))
 ·exact KU (x.above y c (DI h))
 ·have L:i < vs.length:=by
   unfold start at m
   by_cases L:i < vs.length
   ·exact L
   ·rw[Aj (by simpa using L)]at m
    rw[DC]at m
    split at m <;> cases m
  have X:vs[i]?=some v:=by
   unfold start at m;rw[AM (by simpa using L),Ak]at m
   cases e:vs[i]? with
   | none=>rw[e]at m;cases m
   | some a=>rw[e]at m;cases m;rfl
  obtain⟨u,T,Y⟩:=r.get X
  have G:B[i]?=some y:=by
   rw[<-S.pre,Vm (by lia)];exact J
  have ϱ:B.Nodup:=by rw[<-S.pre];exact S.nd.sublist (List.take_sublist _ _)
  refine⟨u,Y,?_⟩
  rcases S.par y (C6 G)with k | k
  ·exact .inl ⟨k,Tz ϱ G T k⟩
  ·obtain⟨c,e⟩:=XG (n:=s.heap.objs.size+1) k
   refine .inr ⟨.inl k,c,e,?_⟩;have q:=x.cell y c e;rw[T1 ϱ G T (by show scope.names.lookup y≠_;rw[k];decide)]at q;exact q
 ·exact o.hok.fresh (KU (x.above y c (DI h)))
 ·unfold start
  show _=N.length;rw[Ai,AT,LD]
  lia
theorem tQ{CX}{P}{w}{K}{R}{base}{k}{f}{name l}{params}{body}{scope}{Z kV L pm C ct oc}{an od}
  {wb} {N T} {sp} (lk:K.lookup f=some ⟨oc,od,.func (HF name l params body scope Z kV L pm an C ct),wb⟩) (vE:QR K C l=true) (S:Aw N T scope)
  (len:∀vs H Q E,sp vs H Q E->vs.length=T.length)
  (vF:∀(A:BX) (g:List Env) (s:AK) (H:Hp) (vs:List V) (Q:VK) (E:XK),GD k (A.deeper (MM l scope s.heap.objs.size f C))->sp vs H Q E ->
   ∃t,PSs (VD CX P w K R base N l scope f C A g s H E) body t/\t { nx:=λ_ B=>Q .non B,rt:=Q } (start N vs) H) :
  Bm P w K R base CX (k+1) f (HF name l params body scope Z kV L pm an C ct) T sp:=by
 refine⟨len,λA g s H args us vs Q E U O hb r yy=>?_⟩;have hl:=len _ _ _ _ yy
 have KX:K.In s.heap:=O.mod.kin.keeps λb o e=>(O.bs b o e).1
 have X:s.heap.NoLimit:=O.mod.nolimit.keeps λb o e=>(O.bs b o e).1
 have yL:∀y∈T.zip us,scope.names.lookup y.1=some .local∨(scope.names.lookup y.1=some .cell/\((B7 (s.heap.objs.size+1) scope.names []).lookup y.1).isSome=true):=by
  rintro ⟨n,v⟩ hy
  rcases S.par n (R7 hy).1 with q | q
  ·exact .inl q
  ·exact .inr ⟨q,T7 _ _ _ (.inl q)⟩
 refine codeAny_call_function U.depth (KX _ _ lk) rfl S.co S.gen rfl (PySem.W.codeRec_of KX vE) (hb _ _ _ _ ?_)
 refine wpAny_newFunctionEnv_cells S.kind yL λenv he s1 x=>?_
 subst he;refine⟨X.keeps x.toInCall.keep,codeAny_func ?_⟩;obtain⟨t,ht,hq⟩:=vF A g s H vs Q E (U.deeper _) yy;have I:Inv (VD CX P w K R base N l scope f C A g s H E) [] (start N vs) H s1:=bo S U.hd O hl r x
 refine Ci (ht [] s1 (start N vs) H _ I hq) (λfl s' G=>?_) λe s' G=>G
 have fin:∀{m:St} {B:Hp} {v:V} {u:AG},Inv (VD CX P w K R base N l scope f C A g s H E) [] m B s'->RelV v u->Q v B->CE g P w H s Q u s':=
  λ{m B v u} J Y q=>⟨v,B,J.os,J.bare,J.base,J.hok,Y,q⟩
 cases fl with
 | ret u=>
  obtain⟨v,m,B,J,Y,q⟩:=G;exact fin J Y q
 | next=>
  obtain⟨m,B,J,q⟩:=G;exact fin (v:=V.non) (u:=B2) J rfl q
 | brk=>
  obtain⟨_,_,_,q⟩:=G;exact Dv q
 | cont=>
  obtain⟨_,_,_,q⟩:=G;exact Dv q
section
variable{X:Cx}{x:Str}{p pos:Pos}{e:Expr}{es:List Expr}{t:TA}{id T:String}{r:List V->Hp->VK->Prop}
def tCB(r:List V->Hp->VK->Prop)(t:TA):TE:=λg H Q=>t g H λl m=>r l m Q
theorem Im(m:HE X (.builtin id) r)(o:Gl X x)(A:X.mg x=none)(B:Ff x=some (.builtin id))(C:PA X (e :: es) t)(E:x≠"__name__":=by decide) (G:(x==("__debug__" : Str))=false:=by decide)
  (J:AO (e :: es) X.env=(false,BQ e X.env) :: AO es X.env:=by rfl) (L:(CT pos (AO es X.env)).any (·.1)=false:=by rfl):PE X (.Call (.Name x p) (e :: es) [] pos) (tCB r t):=by
 intro g s l H Q I h;refine C9 (G5 I o A B ?_ E G);exact Ll (thn (C pos g s l H _ I h) λN O ⟨P,R,S,U,Y⟩=>m g O l R P N Q S U Y) J L
theorem OV(m:HE X (.type T) r)(o:Gl X x)(A:X.mg x=none)(B:Ff x=some (.type T))(C:PA X (e :: es) t)(E:x≠"__name__":=by decide) (G:(x==("__debug__" : Str))=false:=by decide)
  (J:AO (e :: es) X.env=(false,BQ e X.env) :: AO es X.env:=by rfl) (L:(CT pos (AO es X.env)).any (·.1)=false:=by rfl):PE X (.Call (.Name x p) (e :: es) [] pos) (tCB r t):=by
 intro g s l H Q I h;refine C9 (G5 I o A B ?_ E G);exact Bc (thn (C pos g s l H _ I h) λN O ⟨P,R,S,U,Y⟩=>m g O l R P N Q S U Y) J L
end
end L2
namespace HT
def lexLt:ZLi->ZLi->Bool
 | [],[]=>false
 | [],_ :: _=>true
 | _ :: _,[]=>false
 | x :: g,y :: l=>if x=y then lexLt g l else decide (x < y)
theorem Ys(x y:Int)(xs g:ZLi):lexLt (x :: xs) (y :: g)=if x=y then lexLt xs g else decide (x < y):=rfl
theorem Sn:lexLt [] []=false:=rfl
theorem RG(y:Int)(g:ZLi):lexLt [] (y :: g)=true:=rfl
theorem RH(x:Int)(xs:ZLi):lexLt (x :: xs) []=false:=rfl
theorem gl(A:BX)(s:AK)(a:Int)(t:Tok)(c:Int)(u:Tok):∃e,ag A s (.int a t) (.int c u) e/\(e=true↔a=c):=
 ⟨(a==c),Vk a t c u,by simp⟩
theorem eW(A:BX)(s:AK)(a:Int)(t:Tok)(c:Int)(u:Tok)(prog:BJ)(w:Bs)(E:AG->AK->Prop)(Q:AG->AK->Prop)(h:Q (.bool (decide (a < c))) s) :
  AZ (AU prog w) A (iN .Lt (.int a t) (.int c u)) Q E s:=
 (t8 h:AZ (AU prog w) A (BH .Lt (.int a t) (.int c u)) Q E s)
section
open PySem.SeqAt
open PySem.AutoSeq1 (wpAny_loadPart')
open PySem.MeetsSeq PySem.MeetsSeq2 PySem.MeetsSeq3
theorem SV(l b:AR)(m J:Array AG)(n n2:Nat)(dd xm:Option AR)(sl xn:Array (Option AG))(Q S:ZLi)(hi:IntsAre m.toList Q)(hj:IntsAre J.toList S) :
  Meets (Builtin.«tuple.__lt__» ⟨[.ref l,.ref b],[]⟩)
   (λ_ R s=>s.heap.get? l=some { cls:=.type "tuple",dict:=dd,data:=.seq m n,slots:=sl }/\s.heap.get? b=some { cls:=.type "tuple",dict:=xm,data:=.seq J n2,slots:=xn } /\
    R (.ok (.ret (.bool (lexLt Q S)))) s):=
 .of_wp λE w A R s h=>by
  obtain⟨T,g,d,tk,os⟩:=s;obtain⟨hl,hb,h⟩:=h;have f2:=AutoSeq1.sub_tuple_tuple
  have z1:m.size=Q.length:=by rw[<-hi.length];simp
  have z2:J.size=S.length:=by rw[<-hj.length];simp
  wp_walk using wpAny_loadPart' hl,wpAny_loadPart' hb,wpAny_forIn_list _ (λrest b Y=>b.1=none/\Y=⟨T,g,d,tk,os⟩/\∃(U X:List AG) (L N:ZLi),rest=U.zip X /\
   IntsAre U L/\IntsAre X N/\L.length+J.size=N.length+m.size/\R (.ok (.ret (.bool (lexLt L N)))) ⟨T,g,d,tk,os⟩) _
  case turn=>
   rintro⟨y,x⟩ rest b Y ⟨G,rfl,U,X,L,N,B,H,C,o,hR⟩
   cases H with
   | nil=>rw[dL]at B;cases B
   | cons a t O=>
    cases C with
    | nil=>rw[cq]at B;cases B
    | cons c u P=>
     rw[N5]at B
     injection B with Z I
     injection Z with hy hx
     subst hy hx;rw[Ys]at hR;simp only[A0]at o;obtain⟨e,he,yM⟩:=gl A.in1 ⟨T,g,d,tk,os⟩ a t c u;refine AA (he E w _ _ ?_)
     cases e with
     | true=>
      rw[qX (yM.mp rfl)]at hR
      wp_walk
      exact⟨rfl,rfl,_,_,_,_,I,O,P,by lia,hR⟩
     | false=>
      rw[qY (λq=>zX (yM.mpr q) Af)]at hR;have hri:=eW A.in1 ⟨T,g,d,tk,os⟩ a t c u E w
      wp_walk using hri
      exact⟨_,rfl,by simpa using hR⟩
  case fin=>
   rintro⟨b1,b2⟩ Y ⟨G,rfl,U,X,L,N,B,H,C,o,hR⟩;simp only at G;subst G
   have hv:lexLt L N=decide (m.size < J.size):=by
    cases H with
    | nil=>
     cases C with
     | nil=>
      simp only[Fh]at o;rw[Sn];exact(wY (by lia)).symm
     | cons c u hw=>
      simp only[Fh,A0]at o;rw[RG];exact(wX (by lia)).symm
    | cons a t hv=>
     cases C with
     | nil=>
      simp only[Fh,A0]at o;rw[RH];exact(wY (by lia)).symm
     | cons c u hw=>
      rw[N5]at B;cases B
   rw[hv]at hR
   wp_walk
   exact⟨_,rfl,by simpa[q9]using hR⟩
  case h=>
   exact⟨rfl,rfl,m.toList,J.toList,Q,S,rfl,hi,hj,by lia,h⟩
end
section
variable{prog:BJ}{w:Bs}{A:BX}{E:AG->AK->Prop}{s:AK}
theorem RE(L:cy s.heap l g)(hb:cy s.heap b C)(hi:IntsAre g.toList o)(N:IntsAre C.toList B)
  (O:A.units < Dm) (h:Q (.bool (lexLt o B)) s):AZ (AU prog w) A (BH .Lt (.ref l) (.ref b)) Q E s:=by
 obtain⟨⟨cls,P,data,sl⟩,G,H,n,I⟩:=id L;obtain⟨⟨J,R,data2,S⟩,m,hc2,T,hd2⟩:=id hb;simp only at H I hc2 hd2;subst H I hc2 hd2
 exact richCompare_meets_room (op:=.Lt) ⟨_,G,rfl⟩ ⟨_,m,rfl⟩ PySem.F.slot_tuple_lt PySem.F.entry_tuple_lt (PySem.F.args_tuple_lt_2 _ _) (SV l b g C n T P R sl S o B hi N)
  ⟨G,m,show J9 (lexLt o B)≠AG.notImplemented/\Q (.bool (lexLt o B)) s from⟨(λx=>nomatch x),h⟩⟩ O
theorem kz(N:cy s.heap t vs.toArray)(hb:cy s.heap b g.toArray)(o:vs≠[])
  (O:g=[]->Q (.ref t) s) (P:g≠[]->Q (.ref s.heap.objs.size) { s with heap:=s.heap.push { cls:=.type "tuple",data:=.seq (vs++g).toArray } })
  (hsz:vs.length+g.length<=sizeLine):AZ (AU prog w) A (Cd .Add (.ref t) (.ref b)) Q E s:=by
 obtain⟨⟨cls,B,data,sl⟩,m,C,n,G⟩:=id N;obtain⟨⟨H,I,data2,J⟩,l,hc2,L,hd2⟩:=id hb;simp only at C G hc2 hd2;subst C G hc2 hd2
 have e:vs.toArray++g.toArray=(vs++g).toArray:=by simp
 by_cases hw:g=[]
 ·exact dE ⟨_,m,rfl⟩ ⟨_,l,rfl⟩ T5 aa JH Ij (IL _ _)
   (tuple_addW1 t b vs.toArray g.toArray n L B I sl J (by simpa using o) (by simp[hw])) ⟨m,l,O hw⟩
 ·refine dE ⟨_,m,rfl⟩ ⟨_,l,rfl⟩ T5 aa JH Ij (IL _ _)
   (tuple_addW2 t b vs.toArray g.toArray n L B I sl J (by simpa using o) (by simpa using hw) (by rw[Ad,Ad];exact hsz)) ⟨m,l,?_⟩
  rw[e];exact P hw
noncomputable def sIx(n d:Nat):Option Int->Nat
 | none=>d
 | some v=>if v < 0 then(v+(n:Int)).toNat else min v.toNat n
theorem Q0(n d:Nat):sIx n d none=d:=rfl
theorem Uf(n d k:Nat):sIx n d (some (k:Int))=min k n:=by
 show(if (k:Int) < 0 then((k:Int)+(n:Int)).toNat else min (k:Int).toNat n)=min k n;rw[qY (by lia),CZ]
theorem nP(n d:Nat)(l:d<=n)(o:Option Int):sIx n d o<=n:=by
 cases o with
 | none=>exact l
 | some v=>
  show(if v < 0 then(v+(n:Int)).toNat else min v.toNat n)<=n
  by_cases g:v < 0
  ·rw[qX g];lia
  ·rw[qY g];exact Nat.min_le_right _ _
theorem aR(v:Int)(n d:Nat):(if v < 0 then max (v+(n:Int)) 0 else min v (n:Int))=((sIx n d (some v):Nat):Int):=by
 show(if v < 0 then max (v+(n:Int)) 0 else min v (n:Int))=(((if v < 0 then(v+(n:Int)).toNat else min v.toNat n):Nat):Int)
 by_cases g:v < 0
 ·simp only[qX g];lia
 ·simp only[qY g];lia
theorem ZF(lo hi:Option Int)(n:Nat):G2 lo hi 1 (n:Int)=(((sIx n 0 lo:Nat):Int),((sIx n n hi:Nat):Int)):=by
 have g:¬((1:Int) < 0):=by lia
 unfold G2;simp only[g,if_false];refine Prod.ext ?_ ?_
 ·cases lo with
  | none=>rfl
  | some v=>exact aR v n 0
 ·cases hi with
  | none=>rfl
  | some v=>exact aR v n n
theorem Yc(i j:Nat):EO (i:Int) (j:Int) 1=j - i:=by
 unfold EO
 have g:(1:Int) > 0:=by lia
 simp only[g,if_true,qw]
 split <;> lia
theorem Qo(p:UE v o)(h:Q o s):AZ (AU prog w) A (rA v) Q E s:=by
 cases p with
 | none=>exact slicePart_none h
 | int i t=>exact slicePart_int h
theorem OL{sl:AR}{g l:AG}{lo hi:Option Int}{n:Nat}{Q:Int×Int×Nat->AK->Prop}(B:s.heap.IsSliceOf sl g l .none)(pl:UE g lo)(C:UE l hi)
  (h:Q (((sIx n 0 lo:Nat):Int),1,sIx n n hi - sIx n 0 lo) s):AZ (AU prog w) A (ND (.ref sl) (pure (n:Int))) Q E s:=by
 obtain⟨os,m,G,o⟩:=id B;unfold ND rB;refine AA (AA (C2 m o (x:=g) rfl (AA (C2 m o (x:=l) rfl (AA (C2 m o (x:=.none) rfl (AC ?_)))))));refine AA (slicePart_none ?_);show AZ _ _ (if ((1:Int)==0)=true then _ else _) _ _ s;rw[qY (by decide)];refine AA (Qo pl (AA (Qo C (AA (AC ?_)))));show AZ _ _ (match G2 lo hi 1 (n:Int)with | (lo,hi)=>pure (lo,(1:Int),EO lo hi 1)) _ _ s;rw[ZF lo hi n];show AZ _ _ (pure (((sIx n 0 lo:Nat):Int),(1:Int),EO ((sIx n 0 lo:Nat):Int) ((sIx n n hi:Nat):Int) 1)) _ _ s;rw[Yc];exact AC h
theorem eu(xs:Array AG)(i k:Nat):((CV k).filterMap λ(m:Nat)=>xs[((i:Int)+(m:Int) * 1).toNat]?).toArray=((xs.toList.drop i).take k).toArray:=by
 have e:(λ(m:Nat)=>xs[((i:Int)+(m:Int) * 1).toNat]?)=λm=>xs[i+m]?:=by
  funext m
  have:((i:Int)+(m:Int) * 1).toNat=i+m:=by lia
  rw[this]
 rw[e];have:=pick_run xs i k;rw[cx]at this
 have g:((λx=>xs[x]?)∘λx=>i+x)=λm=>xs[i+m]?:=rfl
 rw[g]at this;rw[this]
theorem Nl{t sl}{g}{C G}{lo hi}{Q}(l:cy s.heap t g)(H:s.heap.IsSliceOf sl C G .none)(pl:UE C lo)(I:UE G hi)
  (hw:¬(sIx g.size 0 lo=0/\sIx g.size g.size hi=g.size))
  (h:Q (.ref s.heap.objs.size) { s with heap:=s.heap.push { cls:=.type "tuple",data:=.seq ((g.toList.drop (sIx g.size 0 lo)).take (sIx g.size g.size hi - sIx g.size 0 lo)).toArray } })
  (hsz:g.size<=sizeLine):AZ (AU prog w) A (MK (.ref t) (.ref sl)) Q E s:=by
 have o:sizeOk (.seq ((g.toList.drop (sIx g.size 0 lo)).take (sIx g.size g.size hi - sIx g.size 0 lo)).toArray):=by
  show((g.toList.drop (sIx g.size 0 lo)).take (sIx g.size g.size hi - sIx g.size 0 lo)).toArray.size<=sizeLine;rw[Ad,D4,FD,Az];omega
 have O:sIx g.size g.size hi<=g.size:=nP _ _ (AN _) hi;obtain⟨os,J,L,P⟩:=id H;have B:s.TypeIs (.ref sl) "slice":=⟨os,J,L⟩;unfold MK
 try with_reducible refine Bq ?_
 first | refine AA (AC ?_) | skip
 refine AA (wpAny_sequenceKey l.typeIs (by decide) ?_)
 refine AA (BN (name:=qk "__getitem__") l.typeIs FT
  (BM FT l.typeIs entry_tuple_getitem ?_ (args_tuple_getitem _ _)))
 show AZ _ _ (qz (.ref t) >>= _) _ _ s;refine AA (tupleItemsOf_ l ?_);refine AA (MC B ?_);rw[qX (by decide)];refine AA (OL H pl I ?_)
 have N:¬((((sIx g.size 0 lo:Nat):Int)==0&&(1:Int)==1&&(sIx g.size g.size hi - sIx g.size 0 lo)==g.size)=true):=by
  intro q;rw[Bv,Bv]at q;have R:((sIx g.size 0 lo:Nat):Int)=0:=eq_of_beq q.1.1;have S:sIx g.size g.size hi - sIx g.size 0 lo=g.size:=eq_of_beq q.2;exact hw ⟨by lia,by omega⟩
 show AZ _ _ (if (((sIx g.size 0 lo:Nat):Int)==0&&(1:Int)==1&&(sIx g.size g.size hi - sIx g.size 0 lo)==g.size)=true then _ else _) _ _ s;rw[qY N,eu]
 first
  | exact AA (m:=Cu _) (A4 (AC ⟨_,rfl,AC h⟩) o)
  | exact AA (m:=Cu _) (A4 (AA (AC (AC ⟨_,rfl,AC h⟩))) o)
  | exact AA (AA (m:=Cu _) (A4 (AC (AC ⟨_,rfl,AC h⟩)) o))
  | exact AA (AA (m:=Cu _) (A4 (AC ⟨_,rfl,AC h⟩) o))
end
end HT
namespace L2
section
abbrev TO:=St->Hp->(Option Int->Hp->Prop)->Prop
def PO(X:Cx)(e:Option Expr)(t:TO):Prop:=
 ∀(l:List (AR×Obj)) (s:AK) (g:St) (H:Hp) (Q:Option Int->Hp->Prop),Inv X l g H s->t g H Q ->
  AZ (AU X.prog X.w) X.A (evalPart e X.env) (λu B=>∃o m,Inv X l g m B/\UE u o/\Q o m) X.xe s
def jC:TO:=λ_ H Q=>Q none H
def rK(t:TE):TO:=λg H Q=>t g H λx l=>∃i,x=.int i/\Q (some i) l
theorem intsAre_of:∀{us:List AG},BL (ns.map V.int) us->IntsAre us ns:=by
 induction ns with
 | nil=>intro us r;rw[Xh]at r;cases r;exact .nil
 | cons n ns g=>
  intro us r;rw[A2]at r
  cases r with
  | cons l m=>
   obtain⟨t,e⟩:=l;subst e;exact .cons n t (g m)
section
variable{κ:Type}[DecidableEq κ]
def JM(g:List (κ×V))(k:κ):Option V:=(g.find? λl=>decide (l.1=k)).map (·.2)
noncomputable def LZ(l:List (κ×V))(k:κ)(v:V):List (κ×V):=
 if (l.any λg=>decide (g.1=k))=true then l.map (λg=>if g.1=k then(g.1,v)else g)else l++[(k,v)]
theorem Qh{p:κ×V}{r:List (κ×V)}{k:κ}(e:p.1=k):JM (p :: r) k=some p.2:=by simp[JM,CL,e]
theorem Qi{p:κ×V}{r:List (κ×V)}{k:κ}(e:¬p.1=k):JM (p :: r) k=JM r k:=by simp[JM,CL,e]
theorem V7(k:κ):∀g:List (κ×V),(g.any λl=>decide (l.1=k))=(JM g k).isSome
 | []=>rfl
 | p :: r=>by
  rw[EU]
  by_cases e:p.1=k
  ·simp only[Qh e,wX e,Bool.true_or,ZR]
  ·rw[Qi e,wY e,mV];exact V7 k r
theorem O8(g:List (κ×V))(k:κ)(v:V):(LZ g k v).length<=g.length+1:=by
 unfold LZ;split
 ·rw[AT];lia
 ·rw[Ai,A0,Fh];lia
theorem Lh.isSome_eq(r:Lh o u):o.isSome=u.isSome:=by
 cases o with
 | none=>cases u with
  | none=>rfl
  | some _=>exact(show False from r).elim
 | some _=>cases u with
  | none=>exact(show False from r).elim
  | some _=>rfl
theorem KV.val{m:List (κ×V)}{vs:List (κ×AG)}(r:KV m vs)(k:κ):Lh (JM m k) (SD vs k):=by
 unfold KV at r
 induction r with
 | nil=>exact EI
 | @cons p q B g h t s=>
  obtain⟨o,A⟩:=h
  by_cases e:p.1=k
  ·have l:q.1=k:=o.symm.trans e
   have b:SD (q :: g) k=some q.2:=by simp[SD,CL,l]
   rw[Qh e,b];exact A
  ·have l:¬q.1=k:=λz=>e (o.trans z)
   have b:SD (q :: g) k=SD g k:=by simp[SD,CL,l]
   rw[Qi e,b];exact s
theorem KV.any(r:KV l vs)(k:κ):(l.any λg=>decide (g.1=k))=vs.any λg=>decide (g.1=k):=by
 unfold KV at r
 induction r with
 | nil=>rfl
 | cons h t m=>rw[EU,EU,m,h.1]
theorem KV.repl(r:KV m vs)(k:κ)(o:RelV y u) :
  KV (m.map λg=>if g.1=k then(g.1,y)else g) (vs.map λg=>if g.1=k then(g.1,u)else g):=by
 unfold KV at r ⊢
 induction r with
 | nil=>exact .nil
 | @cons p q B C h t s=>
  rw[A2,A2];refine .cons ?_ s;obtain⟨l,A⟩:=h
  by_cases e:p.1=k
  ·rw[qX e,qX (l.symm.trans e)];exact⟨l,o⟩
  ·rw[qY e,qY (λz=>e (l.trans z))];exact⟨l,A⟩
theorem KV.put(r:KV l vs)(k:κ)(g:RelV y u):KV (LZ l k y) (stored vs k u):=by
 unfold LZ stored;rw[r.any k]
 by_cases e:(vs.any λm=>decide (m.1=k))=true
 ·rw[qX e,qX e];exact r.repl k g
 ·rw[qY e,qY e];exact Xe r ⟨rfl,g⟩
theorem KV.length(r:KV g vs):g.length=vs.length:=EL r
end
theorem Wy(r:RelV (kV k) u):(Dx P w).is k u=true:=by
 cases k with
 | inl i=>obtain⟨t,e⟩:=(show ∃t,u=Go i t from r);subst e;exact Wt P w i t
 | inr x=>obtain⟨t,e⟩:=(show ∃t,u=PL x t from r);subst e;exact Ws P w x t
theorem Tl:∀{g:List Key} {us:List AG},BL (g.map kV) us->ItemsAre (Dx P w) g us
 | [],_,r=>by rw[Xh]at r;cases r;exact .nil
 | k :: g,_,r=>by
  rw[A2]at r
  cases r with
  | cons h t=>exact .cons (Wy h) (Tl t)
abbrev KT(H:Hp):List (List Key×V)->List (List Key×AR×AG)->Prop:=FO λp q=>p.1=q.1/\H q.2.1=some (.tup (p.1.map kV))/\RelV p.2 q.2.2
theorem KT.val{H:Hp}{m:List (List Key×V)}{xs:List (List Key×AR×AG)}(r:KT H m xs)(k:List Key):Lh (JM m k) ((Xt xs k).map (·.2)):=by
 induction r with
 | nil=>exact EI
 | @cons p q B g h t s=>
  obtain⟨o,_,A⟩:=h
  by_cases e:p.1=k
  ·have l:q.1=k:=o.symm.trans e
   have b:Xt (q :: g) k=some q.2:=by simp[Xt,CL,l]
   rw[Qh e,b];exact A
  ·have l:¬q.1=k:=λz=>e (o.trans z)
   have b:Xt (q :: g) k=Xt g k:=by simp[Xt,CL,l]
   rw[Qi e,b];exact s
theorem KT.repl(r:KT H o xs)(k:List Key)(s:RelV y u) :
  KT H (o.map λl=>if l.1=k then(l.1,y)else l) (xs.map (putAt k u)):=by
 induction r with
 | nil=>exact .nil
 | @cons p q C E h t A=>
  rw[A2,A2];refine .cons ?_ A;obtain⟨g,m,B⟩:=h;unfold putAt
  by_cases e:p.1=k
  ·rw[qX e,qX (g.symm.trans e)];exact⟨g,m,s⟩
  ·rw[qY e,qY (λz=>e (g.trans z))];exact⟨g,m,B⟩
theorem KT.put(r:KT H g xs)(k:List Key)(hb:H b=some (.tup (k.map kV)))(l:RelV y u) :
  KT H (LZ g k y) (storedH xs k b u):=by
 have e:(g.any λm=>decide (m.1=k))=(Xt xs k).isSome:=by
  rw[V7,(r.val k).isSome_eq,IM]
 unfold LZ storedH;rw[e]
 by_cases q:(Xt xs k).isSome=true
 ·rw[qX q,qX q];exact r.repl k l
 ·rw[qY q,qY q];exact Xe r ⟨rfl,hb,l⟩
theorem KT.keeps(r:KT H l xs)(m:∀b g,H b=some (.tup g)->o b=some (.tup g)):KT o l xs:=
 FO.mapP r λ_ _ z=>⟨z.1,m _ _ z.2.1,z.2.2⟩
variable{X:Cx}{e:Expr}{lo hi:Option Expr}{pos p2:Pos}
theorem jh:PO X none jC:=by
 intro g s l H Q I h;rw[evalPart_none];exact AC ⟨none,H,I,.none,h⟩
theorem jg(h:PE X e te):PO X (some e) (rK te):=by
 intro g s l H Q I hw;rw[evalPart_some]
 refine thn (h g s l H _ I hw) λu C ⟨x,m,o,A,B⟩=>?_
 obtain⟨i,rfl,q⟩:=B;obtain⟨t,rfl⟩:=A;exact⟨some i,m,o,.int i t,q⟩
def SlR(X:Cx)(r:V->Option Int->Option Int->Hp->VK->Prop):Prop:=
 ∀(g:List (AR×Obj)) (s:AK) (l:St) (H:Hp) (x:V) (v m o:AG) (lo hi:Option Int) (sl:AR) (Q:VK),Inv X g l H s->RelV x v->s.heap.IsSliceOf sl m o .none->UE m lo->UE o hi->r x lo hi H Q ->
  ∃T id,mG (.type T) "__getitem__" = pure (some (.builtin id))/\s.TypeIs v T/\AZ (AU X.prog X.w) X.A (MK v (.ref sl)) (EP X g l Q) X.xe s
theorem SlR.or(h:SlR X r)(h':SlR X G):SlR X (λx lo hi H Q=>r x lo hi H Q∨G x lo hi H Q):=by
 intro g s l H x v m o lo hi sl Q I A B C E q
 rcases q with q | q
 ·exact h g s l H x v m o lo hi sl Q I A B C E q
 ·exact h' g s l H x v m o lo hi sl Q I A B C E q
def tSl(r:V->Option Int->Option Int->Hp->VK->Prop)(te:TE)(m o:TO):TE:=λg H Q=>te g H λx s=>m g s λl A=>o g A λu B=>r x l u B Q
theorem fB(G:SlR X r)(J:PE X e te)(L:PO X lo N)(O:PO X hi P):PE X (.Subscript e (.Slice lo hi none p2) pos) (tSl r te N P):=by
 intro m s o H Q I h;refine mN (thn (J m s o H _ I h) λv R ⟨x,S,U,Y,Z⟩=>?_);refine wpAny_Slice (thn (L m R o S _ U Z) λB s2 ⟨l,H2,I2,pl,q2⟩=>thn (O m s2 o H2 _ I2 q2) λC g ⟨u,E,I3,pu,q3⟩=>?_);rw[evalPart_none];refine AC ?_
 have I4:Inv X m o E { g with heap:=g.heap.push { cls:=.type "slice",data:=.fields #[B,C,.none] } }:=I3.kept (t':=g.toks) λb ob q=>AB _ q
 obtain⟨T,id,hT,ht,hg⟩:=G m { g with heap:=g.heap.push { cls:=.type "slice",data:=.fields #[B,C,.none] } } o E x v B C l u g.heap.objs.size Q I4 Y (qU ..) pl pu q3;show AZ (AU X.prog X.w) X.A (aY e (.Slice lo hi none p2) v (.ref g.heap.objs.size)) (EP X m o Q) X.xe { g with heap:=g.heap.push { cls:=.type "slice",data:=.fields #[B,C,.none] } };exact tail_any (ops:=[.ref g.heap.objs.size,v]) ht hT hg (by with_unfolding_all rfl)
def VH(xs:List V)(lo hi:Option Int):List V:=(xs.drop (HT.sIx xs.length 0 lo)).take (HT.sIx xs.length xs.length hi - HT.sIx xs.length 0 lo)
theorem PK(xs:List V)(lo hi:Option Int):(VH xs lo hi).length<=xs.length:=by
 unfold VH;rw[D4,FD]
 lia
def rSlT(K:AE):V->Option Int->Option Int->Hp->VK->Prop:=λx lo hi H Q=>∃a g,x=.ref a/\SqT K H a g /\
 ¬(HT.sIx g.length 0 lo=0/\HT.sIx g.length g.length hi=g.length)/\∀p,H p=none->Q (.ref p) (upd H p (.tup (VH g lo hi)))
theorem nJ:SlR X (rSlT X.K):=by
 intro N s O H x v P R lo hi sl Q I B C E G h;obtain⟨a,l,rfl,J,hw,q⟩:=h;cases B;obtain⟨L,r,m,A⟩:=I.tuple J
 have g:L.toArray.size=l.length:=by rw[Ad];exact r.length.symm
 refine⟨"tuple",_,FT.lookup,m.typeIs,?_⟩;refine HT.Nl m C E G (by rw[g];exact hw) ?_ (by rw[g];exact A);rw[g];refine⟨.ref s.heap.objs.size,_,I.laid (t':=s.toks) (o:=.tup (VH l lo hi)) (λb S q=>AB _ q) (AN _) ?_,rfl,q _ (I.hok.fresh (AN _))⟩;exact⟨⟨Ap (PK l lo hi) A,⟨_,AJ _ rfl,rfl⟩⟩,_,(r.drop (HT.sIx l.length 0 lo)).take (HT.sIx l.length l.length hi - HT.sIx l.length 0 lo),dQ _ _⟩
def rLtT(K:AE):R2:=λx y H Q=>∃a b g l,x=.ref a/\y=.ref b/\SqT K H a (g.map V.int)/\SqT K H b (l.map V.int)/\Q (.bl (HT.lexLt g l)) H
theorem oJ(g:X.A.units < Dm):OpR X (BH .Lt) (rLtT X.K):=by
 intro O s P H x y v u Q I l m h;obtain⟨a,b,ns,ms,rfl,rfl,o,hb,q⟩:=h;cases l;cases m;obtain⟨B,C,E,_⟩:=I.tuple o;obtain⟨G,J,p2,_⟩:=I.tuple hb;have L:IntsAre B.toArray.toList ns:=intsAre_of C;have N:IntsAre G.toArray.toList ms:=intsAre_of J;exact HT.RE E p2 L N g ⟨.bl (HT.lexLt ns ms),H,I,rfl,q⟩
def rp(K:AE):R2:=λx y H Q=>∃a b l g,x=.ref a/\y=.ref b/\SqT K H a l/\SqT K H b g/\l≠[]/\l.length+g.length<=sizeLine /\
 (g=[]->Q (.ref a) H)/\(g≠[]->∀p,H p=none->Q (.ref p) (upd H p (.tup (l++g))))
theorem BL.nil_iff(r:BL xs us):us=[]↔xs=[]:=by
 cases r with
 | nil=>simp
 | cons _ _=>simp
theorem j8:OpR X (Cd .Add) (rp X.K):=by
 intro P s R H x y v u Q I A B h;obtain⟨a,b,C,E,rfl,rfl,G,hb,J,m,L,N⟩:=h;cases A;cases B;obtain⟨S,l,O,_⟩:=I.tuple G;obtain⟨T,g,p2,_⟩:=I.tuple hb;refine HT.kz O p2 (λz=>J (l.nil_iff.mp z)) (λz=>⟨.ref a,H,I,rfl,L (g.nil_iff.mp z)⟩) (λz=>?_) (by rw[<-l.length,<-g.length];exact m);refine⟨.ref s.heap.objs.size,_,I.laid (t':=s.toks) (o:=.tup (C++E)) (λb U q=>AB _ q) (AN _) ?_,rfl,N (λw=>z (g.nil_iff.mpr w)) _ (I.hok.fresh (AN _))⟩;exact⟨⟨by rw[Ai];exact m,⟨_,AJ _ rfl,rfl⟩⟩,_,l.append g,dQ _ _⟩
end
section
def ixN(n:Nat)(i:Int):Option Nat:=if 0<=i then(if i < n then some i.toNat else none)else if -(n:Int)<=i then some (i+n).toNat else none
def atI{α:Type}(xs:List α)(i:Int):Option α:=(ixN xs.length i).bind λj=>xs[j]?
theorem aB(h:ixN n i=some j):seqIndex? i n=some j/\j < n/\-(n:Int)<=i/\i < n:=by
 unfold ixN at h
 by_cases l:0<=i
 ·rw[qX l]at h
  by_cases g:i < n
  ·rw[qX g]at h
   have e:i.toNat=j:=CB h;exact⟨by rw[iM l g,e],by lia,by lia,g⟩
  ·rw[qY g]at h;cases h
 ·rw[qY l]at h
  by_cases g:-(n:Int)<=i
  ·rw[qX g]at h
   have e:(i+n).toNat=j:=CB h;exact⟨by rw[seqIndex_neg (by lia) g,e],by lia,g,by lia⟩
  ·rw[qY g]at h;cases h
theorem VZ{g:Type}{xs:List g}{i:Int}{v:g}(h:atI xs i=some v):∃j,seqIndex? i xs.length=some j/\xs[j]?=some v/\j < xs.length/\-(xs.length:Int)<=i/\i < xs.length:=by
 unfold atI at h
 cases e:ixN xs.length i with
 | none=>rw[e]at h;cases h
 | some j=>
  rw[e]at h;obtain⟨l,m,o,s⟩:=aB e;exact⟨j,l,h,m,o,s⟩
def Vc(b:Expr):Prop:=∀o i,Vg b false o i=operate [o,i] (MK o i)
def IxR(X:Cx)(r:R2):Prop:=
 ∀(value slice:Expr) (g:List (AR×Obj)) (s:AK) (l:St) (H:Hp) (x y:V) (v u:AG) (Q:VK),Inv X g l H s->RelV x v->RelV y u->r x y H Q ->
  Vg slice false v u=operate [v,u] (MK v u)->AZ (AU X.prog X.w) X.A (aY value slice v u) (EP X g l Q) X.xe s
def MtR(X:Cx)(id:String)(r:V->List V->Hp->VK->Prop):Prop:=
 ∀(g:List (AR×Obj)) (s:AK) (l:St) (H:Hp) (x:V) (m:List V) (v:AG) (o:List AG) (Q:VK),Inv X g l H s->RelV x v->BL m o->r x m H Q ->
  AZ (AU X.prog X.w) X.A (call (.builtin id) (v :: o)) (EP X g l Q) X.xe s
section
variable{P:BJ}{w:Bs}{H:Hp}{h:Bu}{a:AR}
theorem lh(ok:HOk P w H h)(e:Rd H a u):C8 P w H h a u:=e.ok ok
theorem W9(ok:HOk P w H h)(e:Rd H a (.dK g)):g.length<=sizeLine/\(a==DM)=false/\∃vs,KV g vs/\h.DictOf (Dx P w) a vs:=
 show C8 P w H h a (.dK g)from lh ok e
theorem tT(ok:HOk P w H h)(e:H a=some (.dK g)):g.length<=sizeLine/\(a==DM)=false/\∃vs,KV g vs/\h.DictOf (Dx P w) a vs:=W9 ok (.inl e)
theorem RK(ok:HOk P w H h)(e:H a=some (.tup (g.map kV))):(T4 (Dx P w)).is h g a:=by
 obtain⟨_,l,r,o,m,s,n,A⟩:=(show C8 P w H h a (.tup (g.map kV))from ok a _ e);exact⟨o,l.toArray,n,m,s,A,by simpa using Tl r⟩
theorem W8(ok:HOk P w H h)(e:Rd H a (.dT s)):s.length<=sizeLine/\(a==DM)=false /\
  ∃xs,KT H s xs/\h.DictOfH (T4 (Dx P w)) a xs:=by
 obtain⟨z,y,xs,r,o,B,C,E,G,I,J,L⟩:=(show C8 P w H h a (.dT s)from lh ok e);refine⟨z,y,xs,r,o,B,C,E,G,I,J,λx g=>?_,L⟩
 have all:∀{l:List (List Key×V)} {m:List (List Key×AR×AG)},KT H l m->∀x∈m,(T4 (Dx P w)).is h x.1 x.2.1:=by
  intro l m q
  induction q with
  | nil=>intro x g;exact nomatch g
  | @cons p q O Q A t N=>
   intro x g
   rcases Ax.mp g with e | g
   ·subst e
    exact RK ok (by rw[<-A.1];exact A.2.1)
   ·exact N x g
 exact all r x g
theorem tS(ok:HOk P w H h)(e:H a=some (.dT g)):g.length<=sizeLine/\(a==DM)=false /\
  ∃xs,KT H g xs/\h.DictOfH (T4 (Dx P w)) a xs:=W8 ok (.inl e)
end
def N2(H:Hp)(a:AR)(y:V)(r:Option V):Prop:=
 (∃g k,Rd H a (.dK g)/\y=kV k/\r=JM g k)∨∃g k b,Rd H a (.dT g)/\y=.ref b/\H b=some (.tup (k.map kV))/\r=JM g k
def XY(H:Hp)(a:AR)(y v:V)(l:Hp):Prop:=
 (∃g k,H a=some (.dK g)/\y=kV k/\g.length < sizeLine/\l=upd H a (.dK (LZ g k v))) ∨
 ∃g k b,H a=some (.dT g)/\y=.ref b/\H b=some (.tup (k.map kV))/\g.length < sizeLine/\l=upd H a (.dT (LZ g k v))
theorem N2.k{H}{a}{g}{k}(e:H a=some (.dK g)):N2 H a (kV k) (JM g k):=.inl ⟨g,k,.inl e,rfl,rfl⟩
theorem N2.t{H}{a b}{g}{k}(e:H a=some (.dT g))(l:H b=some (.tup (k.map kV))):N2 H a (.ref b) (JM g k):=.inr ⟨g,k,b,.inl e,rfl,l,rfl⟩
theorem XY.k{H}{a}{g}{k}{v}(e:H a=some (.dK g))(l:g.length < sizeLine):XY H a (kV k) v (upd H a (.dK (LZ g k v))):=.inl ⟨g,k,e,rfl,l,rfl⟩
theorem XY.t{H}{a b}{g}{k}{v}(e:H a=some (.dT g))(l:H b=some (.tup (k.map kV)))(m:g.length < sizeLine) :
  XY H a (.ref b) v (upd H a (.dT (LZ g k v))):=.inr ⟨g,k,b,e,rfl,l,m,rfl⟩
variable{X:Cx}{a b:Expr}{ta tb:TE}{pos:Pos}
theorem IxR.or(h:IxR X r)(h':IxR X B):IxR X (λx y H Q=>r x y H Q∨B x y H Q):=by
 intro value slice g s l H x y v u Q I m o q A
 rcases q with q | q
 ·exact h value slice g s l H x y v u Q I m o q A
 ·exact h' value slice g s l H x y v u Q I m o q A
theorem sK(g:IxR X r)(l:PE X a ta)(hb:PE X b tb)(m:Vc b):PE X (.Subscript a b pos) (tOp r ta tb):=by
 intro o s A H Q I h;exact mN (pr l hb I h λv u B x y C E G J q=>g a b o B A C x y v u Q E G J q (m _ _))
def rIxL(K:AE):R2:=λx y H Q=>∃p g i v,x=.ref p/\y=.int i/\SqL K H p g/\atI g i=some v/\Q v H
def rIxT(K:AE):R2:=λx y H Q=>∃p g i v,x=.ref p/\y=.int i/\SqT K H p g/\atI g i=some v/\Q v H
def rIxS:R2:=λx y H Q=>∃z i c,x=.str z/\y=.int i/\z.length<=sizeLine/\atI z.cps.toList i=some c/\Q (.str ⟨#[c]⟩) H
theorem ix_list:IxR X (rIxL X.K):=by
 intro value slice o s A H x y v u Q I G J h B;obtain⟨p,Z,i,z,rfl,rfl,L,N,q⟩:=h;cases G;obtain⟨t,rfl⟩:=J;obtain⟨O,r,l,hz⟩:=I.list L;obtain⟨j,g,P,h3,R,S⟩:=VZ N;obtain⟨w,C,T⟩:=r.get P;have U:=r.length;have hn:=Kr;have fin:EP X o A Q w s:=⟨z,H,I,T,q⟩
 by_cases E:0<=i
 ·have m:i.toNat=j:=by
   rw[iM E S]at g;exact CB g
  exact item_listR l.isList E (by lia) (by rw[m];simpa using C) fin B
 ·have m:(i+(O.toArray.size:Int)).toNat=j:=by
   rw[seqIndex_neg (by lia) R]at g;rw[Ad,<-U];exact CB g
  exact dC (x:=w) l.isList.typeIs qL.lookup
   (wpAny_getItem_list_neg (Q:=λr Y=>r=w/\EP X o A Q r Y) l.isList (by lia) (by rw[Ad] <;> lia) (by lia) (by rw[m];simpa using C) ⟨rfl,fin⟩) B
theorem oj:IxR X (rIxT X.K):=by
 intro value slice g s l H x y v u Q I o A h B;obtain⟨p,R,i,z,rfl,rfl,C,E,q⟩:=h;cases o;obtain⟨t,rfl⟩:=A;obtain⟨S,r,m,T⟩:=I.tuple C;obtain⟨j,G,J,U,Y,Z⟩:=VZ E;obtain⟨w,L,N⟩:=r.get J;have O:=r.length;have hn:=Kr;have fin:EP X g l Q w s:=⟨z,H,I,N,q⟩
 exact dC (x:=w) m.typeIs slot_tuple_getitem.lookup
  (getItem_tuple (j:=j) (Q:=λr P=>r=w/\EP X g l Q r P) m (by lia) (by lia) (by rw[Ad,<-O];exact G) (by simpa using L) ⟨rfl,fin⟩) B
theorem om:IxR X rIxS:=by
 intro value slice N s O H x y v u Q I l m h o;obtain⟨z,i,c,rfl,rfl,P,A,q⟩:=h;obtain⟨t,rfl⟩:=l;obtain⟨R,rfl⟩:=m;obtain⟨j,g,B,S,C,E⟩:=VZ A
 have G:z.cps.toList.length=z.length:=by simp[Str.length]
 rw[G]at g C E;have T:=Kr
 exact tail_any (QN s z t) slot_str_getitem.lookup (getItem_str (c:=c) (by
  have J:decide (i < -(2 ^ 63:Int))=false:=wY (by lia);have L:decide (i ≥ 2 ^ 63)=false:=wY (by lia)
  rw[J,L,Vp]) (by rw[g];simpa using B) ⟨.str ⟨#[c]⟩,H,I.tok _,⟨_,rfl⟩,q⟩) o
theorem Yo(g:List AG)(n j:Nat)(u:AG):Ct (·.setIfInBounds j u) { cls:=.type "list",data:=.seq g.toArray n }={ cls:=.type "list",data:=.seq (g.set j u).toArray n }:=by
 simp[Ct]
theorem Inv.lst(I:Inv X l m H s)(h:H p=some (.lst xs)) :
  ∃(g:List AG) (n:Nat),BL xs g/\s.heap.get? p=some { cls:=.type "list",data:=.seq g.toArray n }/\xs.length<=sizeLine:=by
 obtain⟨z,g,n,r,e⟩:=I.hok p _ h;exact⟨g,n,r,e,z⟩
theorem Inv.lstUpd{m:List (AR×Obj)}{o:St}{H:Hp}{s:AK}{p:AR}{xs g:List V}{A its':List AG}{n l:Nat}{f:Obj->Obj}(I:Inv X m o H s)(h:H p=some (.lst xs))
  (ho:s.heap.get? p=some { cls:=.type "list",data:=.seq A.toArray n }) (B:f { cls:=.type "list",data:=.seq A.toArray n }={ cls:=.type "list",data:=.seq its'.toArray l }) (r:BL g its') (C:g.length<=sizeLine) (t:Nat) :
  Inv X m o (upd H p (.lst g)) { s with heap:=s.heap.update p f,toks:=t }:=by
 have e:(s.heap.update p f).get? p=some { cls:=.type "list",data:=.seq its'.toArray l }:=by
  rw[Ba f ho (by rw[B] <;> rfl),B]
 refine I.write (x:=p) (e:=p) (by rw[h];trivial) (.inl rfl) (λb u hb q=>(As _ _ (Bo hb)).trans q) ⟨_,e⟩ ?_;exact⟨C,its',l,r,e⟩
def rj:V->V->V->Hp->(Hp->Prop)->Prop:=λo i v H Q=>∃p g k j,o=.ref p/\i=.int k/\H p=some (.lst g)/\ixN g.length k=some j/\Q (upd H p (.lst (g.set j v)))
theorem eN:tZ X rj:=by
 intro N s O H o i v Z iv u Q I P R S h;obtain⟨p,T,k,j,rfl,rfl,B,U,q⟩:=h;cases P;obtain⟨t,rfl⟩:=R;obtain⟨C,n,r,l,Y⟩:=I.lst B;obtain⟨g,h2,E,G⟩:=aB U;have m:=r.length;have hn:=Kr
 have J:Inv X N O (upd H p (.lst (T.set j v))) { s with heap:=s.heap.update p (Ct (·.setIfInBounds j u)) }:=
  I.lstUpd B l (Yo C n j u) (r.set S j) (by rw[Do];exact Y) s.toks
 by_cases L:0<=k
 ·have A:k.toNat=j:=by
   rw[iM L G]at g;exact CB g
  exact PySem.W.ki_setAt l L (by lia) (by rw[Ad,<-m];exact G) (by rw[A];exact⟨_,J,q⟩)
 ·have A:(k+(C.toArray.size:Int)).toNat=j:=by
   rw[seqIndex_neg (by lia) E]at g;rw[Ad,<-m];exact CB g
  exact PySem.W.ki_setBack l (by lia) (by rw[Ad,<-m];exact E) (by lia) (by rw[A];exact⟨_,J,q⟩)
theorem UT(lo hi:Option Int)(n:Nat):(Hu lo hi none n).1=((HT.sIx n 0 lo:Nat):Int)/\(Hu lo hi none n).2.1=((HT.sIx n n hi:Nat):Int)/\(Hu lo hi none n).2.2=1:=by
 refine⟨?_,?_,rfl⟩
 ·cases lo with
  | none=>simp[Hu,HT.sIx]
  | some i=>
   simp only[Hu,HT.sIx,cn,show(1:Int) > 0 by decide,if_true]
   by_cases h:i < 0
   ·simp only[h,if_true] <;> lia
   ·simp only[h,if_false] <;> lia
 ·cases hi with
  | none=>simp[Hu,HT.sIx]
  | some i=>
   simp only[Hu,HT.sIx,cn,show(1:Int) > 0 by decide,if_true]
   by_cases h:i < 0
   ·simp only[h,if_true] <;> lia
   ·simp only[h,if_false] <;> lia
theorem SW(g:List AG)(lo hi:Option Int):slicePick g.toArray lo hi none=((g.drop (HT.sIx g.length 0 lo)).take (HT.sIx g.length g.length hi - HT.sIx g.length 0 lo)).toArray:=by
 obtain⟨l,m,o⟩:=UT lo hi g.toArray.size;unfold slicePick;rw[l,m,o]
 simp only[sliceRange_one,pick_run,Ad] <;> rfl
def rh(K:AE):V->Option Int->Option Int->Hp->VK->Prop:=λx lo l H Q=>∃a g,x=.ref a/\SqL K H a g/\∀p,H p=none->Q (.ref p) (upd H p (.lst (VH g lo l)))
theorem jG:SlR X (rh X.K):=by
 intro N s O H x v P R lo m sl Q I B C E G h;obtain⟨a,g,rfl,J,q⟩:=h;cases B;obtain⟨S,r,A,L⟩:=I.list J;have l:=r.length;refine⟨"list",_,qL.lookup,A.isList.typeIs,?_⟩;refine wpAny_getItem_list_slice A.isList C E G .none (by simp) ?_ (by rw[Ad] <;> lia);rw[SW,<-l];refine⟨.ref s.heap.objs.size,_,I.laid (t':=s.toks) (o:=.lst (VH g lo m)) (λb T q=>AB _ q) (AN _) ?_,rfl,q _ (I.hok.fresh (AN _))⟩;exact⟨Ap (PK g lo m) L,_,0,(r.drop (HT.sIx g.length 0 lo)).take (HT.sIx g.length g.length m - HT.sIx g.length 0 lo),AJ _ rfl⟩
def No:V->Bool
 | .non=>true
 | .bl _=>true
 | .int _=>true
 | .str _=>true
 | _=>false
def eqV:V->V->Bool
 | .non,.non=>true
 | .bl a,.bl b=>a==b
 | .bl a,.int b=>(if a then 1 else 0)==b
 | .int a,.bl b=>a==(if b then 1 else 0)
 | .int a,.int b=>a==b
 | .str a,.str b=>a==b
 | _,_=>false
theorem pW(m:RelV y u)(g:RelV x v)(B:No y=true)(o:No x=true):ag A s u v (eqV y x):=by
 cases y with
 | non=>
  cases m
  cases x with
  | non=>cases g;exact ag.same _
  | bl b=>cases g;exact ag.none_bool b
  | int b=>obtain⟨t,rfl⟩:=g;exact ag.none_int b t
  | str b=>obtain⟨t,rfl⟩:=g;exact ag.none_str b t
  | _=>exact zX (show false=true from o) Af
 | bl a=>
  cases m
  cases x with
  | non=>cases g;exact ag.bool_none a
  | bl b=>cases g;exact ag.bool_bool a b
  | int b=>obtain⟨t,rfl⟩:=g;exact ag.bool_int a b t
  | str b=>obtain⟨t,rfl⟩:=g;exact ag.bool_str a b t
  | _=>exact zX (show false=true from o) Af
 | int a=>
  obtain⟨l,rfl⟩:=m
  cases x with
  | non=>cases g;exact ag.int_none a l
  | bl b=>cases g;exact ag.int_bool a l b
  | int b=>obtain⟨t,rfl⟩:=g;exact Vk a l b t
  | str b=>obtain⟨t,rfl⟩:=g;exact Vj a l b t
  | _=>exact zX (show false=true from o) Af
 | str a=>
  obtain⟨l,rfl⟩:=m
  cases x with
  | non=>cases g;exact ag.str_none a l
  | bl b=>cases g;exact ag.str_bool a l b
  | int b=>obtain⟨t,rfl⟩:=g;exact Vi a l b t
  | str b=>obtain⟨t,rfl⟩:=g;exact ag.str_str a l b t
  | _=>exact zX (show false=true from o) Af
 | _=>exact zX (show false=true from B) Af
def eqU(x:V)(u:AG):Bool:=match u with
 | .none=>eqV .non x
 | .bool b=>eqV (.bl b) x
 | .int i _=>eqV (.int i) x
 | .str z _=>eqV (.str z) x
 | _=>false
theorem gi(r:RelV y u)(f:No y=true):eqU x u=eqV y x:=by
 cases y with
 | non=>cases r;rfl
 | bl b=>cases r;rfl
 | int i=>obtain⟨t,rfl⟩:=r;rfl
 | str z=>obtain⟨t,rfl⟩:=r;rfl
 | _=>exact zX (show false=true from f) Af
theorem Vb:∀{xs:List V} {us:List AG},BL xs us->xs.all No=true->us.any (eqU x)=xs.any λy=>eqV y x
 | _,_,.nil,_=>rfl
 | y :: xs,u :: us,.cons r t,f=>by
  rw[Vn,Bv]at f;rw[EU,EU,gi r f.1,Vb t f.2]
theorem Nb(l:RelV x v)(m:No x=true):∀{xs:List V} {us:List AG},BL xs us->xs.all No=true->∀u∈us,ag A s u v (eqU x u)
 | _,_,.nil,_=>λu g=>by cases g
 | y :: xs,u :: us,.cons r t,f=>λo g=>by
  rw[Vn,Bv]at f
  rcases Ax.mp g with rfl | g
  ·rw[gi r f.1];exact pW r l f.1 m
  ·exact Nb l m t f.2 o g
def inV(x:V)(xs:List V):Bool:=xs.any λy=>eqV y x
def rIn(K:AE)(neg:Bool):R2:=λx y H Q=>∃p g,y=.ref p/\(SqL K H p g∨SqT K H p g)/\No x=true/\g.all No=true/\Q (.bl (if neg then !inV x g else inV x g)) H
theorem Um:OpR X (BH .NotIn) (rIn X.K true):=by
 intro E s G H x y v u Q I o B h;obtain⟨p,J,rfl,g,A,fs,q⟩:=h;cases B
 rcases g with g | g
 ·obtain⟨l,r,m,C⟩:=I.list g
  refine SeqAt.notIn_listAt (eqU x) m.isList (λw hw=>Nb o A r fs w (by simpa using hw)) ⟨.bl _,H,I,rfl,?_⟩;rw[show l.toArray.any (eqU x)=l.any (eqU x) by simp,Vb r fs];exact q
 ·obtain⟨l,r,m,C⟩:=I.tuple g
  refine SeqAt.notIn_tupleAt (eqU x) m (λw hw=>Nb o A r fs w (by simpa using hw)) ⟨.bl _,H,I,rfl,?_⟩;rw[show l.toArray.any (eqU x)=l.any (eqU x) by simp,Vb r fs];exact q
theorem VQ:HE X (.builtin "len") (λxs H Q=>∃p l,xs=[.ref p]/\(SqL X.K H p l∨SqT X.K H p l)/\Q (.int l.length) H):=by
 intro G s J H xs L Q I r h;obtain⟨p,l,rfl,m,q⟩:=h;obtain⟨u,rfl,B⟩:=vals1 r;cases B;have N:=Kr
 rcases m with m | m
 ·obtain⟨C,o,A,E⟩:=I.list m
  have g:=o.length;exact Calls.call_len_list A.isList (by simp only[Ad] <;> lia) ⟨.int l.length,H,I.tok _,⟨s.toks+1,by rw[Ad,g]⟩,q⟩
 ·obtain⟨C,o,A,E⟩:=I.tuple m
  have g:=o.length;exact len_tuple A (by simp only[Ad] <;> lia) ⟨.int l.length,H,I.tok _,⟨s.toks+1,by rw[Ad,g]⟩,q⟩
theorem VP:HE X (.builtin "len") (λxs H Q=>∃z,xs=[.str z]/\z.length<=sizeLine/\Q (.int z.length) H):=by
 intro g s l H xs m Q I r h;obtain⟨z,rfl,o,q⟩:=h;obtain⟨u,rfl,t,rfl⟩:=vals1 r;have A:=Kr;exact len_str (by lia) ⟨.int z.length,H,I.tok _,⟨_,rfl⟩,q⟩
theorem Sr:HE X (.type "tuple") (λxs H Q=>∃p g,xs=[.ref p]/\((SqL X.K H p g/\∀l,H l=none->Q (.ref l) (upd H l (.tup g)))∨(SqT X.K H p g/\Q (.ref p) H))):=by
 intro G s J H xs S Q I r h;obtain⟨p,g,rfl,h⟩:=h;obtain⟨u,rfl,P⟩:=vals1 r;cases P
 rcases h with⟨A,q⟩ | ⟨A,q⟩
 ·obtain⟨B,C,E,L⟩:=I.list A
  have N:=C.length;refine call_tuple_list E.isList (λm kp=>?_) (by simp only[Ad] <;> lia);have O:Inv X G J H { s with heap:=m }:=I.kept (t':=s.toks) kp
  have R:Inv X G J (upd H m.objs.size (.tup g)) { s with heap:=m.push { cls:=.type "tuple",data:=.seq B.toArray } }:=
   O.laid (t':=s.toks) (λb o e=>AB _ e) (AN _) (show C8 X.prog X.w _ _ _ (.tup g)from⟨⟨L,⟨_,AJ _ rfl,rfl⟩⟩,B,C,dQ _ _⟩)
  exact⟨.ref m.objs.size,_,R,rfl,q _ (O.hok.fresh (AN _))⟩
 ·obtain⟨B,C,E,L⟩:=I.tuple A
  exact call_tuple_same E ⟨.ref p,H,I,rfl,q⟩
def tyV(K:AE)(T:String)(x:V)(H:Hp):Prop:=match x with
 | .str _=>T = "str"
 | .int _=>T = "int"
 | .ref p=>(T = "list"/\∃l,SqL K H p l)∨(T = "tuple"/\∃o,K.lookup p=some o/\o.cls=.type "tuple"/\o.dict=none) ∨
   (T = "dict"/\((∃g,H p=some (.dK g))∨∃g,H p=some (.dT g)))∨(T = "set"/\∃S n,H p=some (.set S n))
 | _=>False
theorem dn(I:Inv X J L H s)(r:RelV x v)(ty:tyV X.K T x H) :
  s.TypeIs v T/\∀a,v=.ref a->∃A,s.heap.get? a=some A/\A.dict=none:=by
 cases x with
 | str z=>
  obtain⟨t,rfl⟩:=r;cases(show T = "str" from ty);exact⟨QN s z t,λ_ e=>nomatch e⟩
 | int i=>
  obtain⟨t,rfl⟩:=r;cases(show T = "int" from ty);exact⟨typeIs_int s i t,λ_ e=>nomatch e⟩
 | ref p=>
  cases r
  rcases ty with⟨rfl,N,C⟩ | ⟨rfl,o,g,E,l⟩ | ⟨rfl,g⟩ | ⟨rfl,S,n,g⟩
  ·obtain⟨O,_,B,_⟩:=I.list C
   refine⟨B.isList.typeIs,λa e=>?_⟩;cases e;obtain⟨o,n,e,c,l,_⟩:=B;exact⟨o,e,l⟩
  ·refine⟨⟨o,I.kIn p o g,E⟩,λa e=>?_⟩
   cases e;exact⟨o,I.kIn _ o g,l⟩
  ·have z:∃o,s.heap.get? p=some o/\o.ExactDict:=by
    rcases g with⟨G,g⟩ | ⟨G,g⟩
    ·obtain⟨_,_,_,_,o,_,_,e,ex,_⟩:=I.hok p _ g
     exact⟨o,e,ex⟩
    ·obtain⟨_,_,_,_,o,_,_,e,ex,_⟩:=I.hok p _ g
     exact⟨o,e,ex⟩
   obtain⟨o,e,ex⟩:=z;refine⟨⟨o,e,ex.1⟩,λa m=>?_⟩;cases m;exact⟨o,e,ex.2.1⟩
  ·obtain⟨o,_,_,_,e,ex,_⟩:=I.hok p _ g
   refine⟨⟨o,e,ex.1⟩,λa m=>?_⟩;cases m;exact⟨o,e,ex.2.1⟩
 | _=>exact Dv ty
def tBM0(K:AE)(T:String)(r:V->List V->Hp->VK->Prop)(to:TE):TE:=λl H Q=>to l H λx g=>tyV K T x g/\r x [] g Q
def tBM(K:AE)(T:String)(r:V->List V->Hp->VK->Prop)(to:TE)(t:TA):TE:=λg H Q=>to g H λx l=>tyV K T x l/\t g l λm o=>r x m o Q
variable{o e:Expr}{es:List Expr}{to:TE}{t:TA}{name:Str}{apos u6:Pos}{T id:String}{r:V->List V->Hp->VK->Prop}
theorem oA(B:PlainAttrs T)(slot:Slot T name id)(C:typeOf (.builtin id)=pure (.type "method_descriptor")) (E:MtR X id r) (ho:PE X o to)
  (G:Da o name X.env (BQ o X.env)=BQ o X.env:=by rfl) (J:(apos.endLine==u6.line)=true:=by rfl):PE X (.Call (.Attribute o name apos) [] [] u6) (tBM0 X.K T r to):=by
 intro g s l H Q I h;refine wpAny_Call_method0_late G J (thn (ho g s l H _ I h) λv L ⟨x,N,m,A,ty,O⟩=>?_);obtain⟨P,R⟩:=dn m A ty;exact⟨T,id,B,slot,C,P,R,V1 rfl (PySem.evalArgs_none (E g L l N x [] v [] Q m A .nil O))⟩
theorem Zx(C:PlainAttrs T)(slot:Slot T name id)(E:typeOf (.builtin id)=pure (.type "method_descriptor")) (G:MtR X id r) (ho:PE X o to) (J:PA X (e :: es) t)
  (L:Da o name X.env (BQ o X.env)=BQ o X.env:=by rfl)
  (N:((CT u6 (AO (e :: es) X.env)).all (λx=>!x.1)&&(FN u6 (DH [] X.env)).all (λx=>x.1.isSome)
    &&decide ((e :: es).length+([]:List KO).length+(if ([]:List KO).isEmpty then 0 else 1) < 30))=true:=by rfl)
  (O:(apos.endLine==u6.line)=true:=by rfl) (P:AO (e :: es) X.env=(false,BQ e X.env) :: AO es X.env:=by rfl) (R:(CT u6 (AO es X.env)).any (·.1)=false:=by rfl) :
  PE X (.Call (.Attribute o name apos) (e :: es) [] u6) (tBM X.K T r to t):=by
 intro g s l H Q I h;refine wpAny_Call_method_late L N O rfl (thn (ho g s l H _ I h) λv S ⟨x,U,m,A,ty,Y⟩=>?_);obtain⟨Z,h2⟩:=dn m A ty;refine⟨T,id,C,slot,E,Z,h2,?_⟩;have B:=J u6 g S l U _ m Y;rw[P]at B ⊢;refine V1 (by show(false||(CT u6 (AO es X.env)).any (·.1))=false;rw[R] <;> rfl) (X4 ?_)
 exact thn B λus s2 ⟨vs,H2,I2,r2,q2⟩=>G g s2 l H2 x vs v us Q I2 A r2 q2
end
section
def MtM(X:Cx)(id:String)(r:V->List V->Hp->VK->Prop):Prop:=
 ∀(g:List (AR×Obj)) (s:AK) (l:St) (H:Hp) (x:V) (m:List V) (v:AG) (o:List AG) (Q:VK),Inv X g l H s->RelV x v->BL m o->r x m H Q ->
  AZ (AU X.prog X.w) X.A (call (.builtin id) (v :: o)) (EP X g l Q) X.xe s
theorem BL.one:∀{x:V} {us:List AG},BL [x] us->∃u,us=[u]/\RelV x u
 | _,_,.cons r .nil=>⟨_,rfl,r⟩
section
variable{X:Cx}{ζ:List (AR×Obj)}{σ:St}{H:Hp}{s:AK}{a:AR}{y v:V}{u r:AG}{o:Option V}{A:BX}{E:AG->AK->Prop}
theorem Inv.big(I:Inv X ζ σ H s):DM < s.heap.objs.size:=by
 have h:Av < s.heap.objs.size:=(I.mod.glob.keeps I.bk).lt;exact PR (by decide) h
theorem cE(J:A.units+1 < Dm)(I:Inv X ζ σ H s)(g:N2 H a y (some v))(G:RelV y u)(h:∀w' s',Inv X ζ σ H s'->RelV v w'->Q w' s') :
  AZ (AU X.prog X.w) A (MK (.ref a) u) Q E s:=by
 rcases g with⟨L,k,e,m,l⟩ | ⟨L,k,b,e,m,N,l⟩
 ·subst m
  obtain⟨z,O,P,rel,B⟩:=W9 I.hok e;obtain⟨w',hw,C⟩:=Lh.some_of (v:=v) (o:=SD P k) (by rw[l];exact rel.val k);exact wpAny_getItem_of (Wy G) B.mapOf hw (h w' _ (I.tok _) C)
 ·subst m
  cases(show u=A7 b from G);obtain⟨z,O,R,rel,B⟩:=W8 I.hok e;obtain⟨w',hw,C⟩:=Lh.some_of (v:=v) (o:=(Xt R k).map (·.2)) (by rw[l];exact rel.val k);obtain⟨p,S,T⟩:=Vl.mp hw;refine wpAny_getItem_heap (JF J) (RK I.hok N) B S ?_;rw[T];exact h w' _ (I.tok _) C
theorem d_in(J:A.units+1 < Dm)(I:Inv X ζ σ H s)(g:N2 H a y o)(G:RelV y u)(h:∀s',Inv X ζ σ H s'->Q (.bool o.isSome) s') :
  AZ (AU X.prog X.w) A (BH .In u (.ref a)) Q E s:=by
 rcases g with⟨L,k,e,m,l⟩ | ⟨L,k,b,e,m,N,l⟩
 ·subst m
  obtain⟨z,B,O,rel,C⟩:=W9 I.hok e;refine wpAny_in_of (Wy G) B C.mapOf ?_;rw[<-(rel.val k).isSome_eq,<-l];exact h _ (I.tok _)
 ·subst m
  cases(show u=A7 b from G);obtain⟨z,B,P,rel,C⟩:=W8 I.hok e;refine wpAny_in_heap (JF J) (RK I.hok N) B C ?_;have q:=(rel.val k).isSome_eq;rw[IM]at q;rw[<-q,<-l];exact h _ (I.tok _)
theorem km(J:A.units+1 < Dm)(I:Inv X ζ σ H s)(g:N2 H a y o)(G:RelV y u)(h:∀s',Inv X ζ σ H s'->Q (.bool (!o.isSome)) s') :
  AZ (AU X.prog X.w) A (BH .NotIn u (.ref a)) Q E s:=by
 rcases g with⟨L,k,e,m,l⟩ | ⟨L,k,b,e,m,N,l⟩
 ·subst m
  obtain⟨z,B,O,rel,C⟩:=W9 I.hok e;refine wpAny_notIn_of (Wy G) B C.mapOf ?_;rw[<-(rel.val k).isSome_eq,<-l];exact h _ (I.tok _)
 ·subst m
  cases(show u=A7 b from G);obtain⟨z,B,P,rel,C⟩:=W8 I.hok e;refine wpAny_notIn_heap (JF J) (RK I.hok N) B C ?_;have q:=(rel.val k).isSome_eq;rw[IM]at q;rw[<-q,<-l];exact h _ (I.tok _)
theorem aP(I:Inv X ζ σ H s)(l:Mut (H a))(m:Cr a s.heap h')(B:∃q,h'.get? a=some q)(new:C8 X.prog X.w (upd H a g) h' a g) :
  Inv X ζ σ (upd H a g) { s with heap:=h',toks:=t' }:=
 I.write (x:=a) (e:=a) l (.inl rfl) (λb q hb z=>(m.2 b hb).trans z) B new
theorem pd(z:g.length<=sizeLine)(l:(a==DM)=false)(rel:KV g vs)(dd:h'.DictOf (Dx P w) a vs) :
  C8 P w m h' a (.dK g):=⟨z,l,vs,rel,dd⟩
theorem cD(hu:A.units+1 < Dm)(I:Inv X ζ σ H s)(g:XY H a y v H')(S:RelV y u)(T:RelV v r)(h:∀s',Inv X ζ σ H' s'->Q () s') :
  AZ (AU X.prog X.w) A (qM (.ref a) u r) Q E s:=by
 rcases g with⟨m,k,e,G,l,J⟩ | ⟨m,k,b,e,G,U,l,J⟩
 ·subst G J
  obtain⟨z,L,vs,rel,N⟩:=tT I.hok e
  have O:vs.length<=sizeLine:=by rw[<-rel.length];exact z
  have P:(LZ m k v).length<=sizeLine:=by have:=O8 m k v;lia
  refine wpAny_setItem_pairs (hsz:=O) (Wy S) N λY B R=>h _ ?_
  have he:∃q,Y.get? a=some q:=let ⟨q,_,_,C,_⟩:=B;⟨q,C⟩
  exact aP I (by rw[e];exact EI) R he (pd P L (rel.put k T) B)
 ·subst G J
  cases(show u=A7 b from S);obtain⟨z,L,xs,rel,N⟩:=tS I.hok e
  have O:xs.length<=sizeLine:=by rw[<-EL rel];exact z
  have P:(LZ m k v).length<=sizeLine:=by have:=O8 m k v;lia
  refine wpAny_setItem_heap (hsz:=O) (JF hu) (RK I.hok U) N λY B R=>h _ ?_
  obtain⟨q,es,ep,C,h2,h3,h4,_,h5⟩:=B;refine aP I (by rw[e];exact EI) R ⟨q,C⟩ ⟨P,L,_,(rel.put k U T).keeps λc ys Z=>?_,q,es,ep,C,h2,h3,h4,h5⟩;rw[BC (sZ Z e (λz=>nomatch z))];exact Z
variable{X:Cx}{ζ:List (AR×Obj)}{σ:St}{H:Hp}{s:AK}{l:AR}{xs ys:List V}
theorem Inv.lset{g its':List AG}{n:Nat}{f:Array AG->Array AG}{t':Nat}(I:Inv X ζ σ H s)(m:H l=some (.lst xs))
  (e:s.heap.get? l=some { cls:=.type "list",data:=.seq g.toArray n }) (B:f g.toArray=its'.toArray) (C:BL ys its') (G:ys.length<=sizeLine) :
  Inv X ζ σ (upd H l (.lst ys)) { s with heap:=s.heap.update l (Ct f),toks:=t' }:=by
 have q:=PySem.IsL.update e f;rw[B]at q;refine I.write (x:=l) (e:=l) (by rw[m];exact trivial) (.inl rfl) (λL u hb J=>(As s.heap (Ct f) (Bo hb)).trans J) ⟨_,q⟩ ?_;exact⟨G,its',_,C,q⟩
theorem Inv.lnew(I:Inv X ζ σ H s)(m:BL ys g)(B:ys.length<=sizeLine) :
  Inv X ζ σ (upd H s.heap.objs.size (.lst ys)) { s with heap:=s.heap.push { cls:=.type "list",data:=.seq g.toArray },toks:=t' }:=
 I.laid (λ_ _ q=>AB _ q) (AN _) ⟨B,g,0,m,AJ _ rfl⟩
theorem Inv.fresh(I:Inv X ζ σ H s):H s.heap.objs.size=none:=I.hok.fresh (AN _)
theorem Inv.lstM(I:Inv X ζ σ H s)(m:H l=some (.lst xs)):xs.length<=sizeLine/\∃(g:List AG) (n:Nat),BL xs g/\xs.length=g.length/\s.heap.get? l=some { cls:=.type "list",data:=.seq g.toArray n }:=by
 obtain⟨z,g,n,r,e⟩:=I.hok l _ m;exact⟨z,g,n,r,r.length,e⟩
end
def qB(i:Expr):Prop:=∀g iv,Vg i false g iv=operate [g,iv] (MK g iv)
theorem jF{prog}{w}{A}{E}{s}{B}{value slice}{pos}{T id}{Q}
  (I:mG (.type T) "__getitem__" = pure (some (.builtin id))) (J:qB slice)
  (h:AZ (AU prog w) A (BQ value B) (λo l=>AZ (AU prog w) A (BQ slice B) (λi s₂=>s₂.TypeIs o T/\AZ (AU prog w) A (MK o i) Q E s₂) E l) E s) :
  AZ (AU prog w) A (BQ (.Subscript value slice pos) B) Q E s:=by
 refine mN (Ci h (λo l C=>Ci C (λi s₂ g=>?_) λ_ _ x=>x) λ_ _ x=>x);obtain⟨H,g⟩:=g;unfold aY;refine AA ?_;rw[getitemInPython_of_ne H.not_modules];refine AA (tq H I ?_)
 have fin:AZ (AU prog w) A (Vg slice false o i) (λr m=>AZ (AU prog w) A (letTemporaryGo value o r >>= λ_=>pure r) Q E m) E s₂:=by
  rw[J o i];exact wpAny_operating (Ci g (λr m G=>AA (wpAny_letTemporaryGo (AC G))) λ_ _ x=>x)
 first
  | exact AC (AA fin)
  | exact AA (AC (AA fin))
  | exact AA fin
theorem XA(I:Inv X A B H s)(g:N2 H a y o):s.TypeIs (.ref a) "dict":=by
 rcases g with⟨m,k,e,_,_⟩ | ⟨m,k,b,e,_,_,_⟩
 ·obtain⟨_,_,C,_,l⟩:=W9 I.hok e
  exact l.typeIs
 ·obtain⟨_,_,E,_,l⟩:=W8 I.hok e
  exact l.typeIs
def rR(m ty:TE):TE:=λg H Q=>m g H λx o=>ty g o λy l=>∃a v,x=.ref a/\N2 l a y (some v)/\Q v l
def rQ(ty m:TE):TE:=λg H Q=>ty g H λy s=>m g s λx l=>∃a o,x=.ref a/\N2 l a y o/\Q (.bl o.isSome) l
def Zh(ty m:TE):TE:=λg H Q=>ty g H λy s=>m g s λx l=>∃a o,x=.ref a/\N2 l a y o/\Q (.bl (!o.isSome)) l
def rc(m ty o:TE):TS:=λD g H=>o g H λv s=>m g s λx A=>ty g A λy B=>∃a l,x=.ref a/\XY B a y v l/\D.nx g l
variable{X:Cx}
def jV:V->List V->Hp->VK->Prop:=λx m H Q=>∃l g y,x=.ref l/\m=[y]/\H l=some (.lst g)/\g.length < sizeLine/\Q .non (upd H l (.lst (g++[y])))
theorem Tg:MtM X "list.append" jV:=by
 intro C s E H x G v J Q I o A h;obtain⟨l,L,y,rfl,rfl,g,N,q⟩:=h;cases o;obtain⟨u,rfl,B⟩:=A.one;obtain⟨z,m,n,r,O,e⟩:=I.lstM g;refine QP F.slot_list_append ⟨_,e,rfl⟩ F.entry_list_append (F.args_list_append_2 _ _) (PySem.list_append l m.toArray n u (by rw[Ad];lia)) ⟨e,?_⟩;refine⟨.non,_,I.lset (its':=m++[u]) g e (by simp) (r.append (.cons B .nil)) ?_,rfl,q⟩;rw[Ai,List.length_singleton]
 lia
def rCat:R2:=λx y H Q=>∃l b g m,x=.ref l/\y=.ref b/\H l=some (.lst g)/\H b=some (.lst m)/\g.length+m.length<=sizeLine/\∀p,H p=none->Q (.ref p) (upd H p (.lst (g++m)))
theorem oM:OpR X (Cd .Add) rCat:=by
 intro L s N H x y v u Q I o A h;obtain⟨l,b,O,R,rfl,rfl,B,C,S,q⟩:=h;cases o;cases A;obtain⟨z,g,n,r,T,e⟩:=I.lstM B;obtain⟨U,m,Y,E,Z,G⟩:=I.lstM C;refine PySem.P.add_list e G ?_ (by rw[Ad,Ad];lia)
 have J:g.toArray++m.toArray=(g++m).toArray:=by simp
 rw[J];exact⟨.ref _,_,I.lnew (t':=s.toks) (r.append E) (by rw[Ai];omega),rfl,q _ I.fresh⟩
section
variable{X:Cx}{o i value:Expr}{pos pos':Pos}{td ty tv:TE}
theorem ju(C:X.A.units+1 < Dm)(ho:PE X o td)(hi:PE X i ty)(E:qB i):PE X (.Subscript o i pos) (rR td ty):=by
 intro l s m H Q I h;refine jF PySem.F.slot_dict_getitem.lookup E (thn (ho l s m H _ I h) λu G ⟨x,J,L,N,O⟩=>thn (hi l G m J _ L O) λiv Y ⟨y,P,B,R,a,v,ex,g,S⟩=>?_);subst ex;obtain rfl:u=A7 a:=N;exact⟨XA B g,cE C B g R λw' Z T U=>⟨v,P,T,U,S⟩⟩
theorem fG(B:X.A.units+1 < Dm)(hi:PE X i ty)(ho:PE X o td):PC X .In i o (rQ ty td):=by
 intro l s m H Q I h
 refine thn (hi l s m H _ I h) λiv C ⟨y,E,G,J,L⟩=>thn (ho l C m E _ G L) λu U ⟨x,N,O,P,a,R,ex,g,S⟩=>?_
 subst ex;obtain rfl:u=A7 a:=P
 exact d_in B O g J λY T=>⟨.bl R.isSome,N,T,rfl,S⟩
theorem bS(B:X.A.units+1 < Dm)(hi:PE X i ty)(ho:PE X o td):PC X .NotIn i o (Zh ty td):=by
 intro l s m H Q I h
 refine thn (hi l s m H _ I h) λiv C ⟨y,E,G,J,L⟩=>thn (ho l C m E _ G L) λu U ⟨x,N,O,P,a,R,ex,g,S⟩=>?_
 subst ex;obtain rfl:u=A7 a:=P
 exact km B O g J λY T=>⟨.bl (!R.isSome),N,T,rfl,S⟩
theorem jd(B:X.A.units+1 < Dm)(ho:PE X o td)(hi:PE X i ty)(C:PE X value tv)(E:Fc value (some (.Subscript o i pos')) pos.line X.env=pure false) :
  PS X (.Assign [.Subscript o i pos'] value pos) (rc td ty tv):=by
 intro m s l H D I h;refine wpAny_Assign_Subscript (thn (C m s l H _ I h) λr G ⟨v,J,L,N,O⟩=>thn (ho m G l J _ L O) λu P ⟨x,Q,R,S,T⟩=>thn (hi m P l Q _ R T) λiv s3 ⟨y,H3,U,Y,a,Z,ex,g,q3⟩=>?_) E;subst ex;obtain rfl:u=A7 a:=S
 exact cD B U g Y N λs4 I4=>⟨l,Z,I4,q3⟩
end
theorem gr(h:Bu)(hb:DM < h.objs.size):C8 P w H (h.push { cls:=.type "dict",data:=.dict #[] }) h.objs.size (.dK []):=
 ⟨Bk _,beq_eq_false_iff_ne.mpr (Bo (Ae hb)),[],.nil,Bu.DictOf.new h⟩
theorem gq(h:Bu)(hb:DM < h.objs.size):C8 P w H (h.push { cls:=.type "dict",data:=.dict #[] }) h.objs.size (.dT []):=
 ⟨Bk _,beq_eq_false_iff_ne.mpr (Bo (Ae hb)),[],.nil,_,#[],0,AJ _ rfl,⟨rfl,rfl,rfl⟩,rfl,rfl,List.nodup_nil⟩
def nF:TE:=λ_ H Q=>∀p,H p=none->Q (.ref p) (upd H p (.dK []))
def nE:TE:=λ_ H Q=>∀p,H p=none->Q (.ref p) (upd H p (.dT []))
variable{s:AK}
section
variable{X:Cx}{pos:Pos}
theorem fF:PE X (.Dict [] [] pos) nF:=λg s l H Q I h=>
 qd ⟨.ref s.heap.objs.size,_,I.laid (a:=s.heap.objs.size) (o:=.dK []) (t':=s.toks) (λ_ _ q=>AB _ q) (AN _) (gr s.heap I.big),rfl,h _ (I.hok.fresh (AN _))⟩
theorem fE:PE X (.Dict [] [] pos) nE:=λg s l H Q I h=>
 qd ⟨.ref s.heap.objs.size,_,I.laid (a:=s.heap.objs.size) (o:=.dT []) (t':=s.toks) (λ_ _ q=>AB _ q) (AN _) (gq s.heap I.big),rfl,h _ (I.hok.fresh (AN _))⟩
end
end
end L2
namespace Att
open PySem.W PySem.Calls
theorem Px:∀(ns:ZLi) (vs:List AG),WellAll P h vs (ns.map t4)->IntsAre vs ns:=by
 intro ns
 induction ns with
 | nil=>
  intro vs w;rw[Xh]at w;cases w;exact .nil
 | cons n ns g=>
  intro vs w;rw[A2]at w
  cases w with
  | cons a b=>
   cases a;exact .cons _ _ (g _ b)
theorem bB{l:OpenLaw}{n:Nat}(G:l.most=some n){P:Params}{h:Bu}{args:List WData}{m:List AG}
  (C:l.row.toRowW.claim.pre args=true) (H:WellAll P h m args) :
  ∃a vs g,m=[A7 a]/\args=[WData.list (g.map t4)]/\h.get? a=some { cls:=.type "list",data:=.seq vs.toArray }/\IntsAre vs g/\g.length<=n:=by
 have B:WShape.hasAll [] args [.list .int]=true:=(pre_splitW C).1;have E:l.pre.holds [] { args:=args }=true:=(pre_splitW C).2;obtain⟨d,r,rfl,I,J⟩:=hasAllW_cons B;obtain rfl:=hasAllW_nil J;obtain⟨T,rfl,L⟩:=hasW_list I;obtain⟨g,rfl⟩:=items_int L
 have o:g.length<=n:=by
  unfold OpenLaw.pre at E
  have s:(WTm.not (.lt (.lit (.int (n:Int))) (.len (.arg 0)))).holds [] { args:=[.list (g.map .int)] }=true:=by
   have s:=(holds_andW E).1;rw[G]at s;exact s
  have A:=condW_of s (w_not (w_lt w_lit (w_len_list (w_arg rfl))));rw[AT]at A
  refine QV λq=>?_
  have N:(n:Int) < ((g.length:Nat):Int):=by omega
  first
   | (rw[wX N]at A;exact zX A (by decide))
   | (simp at A;omega)
 cases H with
 | cons O Q=>
  cases Q
  cases O with
  | list R S=>exact⟨_,_,g,rfl,rfl,R,Px g _ S,o⟩
theorem bN(l:OpenLaw)(args:List WData):l.row.toRowW.claim.post args (.bool true) args=true:=
 postW_of (r:=l.row.toRowW) (X:=(true==true))
  (show qP [] (.bool true) .bool=true by first | rfl | decide | simp[qP,WShape.arms,WShape.armsAll])
  (show(WTm.eq .res (.lit (.bool true))).value [] { args:=args,res:=some (.bool true),after:=args }=some (.bool (true==true))from w_eq_bool (w_res rfl) w_lit) rfl
theorem XR{l:OpenLaw}{n:Nat}{q:BJ}{m:List Str}{O:(Str->Option AG)->Bu->Prop}{P:Bs->Bu->Prop}{d:DefRec}
  (U:l.most=some n) (X:d.params.defaults=[])
  (call:∀(w:Bs) (s g:AK) (H L:Str->Option AG) (C:AR) (o:Obj) (N I A:AG) (a:AR) (vs:List AG) (J:ZLi),
   Ground q m [] O w s H L g.heap->P w g.heap ->
   g.heap.get? C=some o->o.data=.func (docDef d.name d.params d.body d.scope N I A)->g.heap.CodeRec I d.name->H d.name=some (.ref C) ->
   g.heap.get? a=some { cls:=.type "list",data:=.seq vs.toArray }->IntsAre vs J->J.length<=n->g.gens = #[] ->
   FB (AU l.prog w) SG (.call (.ref C) ⟨[.ref a],[]⟩) (λr s'=>r=.ok (.ret (.bool true))/\OldK g.heap s'.heap/\s'.os=g.os/\Ht s'.gens) g) :
  WalkO q m O P l.row.toRowW d [] (λf vs=>ah f vs):=by
 intro w s g H L G Y C o N I A Z kV ho hd vE Q xI hg R S as w5 T hrd Α wH;obtain rfl:Z=.none:=Dflts.none Q X;obtain rfl:kV=.none:=Dflts.noKw Q;obtain⟨a,vs,J,rfl,rfl,xJ,B,E⟩:=bB U w5 Α;refine enter_call (DY (call w s g H L C o N I A a vs J G Y ho (fd_plain hd) vE xI xJ B E hg) λr s' hq=>?_);obtain⟨rfl,h2,h3,h4⟩:=hq;exact⟨.inl ⟨.bool true,.bool true,[],rfl,λ_=>rfl,.bool true,bN l _,λ_=>⟨TF,λ_ hm=>(nomatch hm)⟩⟩,h2,h3,h4⟩
end Att
namespace L2
theorem TM:∀{vs:List AG} {g:ZLi},IntsAre vs g->BL (g.map V.int) vs
 | _,_,.nil=>.nil
 | _,_,.cons n t h=>.cons ⟨t,rfl⟩ (TM h)
def lI(H:Hp):Prop:=∀b,H b=none∨∃o g,H b=some (.frz o (.lst g))
theorem fZ{P}{w}{K}{l N}{CX}{k}{O a}{fd}{x}{sp}{s₁}{vs}{A}
  (T:K.In s₁.heap) (U:s₁.heap.Ns Av l) (hb:s₁.heap.Ns Xr N) (Q:∀x:Str,x≠"__name__"->N x=Ff x) (Β:s₁.heap.NoLimit) (hg:s₁.gens = #[])
  (J:s₁.heap.get? a=some { cls:=.type "list",data:=.seq vs.toArray }) (hi:IntsAre vs A) (X:A.length<=sizeLine) (hr:GD k SG)
  (F:∀base:Bu,K.In base->base.Ns Av l->Bm P w K l base CX k O fd [x] sp) (yP:∀(s:AK) (u:AG),Xk s fd ⟨[u],[]⟩ [(x,u)])
  (yy:∀H:Hp,lI H->SqL K H a (A.map V.int)->sp [.ref a] H (λv _=>v=.bl true) λ_ _ _=>False)
  (Γ:∀H e s',CX [] H s₁ (λ_ _ _=>False) e s'->False) :
  FB (AU P w) SG (.call (.ref O) ⟨[.ref a],[]⟩) (λr s'=>r=.ok (.ret (.bool true))/\OldK s₁.heap s'.heap/\s'.os=s₁.os/\Ht s'.gens) s₁:=by
 have Y:=TM hi;have Δ:=hi.length
 have g:∀H:Hp,lI H->SqL K H a (A.map V.int)->HOk P w H s₁.heap->(∀b,H b≠none->b=a)->(H a≠none->K.lookup a=none) ->
   FB (AU P w) SG (.call (.ref O) ⟨[.ref a],[]⟩) (λr s'=>r=.ok (.ret (.bool true))/\OldK s₁.heap s'.heap/\s'.os=s₁.os/\Ht s'.gens) s₁:=by
  intro H Z hS B hA hK
  have vY:∀{b:AR} {o:Obj},s₁.heap.get? b=some o->H b=none->(U3 s₁.heap H).get? b=some o:=λe n=>gC e n
  have yK:∀{b:AR} {o:Obj} {C:Array Ow} {ep:Nat},s₁.heap.get? b=some o->o.data=.dict C ep->H b=none:=λ{b o C ep} e d=>by
   cases q:H b with
   | none=>rfl
   | some u=>
    have R:b=a:=hA b (by rw[q];simp);subst R;rw[J]at e;cases e;have d':Data.seq vs.toArray _=Data.dict C ep:=d;cases d'
  have L:∀{b:AR} {m:Str->Option AG},s₁.heap.Ns b m->(U3 s₁.heap H).Ns b m:=λ{b m} ⟨o,C,ep,e,d,r⟩=>⟨o,C,ep,vY e (yK e d),d,r⟩
  have E:K.In (U3 s₁.heap H):=λb o e=>vY (T b o e) (by
   cases q:H b with
   | none=>rfl
   | some u=>
    have R:b=a:=hA b (by rw[q];simp);subst R
    rw[hK (by rw[q];simp)]at e;cases e)
  have hM:Mod K l (U3 s₁.heap H):=⟨E,L U,⟨N,L hb,Q⟩,let ⟨mc,h1,h2⟩:=Β;⟨mc,L h1,h2⟩⟩;have e0:ZJ P w K l (U3 s₁.heap H) SG [] s₁ H:=⟨rfl,hM,λb o e=>kD e,Xy (bq _ _),trivial,λb hb=>zX (show b∈([]:List AR)from hb) (by simp),B,.of_eq hg⟩
  refine DY ((F _ E (L U)).run SG [] s₁ H ⟨[.ref a],[]⟩ [.ref a] [.ref a] _ _ hr e0 (yP s₁ (.ref a)) (.cons rfl .nil) (yy H Z hS)) λr s' h=>?_
  cases r with
  | error e=>exact(Γ H e s' h).elim
  | ok fl=>
   cases fl with
   | next=>exact Dv h
   | brk=>exact Dv h
   | cont=>exact Dv h
   | ret u=>
    obtain⟨v,H',os,G,un,Ε,r',q⟩:=h;have q':v=.bl true:=q;subst q';obtain rfl:u=J9 true:=r';refine⟨rfl,OldK.of_keep λb o e=>?_,os,G⟩
    cases q:H b with
    | none=>exact un.keep b o e q (by intro z;exact zX (show b∈([]:List AR)from z) (by simp)) (by simp)
    | some u=>
     rcases Z b with z | ⟨ob,xs,z⟩
     ·rw[q]at z;cases z
     ·have z2:=un.frzs b ob _ z
      obtain⟨e1,_⟩:=B b _ z;obtain⟨e2,_⟩:=Ε b _ z2;rw[e]at e1;cases e1;exact e2
 cases S:K.lookup a with
 | some o=>
  have e:=T a o S;rw[J]at e;cases e
  refine g (λ_=>none) (λ_=>.inl rfl) (.inr ⟨_,vs.toArray,_,S,rfl,rfl,rfl,by rw[Ad,Δ];exact X,by simpa using Y⟩) (λb u z=>by have I:(none:Option HO)=some u:=z;cases I) (λb z=>zX rfl z) λz=>zX rfl z
 | none=>
  refine g (λb=>if b=a then some (.frz { cls:=.type "list",data:=.seq vs.toArray } (.lst (A.map V.int)))else none) (λb=>?_) (.inl (.inr ⟨{ cls:=.type "list",data:=.seq vs.toArray },qX rfl⟩)) (λb u z=>?_) (λb z=>?_) λ_=>S
  ·by_cases hb:b=a
   ·exact .inr ⟨_,_,qX hb⟩
   ·exact .inl (qY hb)
  ·by_cases hb:b=a
   ·have I:=(qX hb).symm.trans z
    cases I;subst hb;exact⟨J,by rw[AT];exact X,vs,_,Y,J⟩
   ·have I:=(qY hb).symm.trans z
    cases I
  ·by_cases hb:b=a
   ·exact hb
   ·exact zX (qY hb) z
theorem ir{l:PySem.W.OpenLaw}{n k:Nat}{q:BJ}{A:List Str}{P:(Str->Option AG)->Bu->Prop}{L:Bs->Bu->Prop}{d:DefRec}{K:Params->AE}{CX:Bs->CXT}{sp:Bs->Sp}{x:Str}
  (Q:l.most=some n) (R:n<=sizeLine) (S:d.params.defaults=[]) (U:GD k SG)
  (X:∀(w:Bs) (h:Bu),L w h->(K w.params).In h)
  (F:∀(w:Bs) (C:Str->Option AG) (I:AR) (h:Bu),(K w.params).In h->h.Ns Av C->C d.name=some (.ref I) ->
   ∃fd:Hx,(∀(s:AK) (u:AG),Xk s fd ⟨[u],[]⟩ [(x,u)]) /\
    ∀base:Bu,(K w.params).In base->base.Ns Av C->Bm l.prog w (K w.params) C base (CX w) k I fd [x] (sp w))
  (Z:∀(w:Bs) (H:Hp) (a:AR) (J:ZLi),J.length<=n->lI H->SqL (K w.params) H a (J.map V.int)->sp w [.ref a] H (λv _=>v=.bl true) λ_ _ _=>False)
  (Γ:∀(w:Bs) (H:Hp) (s:AK) (e:AG) (s':AK),CX w [] H s (λ_ _ _=>False) e s'->False) :
  PySem.W.WalkO q A P L l.row.toRowW d [] (λf vs=>ah f vs):=by
 refine Att.XR Q S λw N E C mb I o pm cd doc a vs J G Y ho hd vE xI xJ B m hg=>?_
 have O:=X w _ Y;obtain⟨fd,hb,hF⟩:=F w C I _ O G.T.g xI
 exact fZ O G.T.g G.T.b G.T.builtins G.T.nolimit hg xJ B (Ap m R) U hF hb (λH hO hS=>Z w H a J m hO hS) λH e s'=>Γ w H E e s'
def D9(s:Bw)(j:Nat):Bw:=match s with
 | .ClassDef _ _ _ body _ _ _ _ _ _ _=>body.getD j (.Pass ⟨0,0,0,0⟩)
 | _=>.Pass ⟨0,0,0,0⟩
def Jo(s:Bw):Arguments:=match s with
 | .FunctionDef _ a _ _ _ _ _ _ _ _=>a
 | _=>{ posonlyargs:=[],args:=[],vararg:=none,kwonlyargs:=[],kw_defaults:=[],kwarg:=none,defaults:=[] }
def F6(s:Bw):List Bw:=match s with
 | .FunctionDef _ _ b _ _ _ _ _ _ _=>b
 | _=>[]
def Ah(s:Bw):SH:=match s with
 | .FunctionDef _ _ _ _ _ _ g _ _ _=>g
 | _=>{ kind:=.function,names:=[],isGenerator:=false,isCoroutine:=false }
structure Fun(K:AE)(x qual:Str)(st:Bw)(f:AR)(fd:Hx):Prop where
 ex:∃(oc:AG) (od:Option AR) (kV doc pm:AG) (an:Option AR) (ur ct:AG) (wb:Array (Option AG)),
  fd=HF x qual (Jo st) (F6 st) (Ah st) .none kV doc pm an ur ct/\K.lookup f=some ⟨oc,od,.func fd,wb⟩/\QR K ur qual=true
 kp:Ee K (.ref f)=true
section
variable{K:AE}
theorem Fun.binds{x g}{st}{f}{fd}{m}(F:Fun K x g st f fd)
  (h:∀(kV l o:AG) (s:Option AR) (A ct:AG) (us:List AG),us.length=m.length->iS (HF x g (Jo st) (F6 st) (Ah st) .none kV l o s A ct) ⟨us,[]⟩=pure (m.zip us)):Binds K fd m []:=by
 obtain⟨B,C,kV,l,o,s,A,ct,E,rfl,G,H⟩:=F.ex;exact .all (h kV l o s A ct)
theorem gY{x g}{st}{f}{B}{C s}{E}{kV m A o ct}(l:K.lookup f=some ⟨B,C,.func (HF x g (Jo st) (F6 st) (Ah st) .none kV m A s o ct),E⟩)
  (c:QR K o g=true) (k:Ee K (.ref f)=true):Fun K x g st f (HF x g (Jo st) (F6 st) (Ah st) .none kV m A s o ct):=⟨⟨B,C,kV,m,A,s,o,ct,E,rfl,l,c⟩,k⟩
end
section
variable{X:Cx}
theorem pv(i:Nat)(g:X.N[i]?=some x:=by rfl)(l:Vis X.env.scope x:=by first | exact Ia rfl | exact Hs (Ia rfl) | exact Hs (Hs rfl))(m:(x==("__debug__" : Str))=false:=by decide)
  (o:(x==("__classdict__" : Str))=false:=by decide):PE X (.Name x pos) (nB i):=nr g l m o
end
inductive D where
 | non | bl (b:Bool) | int (i:Int) | str (x:Str) | tup (ds:List D) | fro (ds:List D) | ref (n:Nat) | exc (C:AR)
def Sz(K:AE)(H:Hp)(a:AR)(vs:List V):Prop:=
 (∃o,H a=some (.frz o (.lst vs))) ∨
  ∃(o:Obj) (g:Array AG) (n:Nat),K.lookup a=some o/\o.cls=.type "list"/\o.dict=none/\o.data=.seq g n/\g.size<=sizeLine/\BL vs g.toList
theorem Sz.sq{K}{H}{a}{vs}(h:Sz K H a vs):SqL K H a vs:=by
 rcases h with h | h
 ·exact .inl (.inr h)
 ·exact .inr h
def Vd(o:Obj)(C:AR):Prop:=o.cls=.ref C/\o.dict=none/\∃g,o.data=.fields g
mutual
inductive Bf(K:AE)(ρ:List AR)(H:Hp):D->V->Prop where
 | non:Bf K ρ H .non .non
 | bl (b:Bool):Bf K ρ H (.bl b) (.bl b)
 | int (i:Int):Bf K ρ H (.int i) (.int i)
 | str (x:Str):Bf K ρ H (.str x) (.str x)
 | tup {ds:List D} {a:AR} {vs:List V}:H a=some (.tup vs)->Ao K ρ H ds vs->Bf K ρ H (.tup ds) (.ref a)
 | fro {ds:List D} {a:AR} {vs:List V}:Sz K H a vs->Ao K ρ H ds vs->Bf K ρ H (.fro ds) (.ref a)
 | ref {n:Nat} {a:AR}:ρ[n]?=some a->Bf K ρ H (.ref n) (.ref a)
 | exc {C a:AR} {o:Obj} {u:HO}:H a=some (.frz o u)->Vd o C->Bf K ρ H (.exc C) (.ref a)
inductive Ao(K:AE)(ρ:List AR)(H:Hp):List D->List V->Prop where
 | nil:Ao K ρ H [] []
 | cons {d:D} {v:V} {ds:List D} {vs:List V}:Bf K ρ H d v->Ao K ρ H ds vs->Ao K ρ H (d :: ds) (v :: vs)
end
structure Le(K:AE)(ρ:List AR)(H:Hp)(ρ':List AR)(H':Hp):Prop where
 pre:∀(n:Nat) a,ρ[n]?=some a->ρ'[n]?=some a
 tup:∀a xs,H a=some (.tup xs)->H' a=some (.tup xs)
 frz:∀a o u,H a=some (.frz o u)->H' a=some (.frz o u)
 oth:∀a o,H a=some o->(∀n:Nat,ρ[n]?≠some a)->H' a=some o/\∀n:Nat,ρ'[n]?≠some a
theorem Sz.mono{K}{H g}{a}{xs}(l:∀a o u,H a=some (.frz o u)->g a=some (.frz o u))(h:Sz K H a xs):Sz K g a xs:=by
 rcases h with⟨o,h⟩ | h
 ·exact .inl ⟨o,l _ _ _ h⟩
 ·exact .inr h
section
variable{K:AE}{ρ ρ' ρ'':List AR}{H H' we:Hp}
theorem Le.fro(l:Le K ρ H ρ' H'):∀a xs,Sz K H a xs->Sz K H' a xs:=λ_ _ h=>h.mono l.frz
theorem Le.refl:Le K ρ H ρ H:=⟨λ_ _ h=>h,λ_ _ h=>h,λ_ _ _ h=>h,λ_ _ h n=>⟨h,n⟩⟩
theorem Le.trans(a:Le K ρ H ρ' H')(b:Le K ρ' H' ρ'' we):Le K ρ H ρ'' we:=
 ⟨λn x h=>b.pre n x (a.pre n x h),λx g h=>b.tup x g (a.tup x g h),λx o u h=>b.frz x o u (a.frz x o u h),λx o h n=>b.oth x o (a.oth x o h n).1 (a.oth x o h n).2⟩
mutual
theorem Bf.mono(l:Le K ρ H ρ' H'):∀{d:D} {v:V},Bf K ρ H d v->Bf K ρ' H' d v
 | _,_,.non=>.non
 | _,_,.bl b=>.bl b
 | _,_,.int i=>.int i
 | _,_,.str x=>.str x
 | _,_,.tup h r=>.tup (l.tup _ _ h) (Ao.mono l r)
 | _,_,.fro h r=>.fro (l.fro _ _ h) (Ao.mono l r)
 | _,_,.ref h=>.ref (l.pre _ _ h)
 | _,_,.exc h e=>.exc (l.frz _ _ _ h) e
theorem Ao.mono(l:Le K ρ H ρ' H'):∀{ds:List D} {vs:List V},Ao K ρ H ds vs->Ao K ρ' H' ds vs
 | _,_,.nil=>.nil
 | _,_,.cons r t=>.cons (Bf.mono l r) (Ao.mono l t)
end
mutual
theorem Bf.more(l:∀(n:Nat) a,ρ[n]?=some a->ρ'[n]?=some a):∀{d:D} {v:V},Bf K ρ H d v->Bf K ρ' H d v
 | _,_,.non=>.non
 | _,_,.bl b=>.bl b
 | _,_,.int i=>.int i
 | _,_,.str x=>.str x
 | _,_,.tup h r=>.tup h (Ao.more l r)
 | _,_,.fro h r=>.fro h (Ao.more l r)
 | _,_,.ref h=>.ref (l _ _ h)
 | _,_,.exc h e=>.exc h e
theorem Ao.more(l:∀(n:Nat) a,ρ[n]?=some a->ρ'[n]?=some a):∀{ds:List D} {vs:List V},Ao K ρ H ds vs->Ao K ρ' H ds vs
 | _,_,.nil=>.nil
 | _,_,.cons r t=>.cons (Bf.more l r) (Ao.more l t)
end
mutual
theorem Bf.keep(l:∀a xs,H a=some (.tup xs)->H' a=some (.tup xs))(g:∀a o u,H a=some (.frz o u)->H' a=some (.frz o u)):∀{d:D} {v:V},Bf K ρ H d v->Bf K ρ H' d v
 | _,_,.non=>.non
 | _,_,.bl b=>.bl b
 | _,_,.int i=>.int i
 | _,_,.str x=>.str x
 | _,_,.tup h r=>.tup (l _ _ h) (Ao.keep l g r)
 | _,_,.fro h r=>.fro (h.mono g) (Ao.keep l g r)
 | _,_,.ref h=>.ref h
 | _,_,.exc h e=>.exc (g _ _ _ h) e
theorem Ao.keep(g:∀a xs,H a=some (.tup xs)->H' a=some (.tup xs))(l:∀a o u,H a=some (.frz o u)->H' a=some (.frz o u)):∀{ds:List D} {vs:List V},Ao K ρ H ds vs->Ao K ρ H' ds vs
 | _,_,.nil=>.nil
 | _,_,.cons r t=>.cons (Bf.keep g l r) (Ao.keep g l t)
end
theorem Ao.length:∀{ds:List D} {vs:List V},Ao K ρ H ds vs->ds.length=vs.length
 | _,_,.nil=>rfl
 | _,_,.cons _ t=>by rw[A0,A0,Ao.length t]
theorem Ao.get:∀{ds:List D} {vs:List V} {i:Nat} {d:D},Ao K ρ H ds vs->ds[i]?=some d->∃v,vs[i]?=some v/\Bf K ρ H d v
 | _,_,_,_,.nil,e=>by simp at e
 | _,_,0,_,.cons r _,e=>by simp at e;subst e;exact⟨_,rfl,r⟩
 | _,_,i+1,d,.cons _ t,e=>by
  obtain⟨v,g,l⟩:=Ao.get t (by simpa using e);exact⟨v,by simpa using g,l⟩
theorem Ao.get':∀{ds:List D} {vs:List V} {i:Nat} {v:V},Ao K ρ H ds vs->vs[i]?=some v->∃d,ds[i]?=some d/\Bf K ρ H d v
 | _,_,_,_,.nil,e=>by simp at e
 | _,_,0,_,.cons r _,e=>by simp at e;subst e;exact⟨_,rfl,r⟩
 | _,_,i+1,d,.cons _ t,e=>by
  obtain⟨v,g,l⟩:=Ao.get' t (by simpa using e);exact⟨v,by simpa using g,l⟩
theorem Ao.append:∀{ds es:List D} {vs us:List V},Ao K ρ H ds vs->Ao K ρ H es us->Ao K ρ H (ds++es) (vs++us)
 | _,_,_,_,.nil,s=>s
 | _,_,_,_,.cons r t,s=>.cons r (Ao.append t s)
theorem Ao.take:∀{ds:List D} {vs:List V} (n:Nat),Ao K ρ H ds vs->Ao K ρ H (ds.take n) (vs.take n)
 | _,_,0,_=>.nil
 | _,_,_+1,.nil=>.nil
 | _,_,n+1,.cons r t=>.cons r (Ao.take n t)
theorem Ao.drop:∀{ds:List D} {vs:List V} (n:Nat),Ao K ρ H ds vs->Ao K ρ H (ds.drop n) (vs.drop n)
 | _,_,0,r=>r
 | _,_,_+1,.nil=>.nil
 | _,_,n+1,.cons _ t=>Ao.drop n t
theorem Ao.set(r:Bf K ρ H d v):∀{ds:List D} {vs:List V} (i:Nat),Ao K ρ H ds vs->Ao K ρ H (ds.set i d) (vs.set i v)
 | _,_,_,.nil=>.nil
 | _,_,0,.cons _ t=>.cons r t
 | _,_,i+1,.cons q t=>.cons q (Ao.set r i t)
theorem Ao.of_ints:∀(g:ZLi),Ao K ρ H (g.map D.int) (g.map V.int)
 | []=>.nil
 | n :: g=>.cons (.int n) (Ao.of_ints g)
theorem Ao.ints:∀{g:ZLi} {vs:List V},Ao K ρ H (g.map D.int) vs->vs=g.map V.int
 | [],_,.nil=>rfl
 | n :: g,_,.cons r t=>by
  cases r;rw[Ao.ints t];rfl
end
inductive Ob where
 | lst (ds:List D)
 | dK (sN:List (Key×D))
 | dT (sN:List (List Key×D))
 | ins (C:AR) (fs:List (Str×D))
 | fK (sN:List (Key×D))
 | fT (sN:List (List Key×D))
 | mem (L:Key->Int)
abbrev Sto:=List Ob
def memU:List Key:=(CV 1000).map λ(i:Nat)=>M4 (i:Int)
abbrev KVR{g:Type}(K:AE)(ρ:List AR)(H:Hp):List (g×D)->List (g×V)->Prop:=FO λ(p:g×D) (q:g×V)=>p.1=q.1/\Bf K ρ H p.2 q.2
def DW(K:AE)(ρ:List AR)(H:Hp)(a:AR):Ob->Prop
 | .lst A=>∃o,H a=some (.lst o)/\Ao K ρ H A o
 | .dK l=>∃g,H a=some (.dK g)/\KVR K ρ H l g
 | .dT l=>∃g,H a=some (.dT g)/\KVR K ρ H l g
 | .ins C fs=>∃B s,H a=some (.ins C B s)/\KVR K ρ H fs s
 | .fK l=>∃m g,H a=some (.frz m (.dK g))/\KVR K ρ H l g
 | .fT l=>∃m g,H a=some (.frz m (.dT g))/\KVR K ρ H l g
 | .mem L=>∃g,H a=some (.dK g)/\(g.map (·.1)).Nodup/\∀x∈g,x.1∈memU/\x.2=V.int (L x.1)
structure Bz(K:AE)(ρ:List AR)(S:Sto)(H:Hp):Prop where
 len:ρ.length=S.length
 nd:∀(i j:Nat) a,ρ[i]?=some a->ρ[j]?=some a->i=j
 ob:∀(n:Nat) o a,S[n]?=some o->ρ[n]?=some a->DW K ρ H a o
section
variable{K:AE}{ρ ρ':List AR}{H H':Hp}{S:Sto}{a p:AR}{o:Ob}{n:Nat}{ho:HO}
theorem KVR.mono{g:Type}(l:Le K ρ H ρ' H'){x:List (g×D)}{y:List (g×V)}(h:KVR K ρ H x y):KVR K ρ' H' x y:=FO.mapP h λ_ _ z=>⟨z.1,z.2.mono l⟩
theorem DW.has(h:DW K ρ H a o):H a≠none:=by
 cases o with
 | lst g=>obtain⟨_,e,_⟩:=h;rw[e];exact λz=>nomatch z
 | dK g=>obtain⟨_,e,_⟩:=h;rw[e];exact λz=>nomatch z
 | dT g=>obtain⟨_,e,_⟩:=h;rw[e];exact λz=>nomatch z
 | ins C fs=>obtain⟨_,_,e,_⟩:=h;rw[e];exact λz=>nomatch z
 | fK g=>obtain⟨_,_,e,_⟩:=h;rw[e];exact λz=>nomatch z
 | fT g=>obtain⟨_,_,e,_⟩:=h;rw[e];exact λz=>nomatch z
 | mem L=>obtain⟨_,e,_⟩:=h;rw[e];exact λz=>nomatch z
theorem DW.mono(l:Le K ρ H ρ' H')(e:H' a=H a)(h:DW K ρ H a o):DW K ρ' H' a o:=by
 cases o with
 | lst B=>obtain⟨g,m,s⟩:=h;exact⟨g,e.trans m,s.mono l⟩
 | dK B=>obtain⟨g,m,s⟩:=h;exact⟨g,e.trans m,s.mono l⟩
 | dT B=>obtain⟨g,m,s⟩:=h;exact⟨g,e.trans m,s.mono l⟩
 | ins C fs=>obtain⟨A,g,m,s⟩:=h;exact⟨A,g,e.trans m,s.mono l⟩
 | fK B=>obtain⟨A,g,m,s⟩:=h;exact⟨A,g,e.trans m,s.mono l⟩
 | fT B=>obtain⟨A,g,m,s⟩:=h;exact⟨A,g,e.trans m,s.mono l⟩
 | mem L=>obtain⟨g,m,s⟩:=h;exact⟨g,e.trans m,s⟩
theorem DW.keep(s:∀a xs,H a=some (.tup xs)->H' a=some (.tup xs))(A:∀a o u,H a=some (.frz o u)->H' a=some (.frz o u))(e:H' a=H a)(h:DW K ρ H a o):DW K ρ H' a o:=by
 cases o with
 | lst E=>obtain⟨g,l,m⟩:=h;exact⟨g,e.trans l,m.keep s A⟩
 | dK E=>obtain⟨g,l,m⟩:=h;exact⟨g,e.trans l,FO.mapP m λ_ _ z=>⟨z.1,z.2.keep s A⟩⟩
 | dT E=>obtain⟨g,l,m⟩:=h;exact⟨g,e.trans l,FO.mapP m λ_ _ z=>⟨z.1,z.2.keep s A⟩⟩
 | ins C fs=>obtain⟨B,g,l,m⟩:=h;exact⟨B,g,e.trans l,FO.mapP m λ_ _ z=>⟨z.1,z.2.keep s A⟩⟩
 | fK E=>obtain⟨B,g,l,m⟩:=h;exact⟨B,g,e.trans l,FO.mapP m λ_ _ z=>⟨z.1,z.2.keep s A⟩⟩
 | fT E=>obtain⟨B,g,l,m⟩:=h;exact⟨B,g,e.trans l,FO.mapP m λ_ _ z=>⟨z.1,z.2.keep s A⟩⟩
 | mem L=>obtain⟨g,l,m⟩:=h;exact⟨g,e.trans l,m⟩
theorem DW.mono'(l:∀(n:Nat) a,ρ[n]?=some a->ρ'[n]?=some a)(h:DW K ρ H a o):DW K ρ' H a o:=by
 cases o with
 | lst B=>obtain⟨g,m,s⟩:=h;exact⟨g,m,s.more l⟩
 | dK B=>obtain⟨g,m,s⟩:=h;exact⟨g,m,FO.mapP s λ_ _ z=>⟨z.1,z.2.more l⟩⟩
 | dT B=>obtain⟨g,m,s⟩:=h;exact⟨g,m,FO.mapP s λ_ _ z=>⟨z.1,z.2.more l⟩⟩
 | ins C fs=>obtain⟨A,g,m,s⟩:=h;exact⟨A,g,m,FO.mapP s λ_ _ z=>⟨z.1,z.2.more l⟩⟩
 | fK B=>obtain⟨A,g,m,s⟩:=h;exact⟨A,g,m,FO.mapP s λ_ _ z=>⟨z.1,z.2.more l⟩⟩
 | fT B=>obtain⟨A,g,m,s⟩:=h;exact⟨A,g,m,FO.mapP s λ_ _ z=>⟨z.1,z.2.more l⟩⟩
 | mem L=>exact h
theorem Fx(l:H p=none∨Mut (H p)):(∀a xs,H a=some (.tup xs)->upd H p ho a=some (.tup xs))/\∀a o u,H a=some (.frz o u)->upd H p ho a=some (.frz o u):=by
 have g:∀a u,H a=some u->¬Mut (some u)->a≠p:=λa u e m z=>by
  subst z
  rcases l with h | h
  ·rw[e]at h;cases h
  ·rw[e]at h;exact m h
 refine⟨λa xs e=>?_,λa o u e=>?_⟩
 ·rw[BC (g a _ e λz=>z)];exact e
 ·rw[BC (g a _ e λz=>z)];exact e
theorem Le.fresh(g:H p=none):Le K ρ H ρ (upd H p ho):=
 ⟨λ_ _ h=>h,(Fx (.inl g)).1,(Fx (.inl g)).2,λa o e n=>⟨by rw[BC (Bl e g)];exact e,n⟩⟩
theorem Le.write(l:ρ[n]?=some p)(g:Mut (H p)):Le K ρ H ρ (upd H p ho):=
 ⟨λ_ _ h=>h,(Fx (.inr g)).1,(Fx (.inr g)).2,λa o e h=>⟨by rw[BC λz=>h n (by rw[z];exact l)];exact e,h⟩⟩
theorem EF{g:Type}{l:List g}{x:g}{m:Nat}{a:g}(e:(l++[x])[m]?=some a):(l[m]?=some a/\m < l.length)∨(m=l.length/\a=x):=by
 by_cases s:m < l.length
 ·rw[AM s]at e;exact .inl ⟨e,s⟩
 ·rw[Aj (by lia)]at e
  have:m - l.length=0:=by
   have:=(AH.mp e).1;simp at this;omega
  rw[this]at e;exact .inr ⟨by lia,by simpa using e.symm⟩
theorem Le.alloc(g:H p=none):Le K ρ H (ρ++[p]) (upd H p ho):=by
 refine⟨λn a h=>by rw[AM (AH.mp h).1];exact h,(Fx (.inl g)).1,(Fx (.inl g)).2,λa o e h=>⟨by rw[BC (Bl e g)];exact e,λn q=>?_⟩⟩
 rcases EF q with⟨q,_⟩ | ⟨_,q⟩
 ·exact h n q
 ·exact Bl e g q
theorem Bz.at(h:Bz K ρ S H)(e:S[n]?=some o):∃a,ρ[n]?=some a/\DW K ρ H a o:=by
 have g:n < ρ.length:=by rw[h.len];exact(AH.mp e).1
 exact⟨ρ[n],by simp[g],h.ob n o _ e (by simp[g])⟩
theorem Bz.there(h:Bz K ρ S H){m:Nat}(e:ρ[m]?=some a):∃o,S[m]?=some o/\DW K ρ H a o:=by
 have g:m < S.length:=by rw[<-h.len];exact(AH.mp e).1
 exact⟨S[m],by simp[g],h.ob m _ a (by simp[g]) e⟩
theorem Bz.notIn(h:Bz K ρ S H)(g:H p=none){m:Nat}(e:ρ[m]?=some p):False:=by
 obtain⟨o,_,r⟩:=h.there e;exact r.has g
theorem Bz.alloc(h:Bz K ρ S H)(l:H p=none)(E:DW K (ρ++[p]) (upd H p ho) p o):Bz K (ρ++[p]) (S++[o]) (upd H p ho)/\Le K ρ H (ρ++[p]) (upd H p ho)/\(ρ++[p])[S.length]?=some p:=by
 have le:Le K ρ H (ρ++[p]) (upd H p ho):=Le.alloc l
 have at':∀(m:Nat) a,(ρ++[p])[m]?=some a->(ρ[m]?=some a/\m < ρ.length)∨(m=ρ.length/\a=p):=λm a e=>EF e
 refine⟨⟨by simp[h.len],λi j a G I=>?_,λm J a g L=>?_⟩,le,by rw[<-h.len];simp⟩
 ·rcases at' i a G with⟨s,_⟩ | ⟨s,N⟩ <;> rcases at' j a I with⟨A,_⟩ | ⟨A,B⟩
  ·exact h.nd i j a s A
  ·rw[B]at s;exact(h.notIn l s).elim
  ·rw[N]at A;exact(h.notIn l A).elim
  ·lia
 ·rcases at' m a L with⟨C,O⟩ | ⟨rfl,rfl⟩
  ·rw[AM (by rw[<-h.len];exact O)]at g
   refine(h.ob m J a g C).mono le (BC λz=>?_);rw[z]at C;exact h.notIn l C
  ·rw[h.len]at g
   simp at g;subst g;exact E
theorem Bz.write(h:Bz K ρ S H)(l:ρ[n]?=some a)(s:DW K ρ (upd H a ho) a o)(le:Le K ρ H ρ (upd H a ho)):Bz K ρ (S.set n o) (upd H a ho)/\Le K ρ H ρ (upd H a ho):=by
 refine⟨⟨by simp[h.len],h.nd,λm A b g hb=>?_⟩,le⟩
 by_cases e:m=n
 ·subst e
  rw[l]at hb;cases hb;rw[CS (by rw[<-h.len];exact(AH.mp l).1)]at g;cases g;exact s
 ·rw[BI (Bo e)]at g
  refine(h.ob m A b g hb).mono le (BC λz=>?_);subst z;exact e (h.nd m n b hb l)
theorem Le.back{A:Sto}(l:Le K ρ H ρ' H')(s:Bz K ρ S H)(s':Bz K ρ' A H')(m:H' p=none):H p=none:=by
 cases q:H p with
 | none=>rfl
 | some o=>
  by_cases g:∃n:Nat,ρ[n]?=some p
  ·obtain⟨n,g⟩:=g
   exact(s'.notIn m (l.pre n p g)).elim
  ·have:=(l.oth p o q λn h=>g ⟨n,h⟩).1
   rw[m]at this;cases this
theorem Bz.adopt(h:Bz K ρ S H)(C:∀m:Nat,ρ[m]?≠some p)(E:DW K (ρ++[p]) H p o):Bz K (ρ++[p]) (S++[o]) H/\(ρ++[p])[S.length]?=some p:=by
 have le:∀a ob,DW K ρ H a ob->DW K (ρ++[p]) H a ob:=λa ob r=>by
  have G:∀(n:Nat) a,ρ[n]?=some a->(ρ++[p])[n]?=some a:=λn a h=>by rw[AM (AH.mp h).1];exact h
  exact r.mono' G
 refine⟨⟨by simp[h.len],λi j a I J=>?_,λm ob a g A=>?_⟩,by rw[<-h.len];simp⟩
 ·rcases EF I with⟨l,_⟩ | ⟨l,L⟩ <;> rcases EF J with⟨s,_⟩ | ⟨s,B⟩
  ·exact h.nd i j a l s
  ·rw[B]at l;exact(C i l).elim
  ·rw[L]at s;exact(C j s).elim
  ·lia
 ·rcases EF A with⟨A,N⟩ | ⟨rfl,rfl⟩
  ·rw[AM (by rw[<-h.len];exact N)]at g
   exact le a ob (h.ob m ob a g A)
  ·rw[h.len]at g
   simp at g;subst g;exact E
end
inductive Res(α:Type) where
 | ok (a:α) (S:Sto) | err (c:AR) (S:Sto) | bad
noncomputable def Res.bind{g β:Type}(r:Res g)(f:g->Sto->Res β):Res β:=match r with
 | .ok a S=>f a S
 | .err c S=>.err c S
 | .bad=>.bad
abbrev Lo:=List (Option D)
abbrev ME:=Lo->Sto->Res D
abbrev MT:=Lo->Sto->Res Bool
abbrev ML:=Lo->Sto->Res (List D)
inductive Fl where
 | nx (e:Lo) | rt (d:D) | bk (e:Lo) | ct (e:Lo) | ex (c:AR) (e:Lo)
abbrev MS:=Lo->Sto->Res Fl
abbrev MG:=D->Lo->Sto->Res Lo
abbrev On:=Sto->Option (List D)
abbrev MI:=Lo->Sto->Res On
structure E8(K:AE)(ρ:List AR)(H:Hp)(e:Lo)(σ:St):Prop where
 len:e.length=σ.length
 at':∀(i:Nat) d,e[i]?=some (some d)->∃v,σ[i]?=some (some v)/\Bf K ρ H d v
section
variable{K:AE}{ρ ρ':List AR}{H H':Hp}{e:Lo}{σ:St}
theorem E8.mono(l:Le K ρ H ρ' H')(h:E8 K ρ H e σ):E8 K ρ' H' e σ:=⟨h.len,λi d q=>by
 obtain⟨v,g,m⟩:=h.at' i d q
 exact⟨v,g,m.mono l⟩⟩
theorem E8.set(h:E8 K ρ H e σ)(r:Bf K ρ H d v)(i:Nat):E8 K ρ H (e.set i (some d)) (σ.set i (some v)):=by
 refine⟨by simp[h.len],λj m q=>?_⟩
 by_cases g:i=j
 ·subst g
  have l:i < e.length:=by
   have:=(AH.mp q).1;simpa using this
  rw[CS l]at q;cases q;exact⟨v,by rw[CS (by rw[<-h.len];exact l)],r⟩
 ·rw[BI g]at q ⊢
  exact h.at' j m q
end
abbrev EW:=AR->St->Hp->Prop
abbrev EH:=AR->Hp->Prop
abbrev noE:EW:=λ_ _ _=>False
abbrev noH:EH:=λ_ _=>False
def Br{m:Type}(K:AE)(E:EH)(ρ:List AR)(H:Hp)(r:Res m)(k:m->Sto->Prop):Prop:=match r with
 | .ok a S=>k a S
 | .err c S=>∀g l,Le K ρ H g l->Bz K g S l->E c l
 | .bad=>False
section
variable{K:AE}{E:EH}{ρ ρ1:List AR}{H H1:Hp}
theorem Br.seq(h:Br K E ρ H (r.bind F) k)(f:∀a S,Br K E ρ H (F a S) k->k' a S):Br K E ρ H r k':=by
 cases r with
 | ok a S=>exact f a S h
 | err c S=>exact h
 | bad=>exact h
theorem Br.later(h:Br K E ρ H r k)(l:Le K ρ H ρ1 H1):Br K E ρ1 H1 r k:=by
 cases r with
 | ok a S=>exact h
 | err c S=>exact λg m o=>h g m (l.trans o)
 | bad=>exact h
theorem Br.imp(h:Br K E ρ H r k)(f:∀a S,k a S->k' a S):Br K E ρ H r k':=by
 cases r with
 | ok a S=>exact f a S h
 | err c S=>exact h
 | bad=>exact h
theorem Br.go(h:Br K E ρ H r k)(l:Le K ρ H ρ1 H1)(f:∀a S,k a S->k' a S):Br K E ρ1 H1 r k':=(h.later l).imp f
end
def okR{g:Type}:Res g->Res g
 | .ok a S=>.ok a S
 | _=>.bad
theorem Br.okR{g:Type}{K:AE}{E:EH}{ρ:List AR}{H:Hp}{r:Res g}{k:g->Sto->Prop}(h:Br K E ρ H (L2.okR r) k):∃a S,r=.ok a S/\k a S:=by
 cases r with
 | ok a S=>exact⟨a,S,rfl,h⟩
 | err c S=>exact h.elim
 | bad=>exact h.elim
section
variable(K:AE)(E:EW)
def gE(m:ME):TE:=λs H Q=>∃l e S,E8 K l H e s/\Bz K l S H/\Br K (λc=>E c s) l H (m e S) λd A=>∀g o x,Le K l H g o->Bz K g A o->Bf K g o d x->Q x o
def gT(m:MT):TT:=λs H Q=>∃l e S,E8 K l H e s/\Bz K l S H/\Br K (λc=>E c s) l H (m e S) λb A=>∀g o,Le K l H g o->Bz K g A o->Q b o
def gA(m:ML):TA:=λs H Q=>∃l e S,E8 K l H e s/\Bz K l S H/\Br K (λc=>E c s) l H (m e S) λB C=>∀g o A,Le K l H g o->Bz K g C o->Ao K g o B A->Q A o
def gL(m:ML):TE:=λs H Q=>∃o e S,E8 K o H e s/\Bz K o S H/\Br K (λc=>E c s) o H (m e S) λB C=>∀g l p A,Le K o H g l->Bz K g C l->Ao K g l B A->l p=some (.lst A)->(∀n:Nat,g[n]?≠some p)->H p=none->Q (.ref p) l
def gQ(m:ML):TE:=λA H Q=>∃o e S,E8 K o H e A/\Bz K o S H/\Br K (λc=>E c A) o H (m e S) λB C=>∀g l p s,Le K o H g l->Bz K g C l->Ao K g l B s->(SqL K l p s∨SqT K l p s)->Q (.ref p) l
def RU(K:AE)(E:EW)(ρ:List AR)(H:Hp)(s:Sto)(D:cW):Fl->Prop
 | .ex c o=>∀g l m,Le K ρ H g l->Bz K g s l->E8 K g l o m->E c m l
 | .nx o=>∀g l m,Le K ρ H g l->Bz K g s l->E8 K g l o m->D.nx m l
 | .bk o=>∀g l m,Le K ρ H g l->Bz K g s l->E8 K g l o m->D.bk m l
 | .ct o=>∀g l m,Le K ρ H g l->Bz K g s l->E8 K g l o m->D.ct m l
 | .rt d=>∀g l x,Le K ρ H g l->Bz K g s l->Bf K g l d x->D.rt x l
def gS(m:MS):TS:=λD l H=>∃g e S,E8 K g H e l/\Bz K g S H/\Br K noH g H (m e S) λo s=>RU K E g H s D o
def gG(m:MG):TG:=λv A H Q=>∃l e S d,Bf K l H d v/\E8 K l H e A/\Bz K l S H/\Br K noH l H (m d e S) λB C=>∀g s o,Le K l H g s->Bz K g C s->E8 K g s B o->Q o s
def Js(m:List AR)(A:Hp)(J:It)(v:On):Prop:=∀o H S s (i:Nat),Le K m A o H->Bz K o S H->v S=some s ->
 (s[i]?=none->J.stop i H)/\∀d,s[i]?=some d->J.go i H/\∀x l,J.yld i H x l->∃g,Le K o H g l/\Bz K g S l/\Bf K g l d x
def gI(m:MI):TI:=λs H R=>∃l e S,E8 K l H e s/\Bz K l S H/\Br K (λc=>E c s) l H (m e S) λv A=>∀g o J,Le K l H g o->Bz K g A o->Js K g o J v->R J o
end
abbrev GE(X:Cx)(E:EW)(e:Expr)(m:ME):Prop:=PE X e (gE X.K E m)
abbrev GT(X:Cx)(E:EW)(e:Expr)(m:MT):Prop:=PT X e (gT X.K E m)
abbrev GA(X:Cx)(E:EW)(es:List Expr)(m:ML):Prop:=PA X es (gA X.K E m)
abbrev GL(X:Cx)(E:EW)(e:Expr)(m:ML):Prop:=PE X e (gL X.K E m)
abbrev GQ(X:Cx)(E:EW)(e:Expr)(m:ML):Prop:=PE X e (gQ X.K E m)
abbrev GS(X:Cx)(E:EW)(s:Bw)(m:MS):Prop:=PS X s (gS X.K E m)
abbrev GSs(X:Cx)(E:EW)(s:List Bw)(m:MS):Prop:=PSs X s (gS X.K E m)
abbrev GG(X:Cx)(t:Expr)(m:MG):Prop:=PG X t (gG X.K m)
abbrev GI(X:Cx)(E:EW)(g t:Expr)(m:MI):Prop:=PI X g t (gI X.K E m)
theorem PE.imp(h:PE X e t)(i:∀g H Q,t' g H Q->t g H Q):PE X e t':=λl s g H Q I q=>h l s g H Q I (i g H Q q)
theorem PT.imp(h:PT X e t)(i:∀g H Q,t' g H Q->t g H Q):PT X e t':=λl s g H Q I q=>h l s g H Q I (i g H Q q)
theorem PW.imp(h:PW X e t)(i:∀g H Q,t' g H Q->t g H Q):PW X e t':=λl m s g H Q I q=>h l m s g H Q I (i g H Q q)
theorem PA.imp(h:PA X e t)(i:∀g H Q,t' g H Q->t g H Q):PA X e t':=λl m s g H Q I q=>h l m s g H Q I (i g H Q q)
theorem PS.imp(h:PS X e t)(i:∀D g H,t' D g H->t D g H):PS X e t':=λl s g H D I q=>h l s g H D I (i D g H q)
theorem PSs.imp(h:PSs X e t)(i:∀D g H,t' D g H->t D g H):PSs X e t':=λl s g H D I q=>h l s g H D I (i D g H q)
theorem PG.imp(h:PG X e t)(i:∀v g H Q,t' v g H Q->t v g H Q):PG X e t':=λl s g H v u Q I r q=>h l s g H v u Q I r (i v g H Q q)
theorem PI.imp(h:PI X l e t)(i:∀g H R,t' g H R->t g H R):PI X l e t':=λm s g H R I q=>h m s g H R I (i g H R q)
theorem OpR.imp(h:OpR X f r)(i:∀x y H Q,r' x y H Q->r x y H Q):OpR X f r':=λg s l H x y v u Q I m o q=>h g s l H x y v u Q I m o (i x y H Q q)
theorem IxR.imp(h:IxR X r)(i:∀x y H Q,r' x y H Q->r x y H Q):IxR X r':=λg sl l s m H x y v u Q I o A q=>h g sl l s m H x y v u Q I o A (i x y H Q q)
def AF(i:Nat):ME:=λe S=>match e[i]? with
 | some (some d)=>.ok d S
 | _=>.bad
def mC(d:D):ME:=λ_ S=>.ok d S
section
variable{X:Cx}{E:EW}{e a b:Expr}{pos:Pos}{ma mb:ME}
theorem pJ(h:PE X e (nB i)):GE X E e (AF i):=h.imp<|by
 rintro G H Q ⟨m,l,S,o,s,g⟩
 unfold AF at g;split at g
 ·rename_i I A
  obtain⟨v,B,C⟩:=o.at' i _ A;exact⟨v,B,g m H v .refl s C⟩
 ·exact g.elim
theorem gv(i:Nat)(g:X.N[i]?=some x:=by rfl)(l:Vis X.env.scope x:=by first | exact Ia rfl | exact Hs (Ia rfl) | exact Hs (Hs rfl))(m:(x==("__debug__" : Str))=false:=by decide) (o:(x==("__classdict__" : Str))=false:=by decide):GE X E (.Name x pos) (AF i):=pJ (pv i g l m o)
theorem bx(h:PE X e (tC v))(g:∀ρ H,Bf X.K ρ H d v):GE X E e (mC d):=h.imp<|by
 rintro s H Q ⟨ρ,l,S,A,m,o⟩
 exact o ρ H v .refl m (g _ _)
theorem ge_int{i j pos}:GE X E (.Constant (.int i) j pos) (mC (.int i)):=bx fC λ_ _=>.int i
theorem Ku{b j pos}:GE X E (.Constant (.bool b) j pos) (mC (.bl b)):=bx sL λ_ _=>.bl b
theorem FS{j pos}:GE X E (.Constant .none j pos) (mC .non):=bx ny λ_ _=>.non
theorem BY{x j pos}:GE X E (.Constant (.str x) j pos) (mC (.str x)):=bx nu λ_ _=>.str x
theorem Iu(g:Gl X x)(l:X.mg x=some (.int i tk))(m:(x==("__debug__" : Str))=false:=by decide):GE X E (.Name x pos) (mC (.int i)):=
 bx (Ul (v:=.int i) g l ⟨tk,rfl⟩ m) λ_ _=>.int i
def m2(f:D->D->Sto->Res D)(ma mb:ME):ME:=λe S=>(ma e S).bind λx g=>(mb e g).bind λy l=>okR (f x y l)
def rD(K:AE)(f:D->D->Sto->Res D):R2:=λu v H Q=>∃l S x y d o,Bz K l S H/\Bf K l H x u/\Bf K l H y v/\f x y S=.ok d o /\
 ∀g m z,Le K l H g m->Bz K g o m->Bf K g m d z->Q z m
theorem MR{K:AE}{f:D->D->Sto->Res D}{B:St}{H:Hp}{Q:VK}(h:gE K E (m2 f ma mb) B H Q):tOp (rD K f) (gE K E ma) (gE K E mb) B H Q:=by
 obtain⟨I,l,S,C,J,g⟩:=h;refine⟨I,l,S,C,J,g.seq λx L g m H1 u o N O=>⟨m,l,L,C.mono o,N,(g.later o).seq λy P g s H2 v G R T=>?_⟩⟩;obtain⟨d,U,e,k⟩:=g.okR;exact⟨s,P,x,y,d,U,R,O.mono G,T,e,λA Y z Z s' r'=>k A Y z (o.trans (G.trans Z)) s' r'⟩
theorem BK(ho:OpR X (Cd op) (rD X.K f))(g:GE X E a ma)(hb:GE X E b mb):GE X E (.BinOp a op b pos) (m2 f ma mb):=(sJ ho g hb).imp λ_ _ _ h=>MR h
theorem RT(ho:OpR X (BH op) (rD X.K f))(g:GE X E a ma)(hb:GE X E b mb)(l:CC op b=false):GE X E (.Compare a [op] [b] pos) (m2 f ma mb):=(jw ho g hb l).imp λ_ _ _ h=>MR h
theorem l8(ho:IxR X (rD X.K f))(g:GE X E a ma)(hb:GE X E b mb)(l:Vc b:=by intro _ _;rfl):GE X E (.Subscript a b pos) (m2 f ma mb):=(sK ho g hb l).imp λ_ _ _ h=>MR h
def mB(m:ME):MT:=λe S=>(m e S).bind λd g=>match d with
 | .bl b=>.ok b g
 | _=>.bad
noncomputable def Z7(d:D)(S:Sto):Option Bool:=match d with
 | .non=>some false
 | .bl b=>some b
 | .int i=>some (i != 0)
 | .tup g=>some (!g.isEmpty)
 | .fro g=>some (!g.isEmpty)
 | .ref n=>match S[n]? with
  | some (.lst g)=>some (!g.isEmpty)
  | some (.dK l)=>some (!l.isEmpty)
  | _=>none
 | _=>none
def Nc(m:ME):MT:=λe S=>(m e S).bind λd g=>match Z7 d g with
 | some b=>.ok b g
 | none=>.bad
theorem Ao.empty{K}{ρ}{H}{ds}{vs}(h:Ao K ρ H ds vs):ds.isEmpty=vs.isEmpty:=by cases h <;> rfl
theorem KVR.empty{g:Type}{K:AE}{ρ:List AR}{H:Hp}{x:List (g×D)}{y:List (g×V)}(h:KVR K ρ H x y):x.isEmpty=y.isEmpty:=by cases h <;> rfl
theorem jA{K:AE}{ρ:List AR}{H:Hp}{S:Sto}{d:D}{x:V}{b:Bool}(A:Bz K ρ S H)(r:Bf K ρ H d x)(h:Z7 d S=some b):qA K x H b:=by
 cases r with
 | non=>cases h;rfl
 | bl c=>cases h;rfl
 | int i=>cases h;rfl
 | str x=>cases h
 | tup g l=>cases h;rw[l.empty];exact .inr (.inl ⟨_,.inl (.inl g),rfl⟩)
 | fro g l=>cases h;rw[l.empty];exact .inl ⟨_,g.sq,rfl⟩
 | exc _ _=>cases h
 | @ref n a B=>
  obtain⟨o,G,s⟩:=A.there B;unfold Z7 at h;simp only[G]at h
  cases o with
  | lst L=>cases h;obtain⟨I,e,m⟩:=s;rw[m.empty];exact .inl ⟨_,.inl (.inl e),rfl⟩
  | dK J=>cases h;obtain⟨I,e,m⟩:=s;rw[KVR.empty m];exact .inr (.inr ⟨_,e,rfl⟩)
  | dT J=>cases h
  | ins C fs=>cases h
  | fK _=>cases h
  | fT _=>cases h
  | mem _=>cases h
theorem o0(h:GE X E e ma)(s:∀g,Xq e X.env g=(do let v <-g;XZ e.pos;MH [v] (mH v)):=by intro _;rfl):GT X E e (mB ma):=(nU h s).imp<|by
 rintro N H Q ⟨A,l,S,B,C,m⟩
 refine⟨A,l,S,B,C,m.seq λd O m o G x I J L=>?_⟩
 cases d <;> first | exact m.elim | skip
 cases L;exact⟨_,rfl,m o G I J⟩
theorem D1(h:GE X E e ma)(A:∀g,Xq e X.env g=(do let v <-g;XZ e.pos;MH [v] (mH v)):=by intro _;rfl):GT X E e (Nc ma):=(ee h A).imp<|by
 rintro O H Q ⟨B,l,S,C,G,m⟩
 refine⟨B,l,S,C,G,m.seq λd I m o J x L s N=>?_⟩
 cases hb:Z7 d I with
 | none=>rw[hb]at m;exact m.elim
 | some c=>
  rw[hb]at m;exact⟨c,jA s N hb,m o J L s⟩
theorem B8{op}{f}(ho:OpR X (BH op) (rD X.K f))(o:GE X E a ma)(hb:GE X E b mb)(g:CC op b=false):GT X E (.Compare a [op] [b] pos) (mB (m2 f ma mb)):=(Zu ho o hb g).imp<|by
 rintro L H Q ⟨s,l,S,A,B,g⟩
 refine MR ⟨s,l,S,A,B,g.seq λd N g m C x G I J=>?_⟩
 cases d <;> first | exact g.elim | skip
 cases J;exact⟨_,rfl,g m C G I⟩
def OX(m:MT):MT:=λe S=>(m e S).bind λb g=>.ok (!b) g
def bd(ma mb:MT):MT:=λe S=>(ma e S).bind λb g=>if b=true then mb e g else .ok false g
def mOr(ma mb:MT):MT:=λe S=>(ma e S).bind λb g=>if b=true then .ok true g else mb e g
variable{ta tb:MT}{rest:List Expr}
theorem G6(h:GT X E a ta):GT X E (.UnaryOp .Not a pos) (OX ta):=(nV h).imp<|by
 rintro I H Q ⟨o,l,S,s,A,g⟩
 exact⟨o,l,S,s,A,g.seq λd J g m B C G=>g m B C G⟩
theorem jD{K}{A}{H}{Q}(h:gT K E (bd ta tb) A H Q):rY (gT K E ta) (gT K E tb) A H Q:=by
 obtain⟨G,l,S,B,I,g⟩:=h;refine⟨G,l,S,B,I,g.seq λc J g m L o C=>?_⟩
 cases c with
 | true=>rw[qX rfl]at g ⊢;exact⟨m,l,J,B.mono o,C,g.go o λ_ _ k s N O P=>k s N (o.trans O) P⟩
 | false=>rw[qY Af]at g ⊢;exact g m L o C
theorem nC{K}{A}{H}{Q}(h:gT K E (mOr ta tb) A H Q):tOr (gT K E ta) (gT K E tb) A H Q:=by
 obtain⟨G,l,S,B,I,g⟩:=h;refine⟨G,l,S,B,I,g.seq λc J g m L o C=>?_⟩
 cases c with
 | false=>rw[qY Af]at g ⊢;exact⟨m,l,J,B.mono o,C,g.go o λ_ _ k s N O P=>k s N (o.trans O) P⟩
 | true=>rw[qX rfl]at g ⊢;exact g m L o C
abbrev GW(X:Cx)(E:EW)(e:Expr)(m:MT):Prop:=PW X e (gT X.K E m)
theorem QF(g:GT X E a ta):GW X E (.BoolOp .And [a] pos) ta:=jW g
theorem Ks(g:GT X E a ta):GW X E (.BoolOp .Or [a] pos) ta:=nR g
theorem U4(g:GT X E a ta)(hb:GW X E (.BoolOp .And (b :: rest) pos) tb):GW X E (.BoolOp .And (a :: b :: rest) pos) (bd ta tb):=(nS g hb).imp λ_ _ _ h=>jD h
theorem J8(g:GT X E a ta)(hb:GW X E (.BoolOp .Or (b :: rest) pos) tb):GW X E (.BoolOp .Or (a :: b :: rest) pos) (mOr ta tb):=(sE g hb).imp λ_ _ _ h=>nC h
theorem Py(h:GW X E e t):GT X E e t:=PW.pt h
def Th(ma mb:ME):ME:=λe S=>(ma e S).bind λd g=>match d with
 | .bl true=>mb e g
 | .bl false=>.ok (.bl false) g
 | _=>.bad
theorem gP{op}(h:GE X E a ma):GE X E (.BoolOp op [a] pos) ma:=nv h
theorem gV(C:GE X E a ma)(hb:GE X E (.BoolOp .And (b :: rest) pos) mb):GE X E (.BoolOp .And (a :: b :: rest) pos) (Th ma mb):=(oB C hb).imp<|by
 rintro U H Q ⟨G,l,S,A,I,g⟩
 refine⟨G,l,S,A,I,g.seq λc J g m L x o B N=>?_⟩
 cases c with
 | bl c=>
  cases N;refine⟨c,rfl,?_⟩
  cases c with
  | true=>rw[qX rfl];exact⟨m,l,J,A.mono o,B,g.go o λ_ _ k s O z P R T=>k s O z (o.trans P) R T⟩
  | false=>rw[qY Af];exact g m L _ o B (.bl false)
 | _=>exact g.elim
def fV(t:MT)(ma mb:ME):ME:=λe S=>(t e S).bind λb g=>if b=true then ma e g else mb e g
theorem Nm(N:GT X E c ta)(O:GE X E a ma)(hb:GE X E b mb):GE X E (.IfExp c a b pos) (fV ta ma mb):=(fD N O hb).imp<|by
 rintro T H Q ⟨P,l,S,A,R,m⟩
 refine⟨P,l,S,A,R,m.seq λc J m s U o L=>?_⟩
 cases c with
 | true=>rw[qX rfl]at m ⊢;exact⟨s,l,J,A.mono o,L,m.go o λ_ _ k g B z C G I=>k g B z (o.trans C) G I⟩
 | false=>rw[qY Af]at m ⊢;exact⟨s,l,J,A.mono o,L,m.go o λ_ _ k g B z C G I=>k g B z (o.trans C) G I⟩
def m3(f g:D->D->Sto->Res D)(ma mb m:ME):ME:=λe S=>(ma e S).bind λx o=>(mb e o).bind λy s=>(okR (f x y s)).bind λz l=>match z with
 | .bl true=>(m e l).bind λw A=>okR (g y w A)
 | .bl false=>.ok (.bl false) l
 | _=>.bad
def Ay:ML:=λ_ S=>.ok [] S
def AL(m:ME)(r:ML):ML:=λe S=>(m e S).bind λd g=>(r e g).bind λl o=>.ok (d :: l) o
variable{es:List Expr}{ml:ML}
theorem AV:GA X E [] Ay:=E5.imp<|by
 rintro s H Q ⟨g,l,S,A,m,o⟩
 exact o g H [] .refl m .nil
theorem AD(G:GE X E e ma)(I:GA X E es ml)(m:AO (e :: es) X.env=(false,BQ e X.env) :: AO es X.env:=by rfl):GA X E (e :: es) (AL ma ml):=(De G I m).imp<|by
 rintro Y H Q ⟨J,l,S,B,m,g⟩
 exact⟨J,l,S,B,m,g.seq λd L g o Z x s N O=>⟨o,l,L,B.mono s,N,(g.later s).seq λvw S2 g A P R C T U=>g A P (x :: R) (s.trans C) T (.cons (O.mono C) U)⟩⟩
def Gb(m:ML):ME:=λe S=>(m e S).bind λg l=>if g.length<=sizeLine then .ok (.tup g) l else .bad
theorem Fn{K}{ρ}{H}{S}{p}{ho}(g:Bz K ρ S H)(l:H p=none):Bz K ρ S (upd H p ho)/\Le K ρ H ρ (upd H p ho):=by
 have le:Le K ρ H ρ (upd H p ho):=Le.fresh l;refine⟨⟨g.len,g.nd,λn o a s m=>(g.ob n o a s m).mono le (BC λz=>?_)⟩,le⟩;subst z;exact g.notIn l m
theorem En{x1}(h:GA X E es ml):GE X E (.Tuple es x1 pos) (Gb ml):=(nt h).imp<|by
 rintro O H Q ⟨A,l,S,B,C,g⟩
 refine⟨A,l,S,B,C,g.seq λP R g m T U G I o=>?_⟩;split at g
 ·rename_i J
  refine⟨by rw[<-o.length];exact J,λp L=>?_⟩;obtain⟨N,s⟩:=Fn I L;exact g m _ _ (G.trans s) N (.tup BV (o.mono s))
 ·exact g.elim
def Dr(m:ML):ML:=λe S=>(m e S).bind λg l=>if g.length<=sizeLine then .ok g l else .bad
theorem E6(h:GA X E es ml):GL X E (.List es pos) (Dr ml):=(nz h).imp<|by
 rintro P H Q ⟨I,l,S,J,A,g⟩
 refine⟨I,l,S,J,A,g.seq λR T g m U L B o C=>?_⟩;split at g
 ·rename_i N
  refine⟨by rw[<-C.length];exact N,λp s=>?_⟩;obtain⟨O,G⟩:=Fn o s;exact g m _ p L (B.trans G) O (C.mono G) BV (λn q=>o.notIn s q) (B.back A o s)
 ·exact g.elim
def Dz(m:ML):ME:=λe S=>(m e S).bind λl g=>.ok (.ref g.length) (g++[.lst l])
theorem Cm(h:GL X E e ml):GE X E e (Dz ml):=PE.imp h<|by
 rintro Y H Q ⟨C,l,S,G,I,s⟩
 refine⟨C,l,S,G,I,s.seq λJ Z s g H1 p L m N O P R T=>?_⟩
 have B:∀(n:Nat) a,g[n]?=some a->(g++[p])[n]?=some a:=λn a h=>by rw[AM (AH.mp h).1];exact h
 obtain⟨U,A⟩:=N.adopt (o:=.lst J) R ⟨L,P,O.more B⟩;refine s _ _ _ ⟨λn a h=>B n a (m.pre n a h),m.tup,m.frz,λa o e h=>⟨(m.oth a o e h).1,λn q=>?_⟩⟩ U (.ref A)
 rcases EF q with⟨q,_⟩ | ⟨_,q⟩
 ·exact(m.oth a o e h).2 n q
 ·exact Bl e T q
noncomputable def HN(d:D)(S:Sto):Option (List D):=match d with
 | .tup g=>some g
 | .fro g=>some g
 | .ref n=>match S[n]? with
  | some (.lst g)=>some g
  | _=>none
 | _=>none
def Yr(m:ME):ML:=λe S=>(m e S).bind λd g=>match HN d g with
 | some l=>.ok l g
 | none=>.bad
theorem NI{K}{ρ}{H}{S}{d}{x}{ds}(m:Bz K ρ S H)(r:Bf K ρ H d x)(h:HN d S=some ds):∃p xs,x=.ref p/\Ao K ρ H ds xs/\(SqL K H p xs∨SqT K H p xs):=by
 cases r with
 | tup g l=>cases h;exact⟨_,_,rfl,l,.inr (.inl (.inl g))⟩
 | fro g l=>cases h;exact⟨_,_,rfl,l,.inl g.sq⟩
 | @ref n a s=>
  obtain⟨o,A,B⟩:=m.there s;unfold HN at h;simp only[A]at h
  cases o with
  | lst es=>cases h;obtain⟨G,e,C⟩:=B;exact⟨_,_,rfl,C,.inl (.inl (.inl e))⟩
  | _=>cases h
 | _=>cases h
theorem gF(h:GE X E e ma):GQ X E e (Yr ma):=PE.imp h<|by
 rintro P H Q ⟨A,l,S,B,C,g⟩
 refine⟨A,l,S,B,C,g.seq λx G g m I v J s L=>?_⟩
 cases o:HN x G with
 | none=>rw[o]at g;exact g.elim
 | some R=>
  rw[o]at g;obtain⟨p,N,rfl,O,sq⟩:=NI s L o;exact g m I p N J s O sq
end
noncomputable def Res.lift{g:Type}(r:Res g)(e:Lo)(f:g->Sto->Res Fl):Res Fl:=match r with
 | .ok a S=>f a S
 | .err c S=>.ok (.ex c e) S
 | .bad=>.bad
theorem Br.lift{o:Type}{K:AE}{E:EW}{ρ g:List AR}{H m:Hp}{s:St}{e:Lo}{D:cW}{r:Res o}{F:o->Sto->Res Fl}{k':o->Sto->Prop}(h:Br K noH g m (r.lift e F) λA B=>RU K E ρ H B D A)(I:E8 K g m e s)(l:Le K ρ H g m)
  (f:∀a S,(Br K noH g m (F a S) λA B=>RU K E ρ H B D A)->k' a S):Br K (λc=>E c s) g m r k':=by
 cases r with
 | ok a S=>exact f a S h
 | err c S=>exact λC J G L=>h C J s (l.trans G) L (I.mono G)
 | bad=>exact h
def sNx:MS:=λe S=>.ok (.nx e) S
def Pn:MS:=λ_ _=>.bad
def Aq(a b:MS):MS:=λe S=>(a e S).bind λf g=>match f with
 | .nx l=>b l g
 | f=>.ok f g
def ER(m:ME):MS:=λe S=>(m e S).lift e λ_ g=>.ok (.nx e) g
def By(m:ME):MS:=λe S=>(m e S).lift e λd g=>.ok (.rt d) g
def sIf(t:MT)(a b:MS):MS:=λe S=>(t e S).lift e λc g=>if c=true then a e g else b e g
def bG(m:ME)(g:MG):MS:=λe S=>(m e S).lift e λd l=>(g d e l).bind λo s=>.ok (.nx o) s
def tgN(i:Nat):MG:=λd e S=>.ok (e.set i (some d)) S
def Bp(i:Nat)(m:ME):MS:=bG m (tgN i)
section
variable{X:Cx}{E:EW}{st:Bw}{rest:List Bw}{e:Expr}{pos:Pos}{a b:MS}{t:MT}
theorem RU.later{K}{ρ A}{H B}{S}{D}{f}(l:Le K ρ H A B)(h:RU K E ρ H S D f):RU K E A B S D f:=by
 cases f with
 | nx e=>exact λg o m s=>h g o m (l.trans s)
 | bk e=>exact λg o m s=>h g o m (l.trans s)
 | ct e=>exact λg o m s=>h g o m (l.trans s)
 | ex c e=>exact λg o m s=>h g o m (l.trans s)
 | rt d=>exact λg o x s=>h g o x (l.trans s)
theorem BB:GSs X E [] sNx:=ja.imp<|by
 rintro D g H ⟨m,l,S,o,s,A⟩
 exact A m H g .refl s o
theorem AI(A:GS X E st a)(B:GSs X E rest b):GSs X E (st :: rest) (Aq a b):=(ei A B).imp<|by
 rintro D Q H ⟨C,l,S,G,I,m⟩
 refine⟨C,l,S,G,I,m.seq λg J m=>?_⟩
 cases g with
 | nx L=>exact λo R N s O P=>⟨o,L,J,P,O,m.go s λ_ _ k=>k.later s⟩
 | rt d=>exact m
 | bk d=>exact m
 | ct d=>exact m
 | ex c d=>exact m
theorem AQ(g:GS X E st a):GSs X E [st] a:=jZ g
theorem Em:GS X E st Pn:=(ek).imp λD m H ⟨o,l,S,s,A,g⟩=>g.elim
theorem C7(C:GE X E e m)(g:Fc e none pos.line X.env=pure false:=by rfl):GS X E (.Expr e pos) (ER m):=(jc C g).imp<|by
 rintro D G H ⟨I,l,S,o,g,s⟩
 exact⟨I,l,S,o,g,s.lift o .refl λd N s A J x B L O=>s A J G B L (o.mono B)⟩
theorem A3(A:GE X E e m):GS X E (.Return (some e) pos) (By m):=(nX A).imp<|by
 rintro D N H ⟨B,l,S,s,C,g⟩
 exact⟨B,l,S,s,C,g.lift s .refl λd O g o G x I J L=>g o G x I J L⟩
theorem CA{c}{A B}(I:GT X E c t)(J:GSs X E A a)(hb:GSs X E B b):GS X E (.If c A B pos) (sIf t a b):=(sG I J hb).imp<|by
 rintro D O H ⟨L,l,S,s,N,g⟩
 refine⟨L,l,S,s,N,g.lift s .refl λc C g o P m G=>?_⟩
 cases c with
 | true=>rw[qX rfl]at g ⊢;exact⟨o,l,C,s.mono m,G,g.go m λ_ _ k=>k.later m⟩
 | false=>rw[qY Af]at g ⊢;exact⟨o,l,C,s.mono m,G,g.go m λ_ _ k=>k.later m⟩
theorem kT(h:PG X g (aH i)):GG X g (tgN i):=h.imp<|by
 rintro v C H Q ⟨m,l,S,d,o,s,A,B⟩
 exact B m H _ .refl A (s.set o i)
theorem pD{o:Expr}{g:MG}(L:GE X E e m)(N:GG X o g)(A:swapsWithSole [o] e pos.line X.env=pure false:=by rfl)(hw:swappedStores [o] e X.env=pure none:=by rfl)
  (O:(Ed [o] X.env).map (·.2)=[mM o X.env]:=by rfl):GS X E (.Assign [o] e pos) (bG m g):=(nh L N A hw O).imp<|by
 rintro D σ H ⟨P,l,S,B,A,s⟩
 exact⟨P,l,S,B,A,s.lift B .refl λd Q s C H1 x G R T=>⟨C,l,Q,d,T,B.mono G,R,(s.later G).seq λe1 S2 s I U J Y Z r2=>s I U J (G.trans Y) Z r2⟩⟩
theorem pB{i}{x}{g}(G:X.N.Nodup)(hi:X.N[i]?=some x)(I:Loc X.env.scope x)(J:GE X E e m)(o:Fc e (some (.Name x g)) pos.line X.env=pure false:=by rfl)
  (L:X.fn x=true∨X.env.scope.names.lookup x=some .local:=by first | exact .inl rfl | exact .inr rfl | assumption):GS X E (.Assign [.Name x g] e pos) (Bp i m):=(nW G hi I J o L).imp<|by
 rintro D T H ⟨O,l,S,s,o,A⟩
 exact⟨O,l,S,s,o,A.lift s .refl λd U A B P x C Q R=>A B P _ C Q ((s.mono C).set R i)⟩
def Od(v:On)(g:MG)(b:MS):Nat->Nat->Lo->Sto->Res Fl
 | k,i,e,S=>match v S with
  | none=>.bad
  | some o=>match o[i]? with
   | none=>.ok (.nx e) S
   | some d=>match k with
    | 0=>.bad
    | k+1=>(g d e S).bind λs A=>(b s A).bind λf m=>match f with
     | .nx l=>Od v g b k (i+1) l m
     | .ct l=>Od v g b k (i+1) l m
     | .bk l=>.ok (.nx l) m
     | .rt d=>.ok (.rt d) m
     | .ex c l=>.ok (.ex c l) m
def EQ(v:On)(S:Sto):Nat:=match v S with
 | none=>0
 | some g=>g.length
def ED(m:MI)(g:MG)(b:MS):MS:=λe S=>(m e S).lift e λv l=>Od v g b (EQ v l) 0 e l
theorem CM{tg iter}{body}{mi}{g}(hp:Os (AU X.prog X.w) X.A X.env X.xe)(hc:X.calm=true)(hi:GI X E tg iter mi)(hg:GG X tg g)(hb:GSs X E body b)
  (hs:∀x,FA iter X.env x=pure x:=by intro _;rfl):GS X E (.For tg iter body [] pos) (ED mi g b):=(nY hp hc hi hg hb hs).imp<|by
 rintro D σ H ⟨ρ,l,S,hl,hs,hm⟩
 refine⟨ρ,l,S,hl,hs,hm.lift hl .refl λv S1 hm N H1 J Z s1 vo=>?_⟩;refine⟨λi n O P=>∃o Q G,Le X.K N H1 o P/\E8 X.K o P Q O/\Bz X.K o G P/\Br X.K noH o P (Od v g b n i Q G) λfl S'=>RU X.K E ρ H S' D fl,⟨EQ v S1,N,l,S1,.refl,hl.mono Z,s1,hm.later Z⟩,?_⟩;rintro i n O P ⟨o,Q,G,R,r2,s2,m⟩;unfold Od at m
 cases hv:v G with
 | none=>rw[hv]at m;exact m.elim
 | some ds=>
  rw[hv]at m;dsimp only at m;obtain⟨v1,v2⟩:=vo o P G ds i R s2 hv
  cases hd:ds[i]? with
  | none=>
   rw[hd]at m;exact .inl ⟨v1 hd,m o P O (Z.trans R) s2 r2⟩
  | some d=>
   rw[hd]at m;obtain⟨go,yl⟩:=v2 d hd
   cases n with
   | zero=>exact m.elim
   | succ n=>
    refine .inr ⟨go,λσ' T=>∃o Q G,Le X.K N H1 o T/\E8 X.K o T Q σ'/\Bz X.K o G T/\Br X.K noH o T (Od v g b n (i+1) Q G) λfl S'=>RU X.K E ρ H S' D fl,λσ' T q=>⟨n,Bx n,q⟩,λx T y=>?_⟩;obtain⟨ρ3,U,s3,rd⟩:=yl x T y;refine⟨ρ3,Q,G,d,rd,r2.mono U,s3,(m.later U).seq λe3 S3 m ρ4 H4 σ4 l4 s4 r4=>?_⟩;refine⟨ρ4,e3,S3,r4,s4,(m.later l4).seq λf4 S4 m=>?_⟩
    cases f4 with
    | nx e5=>exact λs Y B C I L=>⟨s,e5,S4,R.trans (U.trans (l4.trans C)),L,I,m.later C⟩
    | ct e5=>exact λs Y B C I L=>⟨s,e5,S4,R.trans (U.trans (l4.trans C)),L,I,m.later C⟩
    | bk e5=>exact λs Y B C I L=>m s Y B (Z.trans (R.trans (U.trans (l4.trans C)))) I L
    | ex c e5=>exact λs Y B C I L=>m s Y B (Z.trans (R.trans (U.trans (l4.trans C)))) I L
    | rt d5=>exact λs Y x5 C I L=>m s Y x5 (Z.trans (R.trans (U.trans (l4.trans C)))) I L
def Md(c:MT)(b:MS):Nat->MS
 | 0=>λ_ _=>.bad
 | n+1=>λe S=>(c e S).lift e λt m=>if t=true then(b e m).bind λf l=>match f with
   | .nx g=>Md c b n g l
   | .ct g=>Md c b n g l
   | .bk g=>.ok (.nx g) l
   | .rt d=>.ok (.rt d) l
   | .ex c g=>.ok (.ex c g) l
  else .ok (.nx e) m
theorem W3{c}{body}(N:Nat)(hp:Os (AU X.prog X.w) X.A X.env X.xe)(hc:GT X E c t)(hb:GSs X E body b):GS X E (.While c body [] pos) (Md t b N):=(ej hp hc hb).imp<|by
 rintro D σ H ⟨R,l,S,hl,hs,hm⟩
 refine⟨λn L T=>∃m J O,Le X.K R H m T/\E8 X.K m T J L/\Bz X.K m O T/\Br X.K noH m T (Md t b n J O) λfl S'=>RU X.K E R H S' D fl,⟨N,R,l,S,.refl,hl,hs,hm⟩,?_⟩;rintro n L T ⟨m,J,O,P,r2,s2,g⟩
 cases n with
 | zero=>exact g.elim
 | succ n=>
  refine⟨m,J,O,r2,s2,g.lift r2 P λtc S3 g U H3 C s3=>?_⟩
  cases tc with
  | false=>rw[qY Af]at g ⊢;exact g U H3 L (P.trans C) s3 (r2.mono C)
  | true=>
   rw[qX rfl]at g ⊢;refine⟨λY Z=>∃m J O,Le X.K R H m Z/\E8 X.K m Z J Y/\Bz X.K m O Z/\Br X.K noH m Z (Md t b n J O) λfl S'=>RU X.K E R H S' D fl,λY Z q=>⟨n,Bx n,q⟩,?_⟩;refine⟨U,J,S3,r2.mono C,s3,(g.later C).seq λf4 S4 g=>?_⟩
   cases f4 with
   | nx e5=>exact λo Q s B G I=>⟨o,e5,S4,P.trans (C.trans B),I,G,g.later B⟩
   | ct e5=>exact λo Q s B G I=>⟨o,e5,S4,P.trans (C.trans B),I,G,g.later B⟩
   | bk e5=>exact λo Q s B G I=>g o Q s (P.trans (C.trans B)) G I
   | ex c e5=>exact λo Q s B G I=>g o Q s (P.trans (C.trans B)) G I
   | rt d5=>exact λo Q x5 B G I=>g o Q x5 (P.trans (C.trans B)) G I
end
section
variable{X:Cx}{E:EW}{tg e:Expr}{m:ME}{K:AE}
noncomputable def Kc(d:D):On:=λS=>match d with
 | .ref n=>match S[n]? with
  | some (.lst g)=>some g
  | _=>none
 | .fro g=>some g
 | _=>none
def Lr(ds:List D):On:=λ_=>some ds
def tG(m:ME):MI:=λe S=>(m e S).bind λd g=>match Kc d g with
 | some _=>.ok (Kc d) g
 | none=>.bad
def lw(m:ME):MI:=λe S=>(m e S).bind λd g=>match d with
 | .tup l=>.ok (Lr l) g
 | _=>.bad
theorem NH(s:Bz K ρ S H)(r:Bf K ρ H d (.ref a))(g:Kc d S=some ds):∃xs,SqL K H a xs/\Ao K ρ H ds xs:=by
 cases r with
 | tup l A=>cases g
 | exc _ _=>cases g
 | fro l A=>cases g;exact⟨_,l.sq,A⟩
 | @ref n _ B=>
  obtain⟨o,C,G⟩:=s.there B;unfold Kc at g;simp only[C]at g
  cases o with
  | lst L=>
   cases g;obtain⟨I,e,J⟩:=G;exact⟨I,.inl (.inl e),J⟩
  | _=>cases g
theorem MQ(r:Bf K ρ H d (.ref a)):Js K ρ H (Itl K a) (Kc d):=by
 intro g N S O i l s C;obtain⟨o,sq,A⟩:=NH s (r.mono l) C;refine⟨λG=>⟨o,sq,by rw[<-A.length];exact Cw.mp G⟩,λd I=>?_⟩;obtain⟨x,B,J⟩:=A.get I;refine⟨⟨o,x,sq,B⟩,λy P ⟨e,L⟩=>?_⟩;subst e;have:=L o sq;rw[B]at this;cases this;exact⟨g,.refl,s,J⟩
theorem pH(h:GE X E e m):GI X E tg e (tG m):=(jj h).imp<|by
 rintro P H R ⟨C,l,S,G,I,g⟩
 refine⟨C,l,S,G,I,g.seq λd J g s L x N B A=>?_⟩
 cases o:Kc d J with
 | none=>rw[o]at g;exact g.elim
 | some Q=>
  rw[o]at g
  have:∃a,x=.ref a:=by
   cases A <;> first | exact⟨_,rfl⟩ | (cases o;done)
  obtain⟨a,rfl⟩:=this;obtain⟨O,sq,_⟩:=NH B A o;exact⟨a,rfl,⟨O,sq⟩,g s L _ N B (MQ A)⟩
theorem Qd(B:H a=some (.tup xs))(C:Ao K ρ H ds xs):Js K ρ H (Itt K a) (Lr ds):=by
 intro g G S P i l s I;cases I;have o:=C.mono l;have sq:SqT K G a xs:=.inl (.inl (l.tup _ _ B));refine⟨λJ=>⟨xs,sq,by rw[<-o.length];exact Cw.mp J⟩,λd L=>?_⟩;obtain⟨x,A,N⟩:=o.get L;refine⟨⟨xs,x,sq,A⟩,λy Q ⟨e,O⟩=>?_⟩;subst e;have:=O xs sq;rw[A]at this;cases this;exact⟨g,.refl,s,N⟩
theorem pF(h:GE X E e m):GI X E tg e (lw m):=(nj h).imp<|by
 rintro O H R ⟨A,l,S,B,C,g⟩
 refine⟨A,l,S,B,C,g.seq λd P g o G x I J L=>?_⟩
 cases d <;> first | exact g.elim | skip
 cases L with
 | tup s N=>exact⟨_,rfl,⟨_,.inl (.inl s)⟩,g o G _ I J (Qd s N)⟩
noncomputable def Lw(lo:Int)(n:Nat):List D:=(CV n).map λi:Nat=>D.int (lo+i)
theorem bI(lo:Int)(n i:Nat):(Lw lo n)[i]?=if i < n then some (.int (lo+i))else none:=by
 unfold Lw;rw[Ak]
 by_cases h:i < n
 ·rw[HJ h,qX h];rfl
 ·rw[qY h,Cw.mpr (by simpa using h)];rfl
theorem Qe(lo:Int)(n:Nat):Js K ρ H (Itr lo n) (Lr (Lw lo n)):=by
 intro g G S I i l s B;cases B;rw[bI];refine⟨λA=>?_,λd o=>?_⟩
 ·split at A
  ·cases A
  ·rename_i h;exact QV h
 ·split at o
  ·rename_i h
   cases o;refine⟨h,λy J ⟨e,C⟩=>?_⟩;subst e;subst C;exact⟨g,.refl,s,.int _⟩
  ·cases o
def iR1(g:ML):MI:=λe S=>(g e S).bind λl o=>match l with
 | [.int j]=>if -(2 ^ 62)<=j/\j < 2 ^ 62 then .ok (Lr (Lw 0 j.toNat)) o else .bad
 | _=>.bad
def iR2(g:ML):MI:=λe S=>(g e S).bind λl o=>match l with
 | [.int i,.int j]=>if -(2 ^ 62)<=i/\i < 2 ^ 62/\-(2 ^ 62)<=j/\j < 2 ^ 62 then .ok (Lr (Lw i (j - i).toNat)) o else .bad
 | _=>.bad
theorem E1(B:Gl X "range") (g:X.mg "range" = none) (C:GA X E [a] G) (o:AO [a] X.env=[(false,BQ a X.env)]:=by rfl):GI X E tg (.Call (.Name "range" p) [a] [] pos) (iR1 G):=(bR B g C o).imp<|by
 rintro Q H R ⟨I,l,S,J,o,g⟩
 refine⟨I,l,S,J,o,g.seq λT U g s L Y N O P=>?_⟩;split at g
 ·rename_i j
  split at g
  ·rename_i A
   cases P with
   | cons r t=>
    cases t;cases r;exact⟨j,rfl,A.1,A.2,g s L _ N O (Qe 0 j.toNat)⟩
  ·exact g.elim
 ·exact g.elim
theorem LL(A:Gl X "range") (g:X.mg "range" = none) (B:GA X E [a,b] C) (o:AO [a,b] X.env=[(false,BQ a X.env),(false,BQ b X.env)]:=by rfl) (G:AO [b] X.env=[(false,BQ b X.env)]:=by rfl) :
  GI X E tg (.Call (.Name "range" p) [a,b] [] pos) (iR2 C):=(bQ A g B o G).imp<|by
 rintro U H R ⟨I,l,S,J,o,g⟩
 refine⟨I,l,S,J,o,g.seq λY Z g s L xs N O P=>?_⟩;split at g
 ·rename_i i j
  split at g
  ·rename_i Q
   cases P with
   | cons r t=>
    cases t with
    | cons T t=>
     cases t;cases r;cases T;exact⟨i,j,rfl,Q,g s L _ N O (Qe i _)⟩
  ·exact g.elim
 ·exact g.elim
end
def Ls:List D->Lo->Sto->Res Lo
 | [],e,S=>.ok e S
 | _,_,_=>.bad
def D7(g:MG)(r:List D->Lo->Sto->Res Lo):List D->Lo->Sto->Res Lo
 | d :: l,e,S=>(g d e S).bind λm o=>r l m o
 | [],_,_=>.bad
def Kd(n:Nat)(r:List D->Lo->Sto->Res Lo):MG:=λd e S=>match d with
 | .tup g=>if g.length=n then r g e S else .bad
 | _=>.bad
section
variable{X:Cx}
def gGs(K:AE)(r:List D->Lo->Sto->Res Lo):TGs:=λA B H Q=>∃l e S s,Ao K l H s A/\E8 K l H e B/\Bz K l S H/\Br K noH l H (r s e S) λC E=>∀g o m,Le K l H g o->Bz K g E o->E8 K g o C m->Q m o
abbrev GGs(X:Cx)(g:List Expr)(r:List D->Lo->Sto->Res Lo):Prop:=PGs X g (gGs X.K r)
theorem PGs.imp(h:PGs X l t)(i:∀vs g H Q,t' vs g H Q->t vs g H Q):PGs X l t':=λm s g H vs o Q I r q=>h m s g H vs o Q I r (i vs g H Q q)
theorem ID:GGs X [] Ls:=jm.imp<|by
 rintro E o H Q ⟨s,l,S,g,A,B,C,m⟩
 cases g with
 | nil=>cases A;exact⟨rfl,m s H o .refl C B⟩
 | cons d g=>exact m.elim
theorem DE(G:GG X e g)(I:GGs X es r)
  (o:(Ed (e :: es) X.env).map (·.2)=mM e X.env :: (Ed es X.env).map (·.2):=by rfl):GGs X (e :: es) (D7 g r):=(e8 G I o).imp<|by
 rintro vs σ H Q ⟨J,l,S,s,L,N,o,m⟩
 cases s with
 | nil=>exact m.elim
 | cons d s=>
  cases L with
  | cons O P=>
   exact⟨_,_,rfl,J,l,S,d,O,N,o,m.seq λR T m A H1 U B Y Z=>⟨A,R,T,s,P.mono B,Z,Y,m.go B λ_ _ k C H2 E l2 s2 r2=>k C H2 E (B.trans l2) s2 r2⟩⟩
theorem Kt(s:X.calm=true)(h:GGs X es r)
  (A:(Ed es X.env).length=n:=by rfl) (B:(Ed es X.env).findIdx? (·.1)=none:=by rfl):GG X (.Tuple es k pos) (Kd n r):=(nq s h A B).imp<|by
 rintro v N H Q ⟨C,l,S,d,E,G,I,g⟩
 cases d <;> first | exact g.elim | skip
 rename_i J
 cases E with
 | tup L o=>
  unfold Kd at g;dsimp only at g;split at g
  ·rename_i m
   exact⟨_,_,rfl,.inl (.inl L),by rw[<-o.length];exact m,C,l,S,J,o,G,I,g⟩
  ·exact g.elim
end
def spM(K:AE)(n:Nat)(f:List D->Sto->Res D):Sp:=λs H Q E=>∃m o S,o.length=n/\Ao K m H o s/\Bz K m S H/\Br K (λc l=>E (.ref c) none l) m H (f o S) λd A=>
 ∀g l x,Le K m H g l->Bz K g A l->Bf K g l d x->Q x l
theorem spM.len{K}{n}{f}{vs}{H}{Q}{E}(h:spM K n f vs H Q E):vs.length=n:=by
 obtain⟨m,o,S,g,l,_⟩:=h;rw[<-l.length];exact g
def BE(n:Nat)(f:List D->Sto->Res D)(m:ML):ME:=λe S=>(m e S).bind λg l=>if g.length=n then f g l else .bad
def O6(C:AR)(n:Nat)(f:List D->Sto->Res D)(m:ML):ME:=λe S=>(m e S).bind λl g=>if l.length+1=n then(f (.ref g.length :: l) (g++[.ins C []])).bind (λd o=>match d with
  | .non=>.ok (.ref g.length) o
  | _=>.bad)else .bad
def ao(E:EW)(g:St):XK:=λv o H=>o=none/\∃c,v=.ref c/\E c g H
section
variable{X:Cx}{E:EW}{k n:Nat}{x:Str}{e:Expr}{es:List Expr}
theorem Br.xk{A:Type}{K:AE}{B:St}{ρ g:List AR}{H C:Hp}{r:Res A}{k k':A->Sto->Prop}(h:Br K (λc=>E c B) ρ H r k)(l:Le K ρ H g C)(f:∀a S,k a S->k' a S):Br K (λc m=>ao E B (.ref c) none m) g C r k':=by
 cases r with
 | ok a S=>exact f a S h
 | err c S=>exact λo m G s=>⟨rfl,c,rfl,h o m (l.trans G) s⟩
 | bad=>exact h
theorem Au(F:Bm X.prog X.w X.K X.mg X.base CX k f fd G (spM X.K n g))(I:Jt CX X (ao E))(J:GD k X.A)(L:Gl X x)(m:X.mg x=some (.ref f))(N:Ee X.K (.ref f)=true)(hb:Binds X.K fd G [])
  (O:GA X E (e :: es) P) (R:(x==("__debug__" : Str))=false:=by decide) (T:AO (e :: es) X.env=(false,BQ e X.env) :: AO es X.env:=by rfl) (U:(CT pos (AO es X.env)).any (·.1)=false:=by rfl) :
  GE X E (.Call (.Name x p) (e :: es) [] pos) (BE n g P):=(jx F J L m N hb .nil I O R T U).imp<|by
 rintro σ H Q ⟨Y,l,S,Z,hs,m⟩
 refine⟨Y,l,S,Z,hs,m.seq λds S1 m s H1 xs C s1 r1=>?_⟩;split at m
 ·rename_i o
  rw[Bt];exact⟨s,ds,S1,o,r1,s1,m.xk C λ_ _ k B H' z l' s' r'=>k B H' z (C.trans l') s' r'⟩
 ·exact m.elim
theorem QI(M:Mk X.K C f)(F:Bm X.prog X.w X.K X.mg X.base CX k f fd Y (spM X.K n g))(Z:Jt CX X (ao E))(hr:GD (k+1) X.A)(hg:Gl X x)(m:X.mg x=some (.ref C))(hb:Binds X.K fd Y [])
  (G:GA X E (e :: es) ml) (vf:(x==("__debug__" : Str))=false:=by decide) (he:AO (e :: es) X.env=(false,BQ e X.env) :: AO es X.env:=by rfl) (uL:(CT pos (AO es X.env)).any (·.1)=false:=by rfl) :
  GE X E (.Call (.Name x p) (e :: es) [] pos) (O6 C n g ml):=(jt M F hr hg m hb .nil Z G vf he uL).imp<|by
 rintro σ H Q ⟨ρ,l,S,hl,hs,m⟩
 refine⟨ρ,l,S,hl,hs,m.seq λds P m I H1 xs R s1 r1 a T G J uM=>?_⟩;split at m
 ·rename_i s
  rw[Bt];obtain⟨s2,L⟩:=Fn s1 J
  have zV:upd H1 T (.own a) a=none:=by rw[BC (Bo uM)];exact G
  obtain⟨s3,N,B⟩:=s2.alloc (o:=.ins C []) zV ⟨T,[],BV,.nil⟩;refine⟨I++[a],.ref P.length :: ds,P++[.ins C []],by simpa using s,.cons (.ref B) (r1.mono (L.trans N)),s3,Br.xk (m.seq λz S2 m=>m) (R.trans (L.trans N)) λz S2 m O H' y U s' r'=>?_⟩
  cases z <;> first | exact m.elim | skip
  cases r';exact⟨rfl,m O H' _ (R.trans (L.trans (N.trans U))) s' (.ref (U.pre _ _ B))⟩
 ·exact m.elim
end
theorem KVR.lookup{K}{ρ}{H}(f:Str):∀{x:List (Str×D)} {y:List (Str×V)} {d:D},KVR K ρ H x y->x.lookup f=some d->∃v,y.lookup f=some v/\Bf K ρ H d v
 | _,_,_,.nil,h=>by simp at h
 | (g,a) :: x,(s,b) :: y,d,.cons r t,h=>by
  obtain⟨m,o⟩:=r;subst m;rw[CQ]at h ⊢
  cases l:(f==g)with
  | true=>rw[l]at h;cases h;exact⟨b,rfl,o⟩
  | false=>rw[l]at h;exact KVR.lookup f t h
def bM(f:Str)(v:D):List (Str×D)->List (Str×D)
 | []=>[(f,v)]
 | (g,x) :: r=>if g=f then(g,v) :: r else(g,x) :: bM f v r
theorem KVR.putF{K}{ρ}{H}(f:Str){d}{v}(m:Bf K ρ H d v):∀{x:List (Str×D)} {y:List (Str×V)},KVR K ρ H x y->KVR K ρ H (bM f d x) (putF f v y)
 | _,_,.nil=>.cons ⟨rfl,m⟩ .nil
 | (g,a) :: x,(A,b) :: y,.cons r t=>by
  obtain⟨o,s⟩:=r;subst o;unfold bM L2.putF
  by_cases l:g=f
  ·rw[qX l,qX l];exact .cons ⟨rfl,m⟩ t
  ·rw[qY l,qY l];exact .cons ⟨rfl,s⟩ (KVR.putF f m t)
theorem KVR.length{g:Type}{K:AE}{ρ:List AR}{H:Hp}{x:List (g×D)}{y:List (g×V)}(h:KVR K ρ H x y):x.length=y.length:=EL h
def CU(C:AR)(f:Str)(m:ME):ME:=λe S=>(m e S).bind λd g=>match d with
 | .ref n=>match g[n]? with
  | some (.ins l fs)=>if l=C then(match fs.lookup f with | some v=>.ok v g | none=>.bad)else .bad
  | _=>.bad
 | _=>.bad
def Ft(C:AR)(f:Str)(mo l:ME):MS:=λe S=>(l e S).lift e λv m=>(mo e m).lift e λd g=>match d with
 | .ref n=>match g[n]? with
  | some (.ins o fs)=>if o=C/\fs.length < 1000 then .ok (.nx e) (g.set n (.ins C (bM f v fs)))else .bad
  | _=>.bad
 | _=>.bad
section
variable{X:Cx}{E:EW}{o e value:Expr}{m mv:ME}
theorem BA(I:Cls X.K C)(J:Dt X.K C f)(L:GE X E e m)(hb:Da e f X.env (BQ e X.env)=BQ e X.env:=by rfl):GE X E (.Attribute e f pos) (CU C f m):=(n8 L hb).imp<|by
 rintro σ H Q ⟨N,l,S,O,P,g⟩
 refine⟨N,l,S,O,P,g.seq λx R g A T v U G Y=>?_⟩
 cases x <;> first | exact g.elim | skip
 rename_i n;dsimp only at g
 cases s:R[n]? with
 | none=>rw[s]at g;exact g.elim
 | some Z=>
  rw[s]at g
  cases Z <;> first | exact g.elim | skip
  rename_i C' fs;dsimp only at g;split at g
  ·rename_i hC
   rw[hC]at s
   cases Y with
   | ref vL=>
    obtain⟨dx,wI,e1,e2⟩:=G.ob n _ _ s vL
    cases B:fs.lookup f with
    | none=>rw[B]at g;exact g.elim
    | some w=>
     rw[B]at g;obtain⟨v,h3,h4⟩:=KVR.lookup f e2 B;exact⟨_,_,dx,wI,v,rfl,e1,I,J,h3,g A T v U G h4⟩
  ·exact g.elim
theorem Gc(hc:Cls X.K C)(hn:Dt X.K C f)(ha:GE X E o m)(hv:GE X E value mv)(L:Fc value (some (.Attribute o f B)) pos.line X.env=pure false:=by rfl):GS X E (.Assign [.Attribute o f B] value pos) (Ft C f m mv):=(nZ ha hv L).imp<|by
 rintro D σ H ⟨ρ,l,S,G,L,g⟩
 refine⟨ρ,l,S,G,L,g.lift G .refl λv S1 g N H1 y A s1 r1=>⟨N,l,S1,G.mono A,s1,(g.later A).lift (G.mono A) A λx S2 g s T u O U r2=>?_⟩⟩
 cases x <;> first | exact g.elim | skip
 rename_i n;dsimp only at g
 cases J:S2[n]? with
 | none=>rw[J]at g;exact g.elim
 | some ob=>
  rw[J]at g
  cases ob <;> first | exact g.elim | skip
  rename_i C' fs;dsimp only at g;split at g
  ·rename_i P
   obtain⟨P,I⟩:=P;rw[P]at J
   cases r2 with
   | ref Q=>
    obtain⟨R,Y,Z,e2⟩:=U.ob n _ _ J Q;have le:Le X.K s T s (upd T _ (.ins C R (putF f y Y))):=Le.write Q (by rw[Z];trivial);obtain⟨s3,l3⟩:=U.write (o:=.ins C (bM f v fs)) Q ⟨R,_,BV,(KVR.putF f (r1.mono O) e2).mono le⟩ le;refine⟨_,C,R,Y,rfl,Z,hc,hn,by rw[<-KVR.length e2];exact I,?_⟩;exact g s _ σ (A.trans (O.trans l3)) s3 (G.mono (A.trans (O.trans l3)))
  ·exact g.elim
end
theorem C8.get(x:C8 P w H h a o):∃u,h.get? a=some u:=by
 cases o with
 | lst g=>obtain⟨_,_,_,_,e⟩:=x;exact⟨_,e⟩
 | tup g=>obtain⟨_,_,_,o,e,_⟩:=x;exact⟨_,e⟩
 | dK l=>obtain⟨_,_,_,_,o,_,_,e,_⟩:=x;exact⟨_,e⟩
 | dT l=>obtain⟨_,_,_,_,o,_,_,e,_⟩:=x;exact⟨_,e⟩
 | set S n=>obtain⟨o,_,_,_,e,_⟩:=x;exact⟨_,e⟩
 | ins C m fs=>obtain⟨_,_,_,e,_⟩:=x;exact⟨_,e⟩
 | own y=>exact x
 | xd fs=>obtain⟨_,⟨_,_,_,e,_⟩,_⟩:=x;exact⟨_,e⟩
 | rng lo s=>obtain⟨_,_,_,e⟩:=x;exact⟨_,e⟩
 | frz A u=>obtain⟨e,_⟩:=x;exact⟨_,e⟩
 | tbl B=>exact⟨_,(x)⟩
 | met f y=>exact⟨_,(x)⟩
 | ext E=>obtain⟨_,e,_⟩:=x;exact e
def S7(Nw:AR->Prop)(F:Option AG->Prop)(g C:AR)(H:Hp)(h:Bu):Prop:=
 H g=none/\Nw g/\∃(l:Obj) (m:Array AG) (B:AG),h.get? g=some l/\l.cls=.ref C/\(l.dict=none/\l.data=.fields m)/\m[0]?=some B /\
  ((F none/\m[1]?=some .none)∨∃(T:AR) (o:Obj) (s:Array AG) (A:AG),F (some A)/\m[1]?=some (.ref T)/\T≠g/\H T=none/\Nw T/\h.get? T=some o/\o.data=.fields s/\s[3]?=some A)
theorem S7.imp(x:S7 Nw F g C H h)(f:∀o,F o->G o):S7 Nw G g C H h:=by
 obtain⟨l,m,s,A,B,E,I,J,L,N⟩:=x;refine⟨l,m,s,A,B,E,I,J,L,?_⟩
 rcases N with⟨a,b⟩ | ⟨T,O,P,Q,a,b⟩
 ·exact .inl ⟨f _ a,b⟩
 ·exact .inr ⟨T,O,P,Q,f _ a,b⟩
structure JA(X:Cx):Prop where
 st:X.stack=X.env :: X.outer
 fr:X.env.frame=some X.env.locals
 ex:X.ex=[]
def Nw(X:Cx)(b:AR):Prop:=X.s₀.heap.get? b=none/\∀p∈X.pn,p.1≠b
section
variable{X:Cx}{σ:St}{H:Hp}{s:AK}{h':Bu}{ea C:AR}{F:Option AG->Prop}
theorem Inv.old(I:Inv X m σ H s)(O:JA X)(e:s.heap.get? b=none):H b=none/\Nw X b:=by
 refine⟨?_,?_,λp l z=>?_⟩
 ·cases q:H b with
  | none=>rfl
  | some u=>
   obtain⟨o,g⟩:=(I.hok b u q).get;rw[e]at g;cases g
 ·cases q:X.s₀.heap.get? b with
  | none=>rfl
  | some o=>
   obtain⟨A,g⟩:=I.base.there b o q (by rw[O.ex];simp);rw[e]at g;cases g
 ·have:=(I.pin p (Du _ l)).1
  rw[z,e]at this;cases this
theorem Inv.recs(I:Inv X [] σ H s)(O:JA X)(l:∀b∈ch,H b=none/\Nw X b/\∃o vs,s.heap.get? b=some o/\o.data=.fields vs)
  (st:(Ju s.heap (frs X.stack++ch)).StaysIn h') (up:s.heap.UpToSlots h'):Inv X [] σ H { s with heap:=h' }:=by
 have E:∀b o,b∉frs X.stack->b∉ch->s.heap.get? b=some o->h'.get? b=some o:=λb o Q R e=>
  st b o (Xd _ e λz=>(Bg.mp z).elim Q R)
 have G:∀b∈ch,b≠X.env.locals:=λb hb z=>by
  obtain⟨_,_,o,vs,e,d⟩:=l b hb;obtain⟨m,⟨J,Z,ep,g,B,_⟩,_⟩:=I.loc;rw[z,g]at e;cases e;rw[B]at d;cases d
 have L:∀b∈ch,∀x c,X.env.cells.lookup x=some c->c≠b:=λb hb x c q z=>by
  obtain⟨_,_,o,vs,e,d⟩:=l b hb;obtain⟨v,J,g,B⟩:=I.cell x c q;rw[z,e]at g;cases g;rw[d]at B;cases B
 refine I.stepN (g':=s.gens) (t':=s.toks) (d':=s.drawn) (λb hb=>⟨.inr (l b hb).2.1.1,G b hb,L b hb,λp S=>(l b hb).2.1.2 p (by rwa [Bt]at S)⟩)
  (λb o T A N e _=>E b o (λz=>(Ax.mp (I.stkSub b z)).elim T A) N e) (λb o _ U _ e _=>?_) (λ_ _ _ _ n=>n) (λb o N e=>?_) (λ_ _ q=>q) (λ_ _ _ q=>q) (λb ps q=>⟨#[],by rw[q];simp⟩) (λm Y=>up.ns Y) (λa o e=>?_) I.bare
 ·obtain⟨J,g,A⟩:=(I.funs.mem U).2
  rw[e]at g;cases g;exact up b o e A
 ·by_cases hb:b∈frs X.stack
  ·obtain⟨J,g,A⟩:=(I.stack.mem hb).2
   rw[e]at g;cases g;obtain⟨sl,q⟩:=up b o e A;exact⟨_,q⟩
  ·exact⟨o,E b o hb N e⟩
 ·have P:∀b u,H b=some u->∀v,s.heap.get? b=some v->h'.get? b=some v:=λb u q v r=>
   E b v (λz=>by rw[I.stkFree b z]at q;cases q) (λz=>by rw[(l b z).1]at q;cases q) r
  refine(I.hok a o e).stay (λb u hb q=>?_) (λ_ q=>q) λ_ _ q=>q
  rcases hb with z | z
  ·subst z;exact P _ _ e u q
  ·exact P _ _ z u q
abbrev kO(X:Cx)(h:Bu)(ch:List AR):Bu:=Ju h (frs X.stack++ch)
theorem Tn(hb:b∈ch):(kO X h ch).get? b=none:=KS _ (BG _ hb)
theorem K6(f:Array AG->Array AG)(o:Obj):(EZ f o).dict=o.dict:=by
 obtain⟨c,d,g,sl⟩:=o
 cases g <;> rfl
theorem W7
  (yT:A.frames=some (l :: g)) (P:s.heap.FunFrames base (l :: g)) (hf:l.frame=some L) (R:s.heap.get? e=some S) (N:S.data=.fields vs) (hsz:1 < vs.size)
  (k:∀B T U Y,T≠e->s.heap.get? T=none->(∀b o,b≠e->b∉frs (l :: g)->s.heap.get? b=some o->B.get? b=some o)->(∀b o,b≠e->s.heap.get? b=some o->∃sl,B.get? b=some { o with slots:=sl }) ->
   B.get? e=some (EZ (·.setIfInBounds 1 (.ref T)) S)->B.get? T=some U->U.data=.fields Y->Y[3]?=some (Dl L)->Q () { s with heap:=B }) :
  AZ M A (do let a <-frameOf l;let pl <-entryPlaceOf L hadNext;let b <-UI head a .none (Dl L) .none pl;setField (.ref e) 1 b) Q E s:=by
 have Ζ:e∉frs (l :: g):=λz=>by
  obtain⟨_,o,Z,O⟩:=P.mem z;rw[R]at Z;cases Z;exact O vs N
 refine AA (wpAny_frameOf_fun yT P hf λm J=>AA (wpAny_entryPlaceOf λpl uL=>?_));unfold UI qg;refine AA (A4 ?_ (uL.sizeOk5 _ _ _ _ _));have e1:=(J.2.1 e Ζ).trans R;have e2:=AB { cls:=.type "traceback",dict:=none,data:=.fields ([head,.ref L,.none,Dl L,.none]++(if pl.isEmpty then BF 6 B2 else pl)).toArray } e1;refine Di e2 N hsz ?_;have G:=DO (AS e1);have dd:=CK N (·.setIfInBounds 1 (A7 m.objs.size))
 have old:∀b o,b≠e->m.get? b=some o->((m.push { cls:=.type "traceback",dict:=none,data:=.fields ([head,.ref L,.none,Dl L,.none]++(if pl.isEmpty then BF 6 B2 else pl)).toArray }).update e (EZ (·.setIfInBounds 1 (A7 m.objs.size)))).get? b=some o:=λb o I q=>by
  rw[As _ _ (Bo I)];exact AB _ q
 refine k _ m.objs.size { cls:=.type "traceback",dict:=none,data:=.fields ([head,.ref L,.none,Dl L,.none]++(if pl.isEmpty then BF 6 B2 else pl)).toArray } _ G (ZV (Xy J.1.symm)) (λb o I O q=>old b o I ((J.2.1 b O).trans q)) (λb o I q=>?_) (Ba _ e2 (Ef dd)) ?_ rfl ?_
 ·obtain⟨sl,z⟩:=J.2.2 b o q
  exact⟨sl,old b _ I z⟩
 ·rw[As _ _ (Bo G)]
  exact AJ m rfl
 ·rcases uL with rfl | ⟨_,_,_,_,_,_,_,rfl⟩ <;> simp
theorem WG(keep:∀b o,b∉frs X.stack->b∉ch->h.get? b=some o->h'.get? b=some o):(kO X h ch).StaysIn h':=λb o q=>by
 have hb:b∉frs X.stack++ch:=λz=>by
  have:=KS (h:=h) (frs X.stack++ch) z;rw[show(kO X h ch).get? b=(Ju h (frs X.stack++ch)).get? b from rfl,this]at q;cases q
 exact keep b o (λz=>hb (Du _ z)) (λz=>hb (BG _ z)) (MN _ q)
theorem Uz(I:Inv X [] σ H s)(O:JA X)(hA:A.frames=some X.stack)(x:S7 (Nw X) F ea C H s.heap)
  (hF:∀o,F o->o=none∨o=some .none∨o=some (Dl X.env.locals))
  (k:∀h',Inv X [] σ H { s with heap:=h' }->S7 (Nw X) (· = some (Dl X.env.locals)) ea C H h'->Q () { s with heap:=h' }):AZ M A (qf (.ref ea) X.env) Q E s:=by
 obtain⟨N,P,U,vs,a0,m,Y,⟨g0,g⟩,Z,g5⟩:=x
 have R:A.frames=some (X.env :: X.outer):=by rw[hA,O.st]
 have vM:frs (X.env :: X.outer)=frs X.stack:=by rw[O.st]
 have fr:s.heap.FunFrames X.base (X.env :: X.outer):=by rw[<-O.st];exact I.stack
 rcases g5 with⟨_,G⟩ | ⟨T,J,L,fl,hf,G,ne,m1,m2,gT,dT,h3⟩
 ·have l:=(DV.mp G).1
  unfold qf;simp only[O.fr];refine AA (C2 m g G ?_);rw[qY (by decide)]
  refine W7 R fr O.fr m g l λh2 T J L nT fT kp up q1 q2 q3 q4=>?_
  rw[vM]at kp;have S:=I.old O fT
  have hc:∀b∈[ea],H b=none/\Nw X b/\∃o vs,s.heap.get? b=some o/\o.data=.fields vs:=λb hb=>by
   cases A1.mp hb;exact⟨N,P,U,vs,m,g⟩
  refine k h2 (I.recs O hc (WG λb o z1 z2 q=>kp b o (λz=>z2 (A1.mpr z)) z1 q) λb o q B=>up b o (λz=>?_) q) ?_
  ·rw[z,m]at q
   cases q;exact B vs g
  ·exact⟨N,P,_,_,a0,q1,by rw[JC];exact Y,⟨by rw[K6];exact g0,CK g _⟩,by rw[Oy (by decide)];exact Z,.inr ⟨T,J,L,_,rfl,by simp[l],nT,S.1,S.2,q2,q3,q4⟩⟩
 ·rcases hF _ hf with e | e | e
  ·cases e
  ·cases e
   have l:=(DV.mp G).1;unfold qf;simp only[O.fr];refine AA (C2 m g G ?_);rw[qX (by simp)];refine AA (C2 gT dT h3 ?_);rw[qY (by simp[Dl])];refine AA (Di gT dT (DV.mp h3).1 ?_)
   have oth:∀b,b≠T->(s.heap.update T (EZ (·.setIfInBounds 3 B2))).get? b=s.heap.get? b:=λb hb=>As _ _ (Bo hb)
   have wJ:∀b o,s.heap.get? b=some o->(∀vs,o.data≠.fields vs)->b≠T:=λb o hb B q=>by
    rw[q,gT]at hb;cases hb;exact B L dT
   have fr2:=fr.of_keeps λb o hb B=>⟨o,(oth b (wJ b o hb B)).trans hb,rfl⟩
   have gU:(s.heap.update T (EZ (·.setIfInBounds 3 B2))).get? T=some (EZ (·.setIfInBounds 3 B2) J):=Ba _ gT (Ef (CK dT _))
   have hc:∀b∈[ea,T],H b=none/\Nw X b/\∃o vs,s.heap.get? b=some o/\o.data=.fields vs:=λb hb=>by
    rcases Ax.mp hb with rfl | hb
    ·exact⟨N,P,U,vs,m,g⟩
    ·cases A1.mp hb
     exact⟨m1,m2,J,L,gT,dT⟩
   refine W7 R fr2 O.fr ((oth ea (Bo ne)).trans m) g l λh2 T2 oT2 ts2 nT fT kp up q1 q2 q3 q4=>?_
   rw[vM]at kp
   have fT':s.heap.get? T2=none:=by
    have z:T2≠T:=λz=>by rw[z]at fT;exact zX (fT.symm.trans gU) (by simp)
    rw[<-oth T2 z];exact fT
   have S:=I.old O fT';refine k h2 (I.recs O hc (WG λb o z1 z2 q=>kp b o (λz=>z2 (by rw[z];exact Am)) z1 ((oth b λz=>z2 (by rw[z];exact Ab _ (A1.mpr rfl))).trans q)) λb o q B=>up b o (λz=>?_) ((oth b (wJ b o q B)).trans q)) ?_
   ·rw[z,m]at q
    cases q;exact B vs g
   ·exact⟨N,P,_,_,a0,q1,by rw[JC];exact Y,⟨by rw[K6];exact g0,CK g _⟩,by rw[Oy (by decide)];exact Z,.inr ⟨T2,oT2,ts2,_,rfl,by simp[l],nT,S.1,S.2,q2,q3,q4⟩⟩
  ·cases e
   have hTn:(kO X s.heap [ea,T]).get? T=none:=Tn (Ab _ (A1.mpr rfl));refine wpAny_noteFrame_againW O.fr ⟨U,vs,T,J,L,m,⟨Y,Z⟩,g,G,hTn,ne,gT,dT,h3⟩ ?_;exact k s.heap I ⟨N,P,U,vs,a0,m,Y,⟨g0,g⟩,Z,.inr ⟨T,J,L,_,rfl,G,ne,m1,m2,gT,dT,h3⟩⟩
theorem LN(f:Option AR)(I:Inv X [] σ H s)(O:JA X)(x:S7 (Nw X) F ea C H s.heap)(U:¬F none)
  (k:∀h',Inv X [] σ H { s with heap:=h' }->S7 (Nw X) (· = some (f.elim B2 λa=>Dl a)) ea C H h'->Q () { s with heap:=h' }):AZ M A (setFlight (.ref ea) f) Q E s:=by
 obtain⟨G,J,L,vs,Y,l,Z,⟨g0,m⟩,g4,g5⟩:=x
 rcases g5 with⟨z,_⟩ | ⟨T,oT,N,fl,hf,P,R,S,m2,gT,dT,h3⟩
 ·exact(U z).elim
 ·have hc:∀b∈[ea,T],H b=none/\Nw X b/\∃o vs,s.heap.get? b=some o/\o.data=.fields vs:=λb hb=>by
   rcases Ax.mp hb with rfl | hb
   ·exact⟨G,J,L,vs,l,m⟩
   ·cases A1.mp hb
    exact⟨S,m2,oT,N,gT,dT⟩
  have g:=(DV.mp h3).1;unfold setFlight;refine AA (C2 l m P ?_);rw[qX (by simp)];refine Di gT dT g ?_
  have oth:∀b,b≠T->(s.heap.update T (EZ (·.setIfInBounds 3 (f.elim B2 λa=>Dl a)))).get? b=s.heap.get? b:=λb hb=>As _ _ (Bo hb)
  have wJ:∀b o,s.heap.get? b=some o->(∀vs,o.data≠.fields vs)->b≠T:=λb o hb B q=>by
   rw[q,gT]at hb;cases hb;exact B N dT
  refine k _ (I.recs O hc (λb o q=>?_) λb o q B=>⟨o.slots,(oth b (wJ b o q B)).trans q⟩) ?_
  ·have hb:b≠T:=λz=>by rw[z,Tn (Ab _ (A1.mpr rfl))]at q;cases q
   exact(oth b hb).trans (MN _ q)
  ·refine⟨G,J,L,vs,Y,(oth ea (Bo R)).trans l,Z,⟨g0,m⟩,g4,.inr ⟨T,_,_,_,rfl,P,R,S,m2,Ba _ gT (Ef (CK dT _)),CK dT _,?_⟩⟩
   simp[g]
end
def trF(X:Cx)(o:Option AG):Prop:=o=none∨o=some .none∨o=some (Dl X.env.locals)
def XE(X:Cx)(E:EW)(e:AG)(s':AK):Prop:=∃l C m g,e=.ref l/\Inv X [] m g s'/\S7 (Nw X) (trF X) l C g s'.heap/\E C m g
def CXG(P:BJ)(w:Bs):CXT:=λg H s E e l=>∃o C m,e=.ref o/\l.os=s.os/\Ht l.gens/\Un (frs g) [] H m s.heap l.heap/\HOk P w m l.heap/\S7 (λb=>s.heap.get? b=none) (· = some .none) o C m l.heap/\E (.ref C) none m
theorem XE.own(O:JA X):Os (AU X.prog X.w) X.A X.env (XE X E):=by
 rintro e R ⟨s,C,B,H,rfl,I,x,w⟩
 refine Uz I O I.ok.frames x (λo z=>z) λS G m=>?_
 have g:=m;obtain⟨U,Y,Z,vs,a0,J,g2,L,g4,N⟩:=g
 rcases N with⟨z,_⟩ | ⟨T,oT,ts,fl,hf,l,_⟩
 ·cases z
 ·refine AA (C2 J L.2 l ?_)
  rw[qY (by simp)];rw[O.fr]
  refine LN (some X.env.locals) G O m (by simp) λh2 P Q=>?_
  exact⟨s,C,B,H,rfl,P,Q.imp λo z=>.inr (.inr z),w⟩
theorem XE.leave(O:JA X)(h:XE X E e s')
  (k:∀g C l m s,e=.ref g->Inv X [] l m s->S7 (Nw X) (· = some .none) g C m s.heap->E C l m->Q () s):AZ (AU X.prog X.w) X.A (leaving X.env e) Q N s':=by
 obtain⟨g,C,l,H,rfl,I,x,w⟩:=h;unfold leaving;refine AA (Uz I O I.ok.frames x (λo z=>z) λP B G=>?_)
 refine LN none B O G (by simp) λR J L=>?_
 exact k g C l H _ rfl J L w
noncomputable abbrev Cx.p(X:Cx)(pn:List (AR×Obj)):Cx:={ X with pn:=pn }
abbrev Cx.w'(X:Cx)(pn:List (AR×Obj))(E:EW):Cx:={ X with pn:=pn,xe:=XE (X.p pn) E }
theorem Inv.with(I:Inv X m o H s)(z:AG->AK->Prop):Inv { X with xe:=z } m o H s:=by
 obtain⟨ok,a,b,c,d,e,f,g,i,j,l⟩:=I;obtain⟨A,B,C,E,G,J,L,N,O,P,Q,R,S,T,U,Y,Z,xT⟩:=ok;exact⟨⟨A,B,C,E,G,J,L,N,O,P,Q,R,S,T,U,Y,Z,xT⟩,a,b,c,d,e,f,g,i,j,l⟩
theorem Inv.without(I:Inv { X with xe:=z } g l H s):Inv X g l H s:=by
 have:=I.with X.xe
 exact this
theorem Inv.pinIn(I:Inv X m o H s):Inv (X.p (X.pn++m)) [] o H s:=by
 obtain⟨ok,a,b,c,d,e,f,g,i,j,l⟩:=I;obtain⟨A,B,C,E,G,J,L,N,O,P,Q,R,S,T,U,Y,Z,xT⟩:=ok;exact⟨⟨A,B,C,E,G,J,L,N,O,P,Q,R,S,T,U,Y,Z,xT⟩,a,b,c,d,e,f,g,λq hq=>i q (by rwa [Bt]at hq),j,l⟩
theorem Inv.pinOut(I:Inv (X.p (X.pn++m)) [] o H s):Inv X m o H s:=by
 obtain⟨ok,a,b,c,d,e,f,g,i,j,l⟩:=I;obtain⟨A,B,C,E,G,J,L,N,O,P,Q,R,S,T,U,Y,Z,xT⟩:=ok;exact⟨⟨A,B,C,E,G,J,L,N,O,P,Q,R,S,T,U,Y,Z,xT⟩,a,b,c,d,e,f,g,λq hq=>i q (by show q∈(X.pn++m)++[];rwa [Bt]),j,l⟩
structure Good(X:Cx)(E:EW):Prop where
 pass:Jt (CXG X.prog X.w) X (ao E)
 own:Os (AU X.prog X.w) X.A X.env X.xe
 made:∀(ζ:List (AR×Obj)) (σ:St) (H:Hp) (s:AK) (h':Bu) (ea C:AR) (args:List AG),Inv X ζ σ H s->E C σ H->Bu.MadeExcOf s.heap h' ea (.ref C) args->X.xe (.ref ea) { s with heap:=h' }
theorem JA.p(O:JA X)(pn:List (AR×Obj)):JA (X.p pn):=⟨O.st,O.fr,O.ex⟩
theorem Ag(O:JA X):Good (X.w' pn E) E:=by
 have A:=O.p pn;refine⟨λQ m H s e s' I h=>?_,XE.own A,λQ m H s U B C R I w G=>?_⟩
 ·obtain⟨B,C,S,rfl,os,o,un,J,x,_,c,Y,w⟩:=h
  cases Y;have l:=Inv.without (X:=X.p pn) I;have L:=l.call' os un J o (λb z=>zX z (by simp))
  have Z:Inv (X.p pn) [] m S s':=L.pins_of λp N=>zX N (by simp)
  obtain⟨n1,n2,oe,vs,a0,P,g2,g3,g4,g5⟩:=x;refine⟨B,C,m,S,rfl,Z,⟨n1,(l.old A n2).2,oe,vs,a0,P,g2,g3,g4,?_⟩,w⟩
  rcases g5 with⟨z,_⟩ | ⟨T,oT,ts,fl,hf,h1,ne,m1,m2,r⟩
  ·cases z
  ·exact .inr ⟨T,oT,ts,fl,.inr (.inl hf),h1,ne,m1,(l.old A m2).2,r⟩
 ·have l:=Inv.without (X:=X.p pn) I
  have L:Inv (X.p pn) Q m H { s with heap:=U,toks:=s.toks }:=l.kept G.keeps;obtain⟨t,P,_,_⟩:=G.there;have g:=l.old A G.new;exact⟨B,C,m,H,rfl,L.pins_of λp N=>zX N (by simp),⟨g.1,g.2,_,_,_,P,rfl,⟨rfl,rfl⟩,rfl,.inl ⟨.inl rfl,rfl⟩⟩,w⟩
theorem good_none(l:X.xe=λ_ _=>False):Good X noE:=by
 refine⟨λo A H s e B I h=>?_,by rw[l];exact Os.never,λ_ _ _ _ _ _ _ _ _ w _=>w.elim⟩;obtain⟨E,C,G,rfl,os,g,un,m,x,_,c,J,w⟩:=h;exact w.elim
abbrev aT:List AG:=[.type "ValueError",.type "Exception",.type "BaseException",.type "object"]
structure XCl(K:AE)(C:AR):Prop where
 ex:iE K C aT "ValueError.__new__" = true
theorem XCl.obj{K}{C}(c:XCl K C):∃E N nm q bs hdct sn sub ab col dd k0 k1 k2 k3 k5,K.lookup C=some (excClassObj nm q C N bs E hdct sn sub ab col dd k0 k1 k2 k3 k5 "ValueError.__new__") /\
  QQ K N=true/\PySem.W.nsIn K N "__init__" = some none/\PySem.W.tailIn K aT E=true:=by
 have q:=c.ex;unfold iE at q;split at q
 ·rename_i g l m o
  split at q
  ·rename_i Cx s G H I J nx L A B
   simp only[Bv,beq_iff_eq,GM]at q;obtain⟨⟨⟨⟨⟨O,P⟩,Q⟩,R⟩,S⟩,T⟩:=q;subst O;subst P;obtain⟨U,f2,f3,X,Y,Z,f7,f8,f9,Η,f11⟩:=l;subst A;subst Q;obtain⟨lx⟩:=m;subst B;exact⟨s,X,U,Y,f2,Z,f7,f8,f9,Η,g,G,H,I,J,L,o,S,T,R⟩
  ·cases q
 ·cases q
theorem kF{K}{N}{h g}{m}(e:QQ K N=true)(X:K.In h)(s:K.In g)(n:h.Ns N m):g.Ns N m:=by
 obtain⟨o,A,B,C,r⟩:=n;unfold QQ at e;split at e
 ·rename_i l
  have z:=X _ _ l;rw[C]at z;cases z;exact⟨_,A,B,s _ _ l,r⟩
 ·cases e
def Ue(C:AR)(g:ML):MS:=λe S=>(g e S).lift e λl m=>if l.length<=sizeLine then .ok (.ex C e) m else .bad
section
variable{E:EW}{x:Str}{e:Expr}{C:AR}
theorem RP(G:Good X E)(hc:X.calm=true)(c:XCl X.K C)(hg:Gl X x)(m:X.mg x=some (.ref C))(ha:GA X E (e :: es) ml)(vf:(x==("__debug__" : Str))=false:=by decide)
  (T:AO (e :: es) X.env=(false,BQ e X.env) :: AO es X.env:=by rfl) (uL:(CT L (AO es X.env)).any (·.1)=false:=by rfl) :
  GS X E (.Raise (some (.Call (.Name x np) (e :: es) [] L)) none pos) (Ue C ml):=by
 intro U s B H D I ⟨ρ,l,S,O,hs,yU⟩;have hh:=I.ok.hd hc;obtain⟨bm,N,nm,q,bs,hdct,sn,sub,ab,col,dd,k0,k1,k2,k3,k5,hC,g,Θ,o⟩:=c.obj;have hN:s.heap.Ns N (s.heap.nsMap N):=.of_isNs (PySem.W.isNs_of_in I.kIn g)
 refine wpAny_Raise_call_subT (nm:=nm) (q:=q) (N:=N) (bs:=bs) (hdct:=hdct) (sn:=sn) (sub:=sub) (ab:=ab) (col:=col) (dd:=dd) (k0:=k0) (k1:=k1) (k2:=k2) (k3:=k3) (k5:=k5) PySem.F.excBase_ValueError
  ((Xw I.kIn o).hasType (by decide +kernel)) hh (by rw[T];show(false||(CT L (AO es X.env)).any (·.1))=false;rw[uL];rfl) (PySem.W.nsMap_none_of_in I.kIn g Θ)
  (Nf I hg m ⟨rfl,?_⟩ vf)
 have A:=ha L U s B H (λY P=>Y.length<=sizeLine/\E C B P) I ⟨ρ,l,S,O,hs,Br.lift yU O .refl λds S1 m Q P xs Z s1 r1=>by
  split at m
  ·rename_i R
   exact⟨by rw[<-r1.length];exact R,m Q P B Z s1 (O.mono Z)⟩
  ·exact m.elim⟩
 rw[T]at A ⊢;refine X4 (thn A λus s2 ⟨Y,H2,J,rv,R,w⟩=>?_);exact⟨rfl,by rw[<-rv.length];exact R,J.kIn _ _ hC,kF g I.kIn J.kIn hN,Xw J.kIn o,λh' ea hx=>G.made U B H2 s2 h' ea C us J w hx⟩
end
abbrev Cx.suite(X:Cx)(g:AR):Cx:={ X with A:=X.A.mark (some (.ref g)),calm:=false,xe:=λ_ _=>False }
theorem Inv.suite(I:Inv X m o H s)(A:AR):Inv (X.suite A) m o H s:=by
 obtain⟨ok,a,b,c,d,e,f,g,i,j,l⟩:=I;obtain⟨B,C,E,G,J,L,N,O,o9,P,Q,R,S,T,U,Y,Z,xT⟩:=ok;exact⟨⟨B,C,E,G,J,L,N,O,λz=>zX (z) Af,P,Q,R,S,T,U,Y,Z,xT⟩,a,b,c,d,e,f,g,i,j,l⟩
theorem Inv.unsuite(ok:X.Ok)(I:Inv (X.suite A) m o H s):Inv X m o H s:=by
 obtain⟨_,a,b,c,d,e,f,g,i,j,l⟩:=I;exact⟨ok,a,b,c,d,e,f,g,i,j,l⟩
theorem Inv.track(I:Inv X [] L H s)(g:H ea=none)(E:Nw X ea)(l:s.heap.get? ea=some o)(G:o.data=.fields vs) :
  Inv X [] L (upd H ea (.frz o (.ext λh=>∃u,h.get? ea=some u))) s:=by
 have N:X.env.locals≠ea:=λz=>by
  obtain⟨m,⟨O,Z,ep,A,B,_⟩,_⟩:=I.loc;rw[z,l]at A;cases A;rw[G]at B;cases B
 have P:∀x c,X.env.cells.lookup x=some c->c≠ea:=λx c q z=>by
  obtain⟨v,O,A,B⟩:=I.cell x c q;rw[z,l]at A;cases A;rw[G]at B;cases B
 refine⟨I.ok,I.os,I.bare,⟨I.base.keep,I.base.slot,λb u q n Q=>?_,I.base.there,λb C q=>?_,λb u C q=>?_,λb R q=>?_⟩,I.loc,I.cell,?_,λx c q=>?_,λp J=>?_,λb u q=>?_,I.len⟩
 ·rw[BC λz=>by rw[z,E.1]at q;cases q]
  exact I.base.free b u q n Q
 ·have:=I.base.tups b C q
  rw[BC (Bl this g)];exact this
 ·have:=I.base.frzs b u C q
  rw[BC (Bl this g)];exact this
 ·obtain⟨more,this⟩:=I.base.tbls b R q
  exact⟨more,by rw[BC (Bl this g)];exact this⟩
 ·rw[BC N];exact I.free
 ·rw[BC (P x c q)];exact I.freeC x c q
 ·obtain⟨S,T,U⟩:=I.pin p J
  exact⟨S,by rw[BC (E.2 p (by rwa [Bt]at J))];exact T,U⟩
 ·by_cases hb:b=ea
  ·subst hb
   rw[BV]at q;cases q;exact⟨l,⟨o,l⟩,⟨o,l⟩,λh1 h2 ⟨u,Y⟩ k=>⟨u,k u Y⟩⟩
  ·rw[BC hb]at q
   exact(I.hok b u q).stay (λ_ _ _ z=>z) (λc z=>by rw[BC (Bl z g)];exact z) λc C z=>by rw[BC (Bl z g)];exact z
structure ZK(K:AE)(C G:AR):Prop where
 ty:dI K (.ref G)=some (.type "type")
 cl:(Gg K G).isSome=true
 ba:SJ K (.ref G) (.type "BaseException")=some true
 su:SJ K (.ref C) (.ref G)=some true
theorem Ym{K}{C G g}{l}{M}{A}{E}{Q}{s}(c:ZK K C G)(X:K.In s.heap)(m:s.heap.get? g=some l)(o:l.cls=.ref C)(q:Q true s) :
  AZ M A (excMatches (.ref g) (.ref G)) Q E s:=by
 have B:Gh M s.heap (isInstance (.ref G) (.type "tuple")) false:=PySem.W.looks_instIn X (by unfold PySem.W.instIn;rw[c.ty];show SJ K (.type "type") (.type "tuple")=some false;kernel_rfl);have L2:Gh M s.heap (Oq (.ref G) (.type "BaseException")) true:=Xb X c.ba;have H:Gh M s.heap (Oq (.ref C) (.ref G)) true:=Xb X c.su
 have L4:Gh M s.heap (isType (.ref G)) true:=by
  have z:=c.cl;unfold Gg at z;split at z
  ·rename_i I
   intro L N O P k q;unfold isType loadHead;exact AA (Xl (k _ _ (X _ _ I)) (AC q))
  ·cases z
 have J:Gh M s.heap (typeOf (.ref g)) (.ref C):=o▸(qm m).andThen .now;unfold excMatches isExcClass;refine AA (B.at ?_);rw[qY Af];refine AA (AC ?_);refine AA ?_;rw[KY];refine AA (AA (AA (L4.at ?_)));rw[qX rfl];refine L2.at ?_;refine AC ?_;dsimp only;rw[Lp];refine AC (AA (J.at (AA ?_)));rw[KY];refine AA (AA (H.at ?_));rw[qX rfl];exact AC (AC (AC q))
def JO(n:Nat)(ds:List D):Lo:=ds.map some++BF (n - ds.length) none
theorem YH{K}{ρ}{H}{N}{ds}{vs}(r:Ao K ρ H ds vs):E8 K ρ H (JO N.length ds) (start N vs):=by
 refine⟨by simp[JO,start,r.length],λi d q=>?_⟩;unfold JO at q;unfold start
 by_cases g:i < ds.length
 ·rw[AM (by simpa using g),Ak]at q
  rw[AM (by rw[AT,<-r.length];exact g),Ak]
  cases e:ds[i]? with
  | none=>rw[e]at q;cases q
  | some o=>
   rw[e]at q;cases q;obtain⟨v,l,m⟩:=r.get e;exact⟨v,by rw[l];rfl,m⟩
 ·rw[Aj (by simpa using g),DC]at q
  split at q <;> cases q
def CO(n:Nat)(l:MS)(ds:List D)(S:Sto):Res D:=(okR (l (JO n ds) S)).bind λf g=>match f with
 | .rt d=>.ok d g
 | .nx _=>.ok .non g
 | .ex c _=>.err c g
 | _=>.bad
section
variable{P:BJ}{w:Bs}{K:AE}{mg:Str->Option AG}{base:Bu}
theorem pQ{x o}{st}{f}{fd}{N ps}{k n}(F:Fun K x o st f fd)(Sc:Aw N ps (Ah st))(hn:ps.length=n){mb}
  (vF:∀(U:AG) (A:BX) (m:List Env) (s:AK) (H:Hp) (E:XK),GD k (A.deeper (MM o (Ah st) s.heap.objs.size f U))->∀pn E',GSs ((VD (CXG P w) P w K mg base N o (Ah st) f U A m s H E).w' pn E') E' (F6 st) mb) :
  Bm P w K mg base (CXG P w) (k+1) f fd ps (spM K n (CO N.length mb)):=by
 obtain⟨oc,od,kV,doc,pm,an,U,ct,wb,rfl,lk,vE⟩:=F.ex
 refine tQ lk vE Sc (λvs H Q E h=>by rw[hn];exact h.len) λA m s H vs Q E X h=>?_
 obtain⟨ρ,ds,S,h1,h2,h3,B⟩:=h;have O:JA (VD (CXG P w) P w K mg base N o (Ah st) f U A m s H E):=⟨rfl,rfl,rfl⟩;have hb:=vF U A m s H E X [] (λc _ G=>E (.ref c) none G);refine⟨gS K (λc _ G=>E (.ref c) none G) mb,λζ Y σ G D I q=>Ci (hb ζ Y σ G D (I.with _) q) (λZ s1 z=>?_) λe s1 z=>?_,ρ,_,S,YH h2,h3,?_⟩
 ·cases Z with
  | next=>obtain⟨g,L,J,z⟩:=z;exact⟨g,L,J.without,z⟩
  | brk=>obtain⟨g,L,J,z⟩:=z;exact⟨g,L,J.without,z⟩
  | cont=>obtain⟨g,L,J,z⟩:=z;exact⟨g,L,J.without,z⟩
  | ret u=>obtain⟨v,g,L,J,r,z⟩:=z;exact⟨v,g,L,J.without,r,z⟩
 ·refine XE.leave O z λea C g L s2 e1 J x w=>⟨ea,C,L,e1,J.os,J.bare,J.base,J.hok,?_,w⟩
  obtain⟨n1,n2,oe,xU,a0,g1,g2,g3,g4,g5⟩:=x;refine⟨n1,n2.1,oe,xU,a0,g1,g2,g3,g4,?_⟩
  rcases g5 with z | ⟨T,oT,ts,Z,hf,h1,ne,m1,m2,r⟩
  ·exact .inl z
  ·exact .inr ⟨T,oT,ts,Z,hf,h1,ne,m1,m2.1,r⟩
 ·unfold CO at B
  cases X:mb (JO N.length ds) S with
  | bad=>rw[X]at B;exact B.elim
  | err c S'=>rw[X]at B;exact B.elim
  | ok Z S'=>
   rw[X]at B
   cases Z with
   | nx e'=>exact λR G g l Y r=>B R G .non l Y .non
   | rt d=>exact B
   | bk e'=>exact B.elim
   | ct e'=>exact B.elim
   | ex c e'=>exact λR G g l Y r=>B R G l Y
end
section
variable{X:Cx}
noncomputable def intOp(C:Int->Int->Prop)[∀i j,Decidable (C i j)](g:Int->Int->D):D->D->Sto->Res D
 | .int i,.int j,S=>if C i j then .ok (g i j) S else .bad
 | _,_,_=>.bad
theorem fu[∀i j,Decidable (C i j)](h:intOp C g a b S=.ok d l):∃i j,a=.int i/\b=.int j/\C i j/\d=g i j/\l=S:=by
 unfold intOp at h;split at h
 ·split at h
  ·rename_i i j _ m
   cases h;exact⟨_,_,rfl,rfl,m,rfl,rfl⟩
  ·cases h
 ·cases h
theorem OW[∀i j,Decidable (C i j)](l:∀ρ H i j,Bf X.K ρ H (g i j) (v i j))(h:OpR X f (rI C v)):OpR X f (rD X.K (intOp C g)):=h.imp<|by
 rintro x y H Q ⟨ρ,S,a,b,d,E,m,o,s,A,k⟩
 obtain⟨i,j,rfl,rfl,B,rfl,rfl⟩:=fu A;cases o;cases s;exact⟨i,j,rfl,rfl,B,k ρ H _ .refl m (l _ _ _ _)⟩
theorem LH(l:∀ρ H i j,Bf X.K ρ H (g i j) (v i j))(h:OpR X f (rI0 v)):OpR X f (rD X.K (intOp (λ_ _=>True) g)):=
 OW l (h.imp λx y H Q ⟨i,j,m,o,_,q⟩=>⟨i,j,m,o,q⟩)
instance(i j:Int):Decidable (lK i j):=inferInstanceAs (Decidable (_/\_))
instance(i j:Int):Decidable (qD i j):=inferInstanceAs (Decidable (_/\_/\_))
instance(i j:Int):Decidable (iA i j):=inferInstanceAs (Decidable (_∨_))
abbrev az:=intOp (λ_ _=>True) λi j=>.int (i - j)
abbrev sd:=intOp iA λi j=>.int (i * j)
abbrev Tr:=intOp lK λi j=>.int (i / j)
abbrev Wr:=intOp (λ_ j=>0 < j) λi j=>.int (i % j)
abbrev ltD:=intOp (λ_ _=>True) λi j=>.bl (decide (i < j))
abbrev leD:=intOp (λ_ _=>True) λi j=>.bl (decide (i<=j))
abbrev gtD:=intOp (λ_ _=>True) λi j=>.bl (decide (j < i))
abbrev geD:=intOp (λ_ _=>True) λi j=>.bl (decide (j<=i))
theorem RA:OpR X (Cd .Sub) (rD X.K az):=LH (λ_ _ _ _=>.int _) oE
theorem oS:OpR X (Cd .Mult) (rD X.K sd):=OW (λ_ _ _ _=>.int _) oH
theorem Uy:OpR X (Cd .FloorDiv) (rD X.K Tr):=OW (λ_ _ _ _=>.int _) j7
theorem Ux:OpR X (Cd .Mod) (rD X.K Wr):=OW (λ_ _ _ _=>.int _) oI
theorem O5:OpR X (BH .Lt) (rD X.K ltD):=LH (λ_ _ _ _=>.bl _) sP
theorem L6:OpR X (BH .LtE) (rD X.K leD):=LH (λ_ _ _ _=>.bl _) sQ
theorem Wl:OpR X (BH .Gt) (rD X.K gtD):=LH (λ_ _ _ _=>.bl _) sS
theorem ln:OpR X (BH .GtE) (rD X.K geD):=LH (λ_ _ _ _=>.bl _) sT
noncomputable def Hz:D->D->Sto->Res D
 | .int i,.int j,S=>.ok (.int (i+j)) S
 | .tup g,.tup m,S=>if g.length+m.length<=sizeLine then .ok (.tup (g++m)) S else .bad
 | .ref l,.ref b,S=>match S[l]?,S[b]? with
  | some (.lst g),some (.lst m)=>if g.length+m.length<=sizeLine then .ok (.ref S.length) (S++[.lst (g++m)])else .bad
  | _,_=>.bad
 | _,_,_=>.bad
def rq(K:AE):R2:=λx y H Q=>∃a b g l,x=.ref a/\y=.ref b/\H a=some (.tup g)/\H b=some (.tup l)/\g.length+l.length<=sizeLine /\
 (g=[]->Q (.ref b) H)/\(l=[]->Q (.ref a) H)/\(∀p,H p=none->Q (.ref p) (upd H p (.tup (g++l))))
theorem j9:OpR X (Cd .Add) (rq X.K):=by
 intro G s J H x y v u Q I L N h;obtain⟨a,b,m,O,rfl,rfl,o,hb,P,R,S,T⟩:=h;cases L;cases N;obtain⟨U,Y,Z,_⟩:=I.tuple (.inl (.inl o));obtain⟨uO,r2,p2,_⟩:=I.tuple (.inl (.inl hb))
 by_cases l:m=[]
 ·obtain⟨⟨cls,dd,data,sl⟩,A,B,n,C⟩:=id Z
  obtain⟨⟨E,xm,data2,xn⟩,g,hc2,n2,hd2⟩:=id p2;simp only at B C hc2 hd2;subst B C hc2 hd2;have hi:=Y.nil_iff.mpr l
  exact dE ⟨_,A,rfl⟩ ⟨_,g,rfl⟩ T5 aa JH Ij (IL _ _)
   (tuple_addW0 a b U.toArray uO.toArray n n2 dd xm sl xn (by simp[hi])) ⟨A,g,⟨.ref b,H,I,rfl,R l⟩⟩
 ·exact j8 G s J H (.ref a) (.ref b) _ _ Q I rfl rfl ⟨a,b,m,O,rfl,rfl,.inl (.inl o),.inl (.inl hb),l,P,S,λ_ p hp=>T p hp⟩
theorem Ao.nil_of{K}{ρ}{H}{xs}{vs}(r:Ao K ρ H xs vs)(e:vs=[]):xs=[]:=by
 subst e;cases r;rfl
theorem FR:OpR X (Cd .Add) (rD X.K Hz):=(oP.or (j9.or oM)).imp<|by
 rintro x y H Q ⟨s,S,a,b,d,S',l,Z,I,g,k⟩
 cases Z with
 | int i=>
  cases I <;> first | (cases g;done) | skip
  cases g;exact .inl ⟨_,_,rfl,rfl,k s H _ .refl l (.int _)⟩
 | @tup O a1 P B A=>
  cases I with
  | @tup R b1 ws T C=>
   unfold Hz at g;dsimp only at g;split at g
   ·rename_i J
    cases g;refine .inr (.inl ⟨_,_,_,_,rfl,rfl,B,T,by rw[<-A.length,<-C.length];exact J,λe=>?_,λe=>?_,λp E=>?_⟩)
    ·rw[A.nil_of e,List.nil_append]at k
     exact k s H _ .refl l (.tup T C)
    ·rw[C.nil_of e,Bt]at k
     exact k s H _ .refl l (.tup B A)
    ·obtain⟨L,G⟩:=Fn l E
     exact k s _ _ G L (.tup BV ((A.append C).mono G))
   ·cases g
  | _=>cases g
 | @ref n a1 hn=>
  cases I with
  | @ref m b1 vL=>
   unfold Hz at g;dsimp only at g;split at g
   ·rename_i O R B A
    split at g
    ·rename_i J
     cases g;obtain⟨P,e1,U⟩:=l.ob _ _ _ B hn;obtain⟨us,e2,Y⟩:=l.ob _ _ _ A vL;refine .inr (.inr ⟨_,_,_,_,rfl,rfl,e1,e2,by rw[<-U.length,<-Y.length];exact J,λp E=>?_⟩);have le:Le X.K s H (s++[p]) (upd H p (.lst (P++us))):=Le.alloc E;obtain⟨L,G,N⟩:=l.alloc (o:=.lst (O++R)) E ⟨_,BV,(U.append Y).mono le⟩;exact k _ _ _ G L (.ref N)
    ·cases g
   ·cases g
  | _=>cases g
 | _=>cases g
def ixD:D->D->Sto->Res D:=λa b S=>match HN a S,b with
 | some g,.int i=>match atI g i with
  | some d=>.ok d S
  | none=>.bad
 | _,_=>.bad
theorem lB{K}{ρ}{H}{ds}{vs}{i}{d}(r:Ao K ρ H ds vs)(h:atI ds i=some d):∃v,atI vs i=some v/\Bf K ρ H d v:=by
 unfold atI at h ⊢;rw[<-r.length]
 cases g:ixN ds.length i with
 | none=>rw[g]at h;cases h
 | some j=>
  rw[g]at h;exact r.get h
theorem sX:IxR X (rD X.K ixD):=(ix_list.or oj).imp<|by
 rintro x y H Q ⟨m,S,a,b,d,J,l,B,C,g,k⟩
 unfold ixD at g;split at g
 ·rename_i L i E
  split at g
  ·rename_i N G
   cases g;cases C;obtain⟨p,o,rfl,I,sq⟩:=NI l B E;obtain⟨v,s,A⟩:=lB I G
   rcases sq with sq | sq
   ·exact .inl ⟨p,o,_,v,rfl,rfl,sq,s,k m H v .refl l A⟩
   ·exact .inr ⟨p,o,_,v,rfl,rfl,sq,s,k m H v .refl l A⟩
  ·cases g
 ·cases g
def U2(neg:Bool)(x y:D)(S:Sto):Res D:=match y with
 | .non=>match x with
  | .non=>.ok (.bl (!neg)) S
  | _=>.ok (.bl neg) S
 | _=>.bad
theorem RB:OpR X (BH .Is) (rD X.K (U2 false)):=oK.imp<|by
 rintro x y H Q ⟨l,S,a,b,d,A,m,o,s,g,k⟩
 cases s <;> first | (cases g;done) | skip
 refine⟨rfl,?_⟩
 cases o <;> (cases g;exact k l H _ .refl m (.bl _))
theorem Z1:OpR X (BH .IsNot) (rD X.K (U2 true)):=jz.imp<|by
 rintro x y H Q ⟨l,S,a,b,d,A,m,o,s,g,k⟩
 cases s <;> first | (cases g;done) | skip
 refine⟨rfl,?_⟩
 cases o <;> (cases g;exact k l H _ .refl m (.bl _))
end
def mQ(f:List D->Sto->Res D)(m:ML):ME:=λe S=>(m e S).bind λg l=>okR (f g l)
section
variable{X:Cx}{E:EW}{e:Expr}{es:List Expr}{x:Str}{p pos:Pos}{ml:ML}{id:String}{r:List V->Hp->VK->Prop}{f:List D->Sto->Res D}
def lH(K:AE)(r:List V->Hp->VK->Prop)(f:List D->Sto->Res D):Prop:=∀m H S s q o d A (Q:VK),Bz K m S H->Ao K m H s o->(SqL K H q o∨SqT K H q o)->f s S=.ok d A ->
 (∀g l z,Le K m H g l->Bz K g A l->Bf K g l d z->Q z l)->r [.ref q] H Q
def qF(K:AE)(r:List V->Hp->VK->Prop)(f:List D->Sto->Res D):Prop:=∀m H S o s d A (Q:VK),Bz K m S H->Ao K m H o s->f o S=.ok d A ->
 (∀g l z,Le K m H g l->Bz K g A l->Bf K g l d z->Q z l)->r s H Q
theorem U5(A:HE X (.builtin id) r)(B:lH X.K r f)(C:Gl X x)(g:X.mg x=none)(G:Ff x=some (.builtin id))(h:GQ X E e ml)(I:x≠"__name__":=by decide) (J:(x==("__debug__" : Str))=false:=by decide)
  (s:AO [e] X.env=(false,BQ e X.env) :: AO [] X.env:=by rfl):GE X E (.Call (.Name x p) [e] [] pos) (mQ f ml):=(Im A C g G (De h E5 s) I J s rfl).imp<|by
 rintro σ H Q ⟨L,l,S,N,O,g⟩
 refine⟨L,l,S,N,O,g.seq λP R g m T q U Y Z r1 sq=>?_⟩;obtain⟨d,S',e,k⟩:=g.okR
 exact B m T R P q U d S' Q Z r1 sq e λo H' z l' s' r'=>k o H' z (Y.trans l') s' r'
theorem aF(s:HE X (.builtin id) r)(A:qF X.K r f)(B:Gl X x)(g:X.mg x=none)(C:Ff x=some (.builtin id))(h:GA X E (e :: es) ml)(G:x≠"__name__":=by decide) (I:(x==("__debug__" : Str))=false:=by decide)
  (J:AO (e :: es) X.env=(false,BQ e X.env) :: AO es X.env:=by rfl) (L:(CT pos (AO es X.env)).any (·.1)=false:=by rfl):GE X E (.Call (.Name x p) (e :: es) [] pos) (mQ f ml):=(Im s B g C h G I J L).imp<|by
 rintro σ H Q ⟨N,l,S,O,P,g⟩
 refine⟨N,l,S,O,P,g.seq λR T g m U Y Z s1 r1=>?_⟩;obtain⟨d,S',e,k⟩:=g.okR
 exact A m U T R Y d S' Q s1 r1 e λo H' z l' s' r'=>k o H' z (Z.trans l') s' r'
def sj(ds:List D)(S:Sto):Res D:=.ok (.int ds.length) S
theorem nK:lH X.K (λxs H Q=>∃p g,xs=[.ref p]/\(SqL X.K H p g∨SqT X.K H p g)/\Q (.int g.length) H) sj:=λl H S A q xs d B Q m o sq s k=>by
 cases s;exact⟨q,xs,rfl,sq,k l H _ .refl m (by rw[o.length];exact .int _)⟩
def Z5:List D->Sto->Res D
 | [.int i,.int j],S=>.ok (.int (if j < i then j else i)) S
 | _,_=>.bad
def Z6:List D->Sto->Res D
 | [.int i,.int j],S=>.ok (.int (if j > i then j else i)) S
 | _,_=>.bad
theorem lF:qF X.K (λxs H Q=>∃i j,xs=[.int i,.int j]/\Q (.int (if j < i then j else i)) H) Z5:=λl H S s xs d A Q m o g k=>by
 unfold Z5 at g;split at g
 ·cases g
  cases o with
  | cons a t=>
   cases t with
   | cons b t=>
    cases t;cases a;cases b;exact⟨_,_,rfl,k l H _ .refl m (.int _)⟩
 ·cases g
theorem lG:qF X.K (λxs H Q=>∃i j,xs=[.int i,.int j]/\Q (.int (if j > i then j else i)) H) Z6:=λl H S s xs d A Q m o g k=>by
 unfold Z6 at g;split at g
 ·cases g
  cases o with
  | cons a t=>
   cases t with
   | cons b t=>
    cases t;cases a;cases b;exact⟨_,_,rfl,k l H _ .refl m (.int _)⟩
 ·cases g
end
noncomputable def Ds(X:Cx)(scope:SH)(N':List Str)(m:List (Str×AR))(C:AR)(g:AK)(l:Hp)(ex:List AR)(pn:List (AR×Obj)):Cx where
 prog:=X.prog
 w:=X.w
 K:=X.K
 mg:=X.mg
 base:=X.base
 A:=X.A
 N:=N'
 s₀:=g
 H₀:=l
 env:=compEnvC scope m C X.env
 outer:=X.stack
 stack:=X.stack
 ex:=ex
 fn:=λx=>scope.names.lookup x==some .cell
 calm:=X.calm
 pn:=pn
 xe:=λ_ _=>False
theorem VM:∀(names:List (Str×OD)) (g:List (Str×AR)),(∀y∈names,y.2=.free->∃c,o.cells.lookup y.1=some c)->(∀n c,g.lookup n=some c->o.cells.lookup n=some c) ->
  ∃s,(forIn names g (λ(x:Str×OD) (L:List (Str×AR))=>match x with | (name,kind)=>if (kind==FC)=true then do let a <-cellOf o name;pure (Gr ((name,a) :: L))else pure (Gr L)):Sem (List (Str×AR)))=pure s /\
   (∀n c,s.lookup n=some c->o.cells.lookup n=some c)/\(∀n c,g.lookup n=some c->∃O,s.lookup n=some O)/\∀y∈names,y.2=.free->∃c,s.lookup y.1=some c
 | [],g,_,B=>⟨g,rfl,B,λn c h=>⟨c,h⟩,λ_ h=>nomatch h⟩
 | (n,k) :: r,g,h,B=>by
  rw[KY]
  by_cases H:k=.free
  ·subst H
   obtain⟨c,N⟩:=h (n,.free) Am rfl
   obtain⟨s,e,I,C,J⟩:=VM r ((n,c) :: g) (λy l=>h y (Ab _ l)) (λm d A=>by
    rw[CQ]at A
    cases E:(m==n)with
    | true=>rw[E]at A;cases A;rw[eq_of_beq E];exact N
    | false=>rw[E]at A;exact B m d A)
   have P:cellOf o n=pure c:=by unfold cellOf;rw[N]
   refine⟨s,?_,I,λm d A=>C m (if m==n then c else d) ?_,λy l G=>?_⟩
   ·simp only[beq_self_eq_true,if_true,P,pure_bind]
    exact e
   ·rw[CQ]
    cases E:(m==n)with
    | true=>rfl
    | false=>exact A
   ·rcases Ax.mp l with rfl | l
    ·exact C n c (by rw[CQ,beq_self_eq_true])
    ·exact J y l G
  ·have hb:(k==FC)=false:=by simpa using H
   obtain⟨s,e,I,C,J⟩:=VM r g (λy l=>h y (Ab _ l)) B;refine⟨s,?_,I,C,λy l G=>?_⟩
   ·simp only[hb,C3,if_false,pure_bind]
    exact e
   ·rcases Ax.mp l with rfl | l
    ·exact(H G).elim
    ·exact J y l G
theorem aQ(h:∀y∈scope.names,y.2=.free->∃c,g.cells.lookup y.1=some c):∃l,closureFor scope g=pure l /\
  (∀n c,l.lookup n=some c->g.cells.lookup n=some c)/\∀y∈scope.names,y.2=.free->∃c,l.lookup y.1=some c:=by
 obtain⟨l,e,m,_,o⟩:=VM scope.names [] h (λn c z=>by simp at z);refine⟨l,?_,m,o⟩;unfold closureFor;exact(congrArg (λz=>z >>= λs=>pure s) e).trans (by rw[pure_bind])
def ZH(X:Cx)(g:List Expr)(t:TT):Prop:=
 ∀(m:List (AR×Obj)) (s:AK) (l:St) (H:Hp) (Q:Bool->Hp->Prop),Inv X m l H s->t l H Q ->
  AZ (AU X.prog X.w) X.A (forIn g true λc r=>if r=true then do let ok <-Xq c X.env (BQ c X.env);pure (Gr ok)else pure (Gr r)) (TP X m l Q) X.xe s
theorem et:ZH X [] (λ_ H Q=>Q true H):=λg s l H Q I h=>wpAny_tests_nil ⟨H,I,h⟩
theorem en(h:PT X c t):ZH X [c] t:=λg s l H Q I q=>wpAny_tests_one (h g s l H Q I q)
structure M2(X:Cx)(scope:SH)(own N':List Str):Prop where
 kind:scope.kind=.function
 names:∀y∈scope.names,y.2=.local->scope.names.lookup y.1=some .local
 free:∀y∈scope.names,y.2=.free->X.env.kindOf y.1=some .cell∨X.env.kindOf y.1=some .free
 len:N'.length=own.length+X.N.length
 up:∀i x,N'[own.length+i]?=some x->Vis (Ig scope X.env) x->(X.N[i]?=some x/\Vis X.env.scope x/\((Ig scope X.env).names.lookup x=some .cell∨(Ig scope X.env).names.lookup x=some .free)/\X.env.kindOf x≠some .local)/\(x,Cg)∉scope.names/\(x,FC)∈scope.names
 vis:∀x,((Ig scope X.env).names.lookup x=some .cell∨(Ig scope X.env).names.lookup x=some .free)->(x,FC)∈scope.names∨(x,Cg)∈scope.names
theorem Ex:∀(names:List (Str×OD)) (n:Nat) (l:List (Str×AR)) (x:Str) (c:AR),(B7 n names l).lookup x=some c ->
  ((x,Cg)∈names/\n<=c)∨l.lookup x=some c
 | [],_,_,_,_,h=>.inr h
 | (y,k) :: r,n,l,x,c,h=>by
  unfold B7 at h;split at h
  ·rename_i m
   have m:k=.cell:=by simpa using m
   subst m
   rcases Ex r (n+1) _ x c h with⟨g,o⟩ | g
   ·exact .inl ⟨Ab _ g,PV o⟩
   ·rw[CQ]at g
    cases hb:x==y with
    | true=>rw[hb]at g;cases g;rw[beq_iff_eq.mp hb];exact .inl ⟨Am,AN _⟩
    | false=>rw[hb]at g;exact .inr g
  ·rcases Ex r n l x c h with⟨g,o⟩ | g
   ·exact .inl ⟨Ab _ g,o⟩
   ·exact .inr g
theorem C4:∀(names:List (Str×OD)) (n:Nat) (g:List (Str×AR)) (x:Str),(∃c,g.lookup x=some c)->∃c,(B7 n names g).lookup x=some c
 | [],_,_,_,h=>h
 | (y,k) :: r,n,g,x,h=>by
  unfold B7;split
  ·refine C4 r (n+1) _ x ?_
   rw[CQ]
   cases hb:x==y with
   | true=>exact⟨_,rfl⟩
   | false=>exact h
  ·exact C4 r n g x h
theorem Df:∀(names:List (Str×OD)) (n:Nat) (g:List (Str×AR)) (x:Str),(x,Cg)∈names->∃c,(B7 n names g).lookup x=some c/\n<=c
 | (y,k) :: r,n,g,x,h=>by
  unfold B7
  by_cases m:(x,Cg)∈r
  ·split
   ·obtain⟨c,l,s⟩:=Df r (n+1) ((y,n) :: g) x m
    exact⟨c,l,PV s⟩
   ·exact Df r n g x m
  ·rcases Ax.mp h with e | e
   ·cases e
    rw[qX (show(Cg==Cg)=true from rfl)];obtain⟨c,o⟩:=C4 r (n+1) ((y,n) :: g) y ⟨n,by rw[CQ,beq_self_eq_true]⟩
    rcases Ex r (n+1) _ y c o with⟨l,_⟩ | l
    ·exact(m l).elim
    ·rw[CQ,beq_self_eq_true]at l
     cases l;exact⟨n,o,AN _⟩
   ·exact(m e).elim
theorem Lg(o:(x,Cg)∉names)(h:g.lookup x=some c):(B7 n names g).lookup x=some c:=by
 obtain⟨s,m⟩:=C4 names n g x ⟨c,h⟩
 rcases Ex names n g x s m with⟨l,_⟩ | l
 ·exact(o l).elim
 ·rw[h]at l;cases l;exact m
theorem IZ:∀(names:List (Str×OD)) (n:Nat) (g:List (Str×AR)),(∀x c,g.lookup x=some c->c < n)->(∀x y c,g.lookup x=some c->g.lookup y=some c->x=y) ->
  ∀x y c,(B7 n names g).lookup x=some c->(B7 n names g).lookup y=some c->x=y
 | [],_,_,_,h=>h
 | (z,k) :: r,n,g,m,h=>by
  unfold B7;split
  ·have l:∀x c,((z,n) :: g).lookup x=some c->(x=z/\c=n)∨g.lookup x=some c:=λx c q=>by
    rw[CQ]at q
    cases hb:x==z with
    | true=>rw[hb]at q;cases q;exact .inl ⟨beq_iff_eq.mp hb,rfl⟩
    | false=>rw[hb]at q;exact .inr q
   refine IZ r (n+1) _ (λx c q=>?_) λx y c A B=>?_
   ·rcases l x c q with⟨_,rfl⟩ | e
    ·exact Bx _
    ·exact CD (m x c e)
   ·rcases l x c A with⟨e,C⟩ | e <;> rcases l y c B with⟨o,s⟩ | o
    ·rw[e,o]
    ·subst C;exact zX (m _ _ o) (CN _)
    ·subst s;exact zX (m _ _ e) (CN _)
    ·exact h x y c e o
  ·exact IZ r n g m h
theorem IY:∀(names:List (Str×OD)) (h:Bu) (g:List (Str×AR)) (x:Str) (c:AR),(B7 h.objs.size names g).lookup x=some c->g.lookup x=some c∨((Fd h names).IsCell c none/\h.objs.size<=c)
 | [],_,_,_,_,q=>.inl q
 | (y,k) :: r,h,g,x,c,q=>by
  unfold B7 at q;unfold Fd;split at q
  ·rename_i m
   rw[qX m];have:=IY r (h.push { cls:=.type "cell",data:=.cell none }) ((y,h.objs.size) :: g) x c (by rw[A9];exact q)
   rcases this with e | ⟨e,l⟩
   ·rw[CQ]at e
    cases hb:x==y with
    | true=>
     rw[hb]at e;cases e;exact .inr ⟨⟨_,Vv _ _ _ _ (AJ _ rfl),rfl⟩,AN _⟩
    | false=>rw[hb]at e;exact .inl e
   ·exact .inr ⟨e,by rw[A9]at l;exact PV l⟩
  ·rename_i m
   rw[qY m];exact IY r h g x c q
theorem X5
  (h:Q (newEnv scope s.heap.objs.size globals (B7 (s.heap.push { cls:=.type "dict",data:=.dict #[] }).objs.size scope.names C) l none .none (some g) Xr) { s with heap:=Fd (s.heap.push { cls:=.type "dict",data:=.dict #[] }) scope.names }) :
  AZ M A (Xp scope globals C [] l none .none (some g)) Q E s:=by
 simp only[Xp,ZR,if_true];refine AA (wpAny_alloc ?_);refine AA (wpAny_layCells _ (λB m cells=>by cases o:m==Cg <;> simp[o]) _ _ _ _ ?_);rw[Lp];exact AA (AC (AC h))
section
theorem Y4(O:M2 X scope own N')(I:Inv X ζ R P B)(E:∀b∈fp,M1 X ζ P b)(xV:∀b∈fp,b < B.heap.objs.size)
  (g:∀n c,A.lookup n=some c->X.env.cells.lookup n=some c) (c2:∀y∈scope.names,y.2=.free->∃c,A.lookup y.1=some c)
  (S:B.heap.objs.size<=n) (T:∀x c,(B7 n scope.names A).lookup x=some c->A.lookup x=some c∨(s.heap.IsCell c none/\n<=c)) (zW:∀c,n<=c->H c=none)
  (U:B.heap.objs.size<=C) (hn:s.heap.Ns C m) (xH:s.os=B.os) (hg:Ht s.gens)
  (u:Un (frs X.stack) fp P H B.heap s.heap) (Y:HOk X.prog X.w H s.heap) (xq:H C=none) :
  Inv (Ds X scope N' (B7 n scope.names A) C B P fp (X.pn++ζ)) [] (BF own.length none++R) H s:=by
 have l:∀x c v,A.lookup x=some c->B.heap.IsCell c v->s.heap.IsCell c v:=by
  rintro x c v e ⟨o,Z,hd⟩
  obtain⟨sl,q⟩:=u.any Z (I.freeC x c (g x c e)) λz=>(E c z).2.2.2.2.1 x c (g x c e) rfl
  exact⟨_,q,hd⟩
 have clt:∀x c,A.lookup x=some c->c < n:=λx c e=>by
  obtain⟨v,z⟩:=I.cell x c (g x c e);exact Aa z.lt S
 have ok':(Ds X scope N' (B7 n scope.names A) C B P fp (X.pn++ζ)).Ok:=by
  refine⟨I.ok.mod,O.kind,I.ok.glob,I.ok.blt,U,IZ _ _ _ clt λx y c h1 h2=>I.ok.inj x y c (g x c h1) (g y c h2),λx hx=>?_,λx c z q=>?_,I.ok.hd,I.ok.frames,.inl rfl,λb hb=>?_,I.bs,Ap I.ok.bsz I.sz,λb o e hb=>?_,λb hb hb'=>?_,I.stack,I.stkFree⟩
  ·rcases O.vis x hx with h | h
   ·exact C4 _ _ _ _ (c2 _ h rfl)
   ·obtain⟨c,hc,_⟩:=Df scope.names n A x h
    exact⟨c,hc⟩
  ·have z:=z
   obtain⟨c',G,hl⟩:=Df scope.names n A x (DI (beq_iff_eq.mp z));have q:(B7 n scope.names A).lookup x=some c:=q;rw[G]at q;cases q;exact Ap S hl
  ·refine⟨Ae (Aa (xV b hb) U),λx c e=>?_⟩
   rcases T x c e with e | ⟨_,e⟩
   ·exact(E b hb).2.2.2.2.1 x c (g x c e)
   ·exact DO (Aa (xV b hb) (Ap S e))
  ·obtain⟨_,_,_,z,_⟩:=E b hb
   rcases z with z | z
   ·exact I.ok.noex b o e z
   ·exact zX (Aa (AS (I.ok.bs b o e).1) z) (CN _)
  ·obtain⟨_,z1,z2,_⟩:=E b hb
   rcases Ax.mp (I.stkSub b hb')with e | e
   ·exact z1 e
   ·exact z2 e
 refine⟨ok',xH,hg,u,⟨m,hn,λi x v e1 Q e3=>?_⟩,λx c e=>?_,xq,λx c e=>?_,λp hp=>?_,Y,?_⟩
 ·have hi:own.length<=i:=by
   apply QV
   intro uf;rw[AM (by simpa using uf),DC,qX uf]at Q;cases Q
  obtain⟨j,rfl⟩:∃j,i=own.length+j:=⟨i - own.length,by lia⟩
  rw[Aj (by simp)]at Q
  have e2':R[j]?=some (some v):=by simpa using Q
  obtain⟨⟨n1,n2,n3,n4⟩,n5,n6⟩:=O.up j x e1 e3;obtain⟨m0,Ι,hl⟩:=I.loc;obtain⟨w',r,lk⟩:=hl j x v n1 e2' n2;refine⟨w',r,.inr ⟨n3,?_⟩⟩
  rcases lk with⟨k,_⟩ | ⟨_,c,hc,uT⟩
  ·exact(n4 k).elim
  ·obtain⟨c',G⟩:=c2 _ n6 rfl
   have e:=g x c' G;rw[hc]at e;cases e;exact⟨c,Lg n5 G,l x c _ G uT⟩
 ·rcases T x c e with e | ⟨e,_⟩
  ·obtain⟨v,z⟩:=I.cell x c (g x c e)
   exact⟨v,l x c v e z⟩
  ·exact⟨none,e⟩
 ·rcases T x c e with e | ⟨_,e⟩
  ·obtain⟨v,o,Z,hd⟩:=I.cell x c (g x c e)
   exact u.free c o Z (I.freeC x c (g x c e)) λz=>(E c z).2.2.2.2.1 x c (g x c e) rfl
  ·exact zW c e
 ·have J:p∈X.pn++ζ:=by
   have hp:=hp;rwa [Bt]at hp
  obtain⟨e,n,ne,nf,d⟩:=I.pin p J
  have L:p.1∉frs X.stack:=λz=>(Ax.mp (I.stkSub _ z)).elim ne nf
  have N:p.1∉fp:=λz=>(E _ z).2.2.2.2.2 p J rfl
  exact⟨u.keep p.1 p.2 e n L N,u.free p.1 p.2 e n N,Ae (Aa (AS e) U),L,d⟩
 ·show(BF own.length none++R).length=N'.length
  rw[Ai,LD,I.len,O.len]
def dy(k:Nat)(N:TI)(g:TG)(tc:TT)(te:TE):TE:=λC H Q=>N C H λJ E=>∀p,E p=none->∃W:Nat->Nat->St->Hp->List V->Prop,(∃m,W 0 m (BF k none++C) (upd E p (.lst [])) []) /\
 ∀i m A s o,W i m A s o->s p=some (.lst o)/\((J.stop i s/\Q (.ref p) s)∨(J.go i s/\o.length < sizeLine/\∀x G,J.yld i s x G->g x A G λl O=>tc l O λb I=>
  if b=true then te l I λy L=>L p=some (.lst o)/\∃B,B < m/\W (i+1) B l (upd L p (.lst (o++[y]))) (o++[y])else ∃B,B < m/\W (i+1) B l I o))
theorem cF{X':Cx}{Y ϖ iter:Expr}{Z:List Expr}{pos:Pos}{J:It}{it p:AR}{tn:Nat->Bu->Prop}{g:TG}{tc:TT}{te:TE}{R:mP->AK->Prop}{Q:Hp->Prop}
  (hc:X'.calm=true) (hx:X'.xe=λ_ _=>False) (T:P0 X'.prog X'.w X'.K ϖ J O it tn) (hg:PG X' ϖ g) (wj:ZH X' Z tc) (he:PE X' Y te)
  (W:Nat->Nat->St->Hp->List V->Prop) (turn:∀i m l B xs,W i m l B xs->B p=some (.lst xs)/\((J.stop i B/\Q B)∨(J.go i B/\xs.length < sizeLine/\∀x we,J.yld i B x we->g x l we λH H2=>tc H H2 λb H3=>
   if b=true then te H H3 λy H4=>H4 p=some (.lst xs)/\∃G,G < m/\W (i+1) G H (upd H4 p (.lst (xs++[y]))) (xs++[y])else ∃G,G < m/\W (i+1) G H H3 xs)))
  (fin:∀l B s',Inv X' [] l B s'->Q B->R (.ok .next) s')
  {m0:Nat} {L:St} {H0:Hp} {s0:AK} (I0:Inv X' [] L H0 s0) (st0:tn 0 s0.heap) (f0:∀b∈O,M1 X' [] H0 b) (w0:W 0 m0 L H0 []) :
  FB (AU X'.prog X'.w) X'.A (.compLoop (.ListComp Y [⟨ϖ,iter,Z,0⟩] scope pos) 0 (.ref it) (.ref p) X'.env) R s0:=by
 have vO:∀{B:Hp},(∀b∈O,B b=none)->∀b∈O,M1 X' [] B b:=λhn b hb=>⟨hn b hb,(f0 b hb).2⟩
 refine codeAny_loop rfl (λn s'=>∃i l B xs,Inv X' [] l B s'/\tn i s'.heap/\(∀b∈O,B b=none)/\W i n l B xs) (λn s1 hI=>?_) m0 ⟨0,L,H0,[],I0,st0,λb hb=>(f0 b hb).1,w0⟩;obtain⟨i,C,H1,xs,I1,ug,fr1,w1⟩:=hI;refine wpAny_noted ?_;rw[compTurn_list]
 have up:∀{α:Type} {t:Sem α} {P:α->AK->Prop} {E:AG->AK->Prop} {s:AK},AZ (AU X'.prog X'.w) X'.A t P X'.xe s->AZ (AU X'.prog X'.w) X'.A t P E s:=λh=>Ci h (λ_ _ z=>z) λ_ _ z=>by rw[hx]at z;exact z.elim
 obtain⟨hp,yW⟩:=turn i n C H1 xs w1;refine AA (aW (AA ?_))
 rcases yW with⟨stop,q⟩ | ⟨go,hz,step⟩
 ·refine up (thn (T.done X' rfl rfl rfl hc i [] s1 C H1 X'.xe I1 (vO fr1) ug stop) λr s4 ⟨hr,I4⟩=>?_)
  subst hr;exact AC (fin C H1 s4 I4 q)
 ·refine up (thn (T.item X' rfl rfl rfl hc i [] s1 C H1 X'.xe I1 (vO fr1) ug go) λr s4 ⟨u,hr,h4⟩=>?_)
  subst hr;refine AA (up (thn h4 λ_ s5 ⟨x,H5,I5,r5,y5,wD,fr5⟩=>?_));have V':=I5.pinned (vO fr5) (T.obj _ _ wD);refine AA (up (thn (hg _ s5 C H5 x u _ V' r5 (step x H5 y5)) λ_ s6 ⟨N,H6,I6,q6⟩=>?_))
  have again:∀{S:AK} {I:St} {U:Hp} {ys:List V},Inv X' ([]++Q4 O s5.heap) I U S->(∃G,G < n/\W (i+1) G I U ys)->∃m,m < n/\∃i l B xs,Inv X' [] l B S/\tn i S.heap/\(∀b∈O,B b=none)/\W i m l B xs:=λ{S I U ys} X ⟨G,hm,w7⟩=>by
   refine⟨G,hm,i+1,I,U,ys,X.unpinned,T.keep _ _ _ wD λb hb o e=>(X.pin (b,o) (BG _ (BG _ (Jg hb e)))).1,λb hb=>?_,w7⟩;obtain⟨o,e,d⟩:=T.obj _ _ wD b hb;exact(X.pin (b,o) (BG _ (BG _ (Jg hb e)))).2.1
  refine AA (up (thn (wj _ s6 N H6 _ I6 q6) λok S ⟨U,X,q7⟩=>?_))
  cases ok with
  | false=>
   rw[qY Af]at q7;exact AC ⟨rfl,again X q7⟩
  | true=>
   rw[qX rfl]at q7;refine AA (AA (up (thn (he _ S N U _ X q7) λyv s8 ⟨y,H8,I8,r8,hp8,q8⟩=>?_)));refine AA (up (thn (Tg _ s8 N H8 (.ref p) [y] (.ref p) [yv] (λv H9=>v=.non/\H9=upd H8 p (.lst (xs++[y]))) I8 rfl (.cons r8 .nil) ⟨p,xs,y,rfl,rfl,hp8,hz,rfl,rfl⟩) λv9 s9 ⟨v,H9,I9,r9,e9,e10⟩=>?_));subst e10;exact AC (AC ⟨rfl,again I9 q8⟩)
end
section
theorem Tw(N:Inv X B O E m)(J:Inv (Ds X scope N' cl C m E I (X.pn++B)) [] P s s')(Q:m.heap.objs.size<=C)(R:∀b∈I,M1 X B E b)
  (A:Cr C s'.heap h'):Inv X B O s { s' with heap:=h' }:=by
 have G:∀b o,m.heap.get? b=some o->b≠C:=λb o e=>Ae (Aa (AS e) Q)
 have g:=J.base
 have u:Un (frs X.stack) I E s m.heap h':=by
  refine⟨λb o e n hb l=>(A.2 b (G b o e)).trans (g.keep b o e n hb l),λb o e n hb l=>?_,g.free,λb o e l=>?_,g.tups,g.frzs,g.tbls⟩
  ·obtain⟨sl,q⟩:=g.slot b o e n hb l
   exact⟨sl,(A.2 b (G b o e)).trans q⟩
  ·obtain⟨S,q⟩:=g.there b o e l
   exact⟨S,(A.2 b (G b o e)).trans q⟩
 have L:s C=none:=J.free
 have H:HOk X.prog X.w s h':=λa o e=>(J.hok a o e).stay (λb u hb q=>(A.2 b λz=>by
  subst z
  rcases hb with z | z
  ·subst z;rw[L]at e;cases e
  ·rw[L]at z;cases z).trans q) (λ_ q=>q) λ_ _ q=>q
 exact N.call' (s':={ s' with heap:=h' }) J.os u H J.bare λb hb=>by
  obtain⟨_,T,z2,U,Y,Z⟩:=R b hb;exact⟨U,T,Y,Z⟩
theorem Ri{σ:St}{E:AG->AK->Prop}{Qf:AR->Hp->Prop}{RR:AG->AR->mP->AK->Prop}{it:AR}{J:It}{tn:Nat->Bu->Prop}(hc:X.calm=true)(Sc:M2 X scope own N')
  (hg:∀H C s B ex pn,PG (Ds X scope N' H C s B ex pn) ϖ g) (wj:∀H C s B ex pn,ZH (Ds X scope N' H C s B ex pn) Y tc) (he:∀H C s B ex pn,PE (Ds X scope N' H C s B ex pn) Z te)
  (c1:∀n c,H.lookup n=some c->X.env.cells.lookup n=some c) (c2:∀y∈scope.names,y.2=.free->∃c,H.lookup y.1=some c)
  (S:Inv X ζ σ I s2) (T:P0 X.prog X.w X.K ϖ J U it tn) (u0:tn 0 s2.heap) (f2:∀b∈U,M1 X ζ I b)
  (q2:∀p,I p=none->∃W:Nat->Nat->St->Hp->List V->Prop,(∃m,W 0 m (BF own.length none++σ) (upd I p (.lst [])) []) /\
   ∀i m L N xs,W i m L N xs->N p=some (.lst xs)/\((J.stop i N/\Qf p N)∨(J.go i N/\xs.length < sizeLine/\∀x we,J.yld i N x we->g x L we λO I=>tc O I λb G=>
    if b=true then te O G λy l=>l p=some (.lst xs)/\∃m',m' < m/\W (i+1) m' O (upd l p (.lst (xs++[y]))) (xs++[y])else ∃m',m' < m/\W (i+1) m' O G xs)))
  (hRR:∀D C H L N s',s2.heap.objs.size<=C->Inv (Ds X scope N' H C s2 I U (X.pn++ζ)) [] L N s'->Qf D N->RR (.ref D) C (.ok .next) s') :
  AZ (AU X.prog X.w) X.A (newList []) (λacc s₃=>AZ (AU X.prog X.w) X.A (Xp scope X.env.globals H [] X.env.qual none .none (some X.env)) (λyX s₄=>
   FB (AU X.prog X.w) X.A (.compStart (.ListComp Z [⟨ϖ,iter,Y,0⟩] scope pos) 0 (.ref it) acc { yX with scope:=Ig scope X.env }) (RR acc yX.locals) s₄) E s₃) E s2:=by
 have xV:∀b∈U,b < s2.heap.objs.size:=λb hb=>by
  obtain⟨o,e,_⟩:=T.obj _ _ u0 b hb;exact AS e
 refine A4 (X5 ?_);generalize Q:s2.heap.push { cls:=.type "list",dict:=none,data:=.seq ([]:List AG).toArray }=G;generalize R:G.push { cls:=.type "dict",data:=.dict #[] }=l
 have hC:G.objs.size=s2.heap.objs.size+1:=by rw[<-Q,A9]
 have hC4:l.objs.size=G.objs.size+1:=by rw[<-R,A9]
 have hDC:s2.heap.objs.size≠G.objs.size:=by rw[hC];exact Ae (Bx _)
 have wK:s2.heap.objs.size<=G.objs.size:=by rw[hC];exact EJ _
 have yY:s2.heap.objs.size<=l.objs.size:=by rw[hC4];exact PU wK
 have yZ:∀b o,G.get? b=some o->(Fd l scope.names).get? b=some o:=λb o e=>Vv _ _ _ _ (R▸AB _ e)
 have old:∀b o,s2.heap.get? b=some o->(Fd l scope.names).get? b=some o:=λb o e=>yZ b o (Q▸AB _ e)
 have uk:=yZ _ _ (Q▸AJ _ rfl)
 have Κ:(Fd l scope.names).Ns G.objs.size λ_=>none:=by
  have:=(Bu.Ns.new G (.type "dict")).keeps (Vv scope.names (G.push { cls:=.type "dict",data:=.dict #[] }));rw[R]at this;exact this
 have hD:=S.hok.fresh (AN _);have u:Un (frs X.stack) U I (upd I s2.heap.objs.size (.lst [])) s2.heap (Fd l scope.names):=Un.laid old (AN _) hD;have hok:HOk X.prog X.w (upd I s2.heap.objs.size (.lst [])) (Fd l scope.names):=S.hok.laid old (AN _) ⟨Bk _,[],0,.nil,uk⟩
 have zW:∀c,s2.heap.objs.size < c->upd I s2.heap.objs.size (.lst []) c=none:=λc h=>by rw[BC (DO h)];exact S.hok.fresh (KU h)
 have xq:upd I s2.heap.objs.size (.lst []) G.objs.size=none:=zW _ (by rw[hC];exact Bx _)
 have vD:∀x c,(B7 l.objs.size scope.names H).lookup x=some c->H.lookup x=some c∨((Fd l scope.names).IsCell c none/\l.objs.size<=c):=λx c e=>IY scope.names l H x c e
 obtain⟨W,⟨m0,w0⟩,turn⟩:=q2 s2.heap.objs.size hD
 have P:∀s₃:AK,s₃={ s2 with heap:=Fd l scope.names } ->
   FB (AU X.prog X.w) X.A (.compLoop (.ListComp Z [⟨ϖ,iter,Y,0⟩] scope pos) 0 (.ref it) (.ref s2.heap.objs.size) (compEnvC scope (B7 l.objs.size scope.names H) G.objs.size X.env))
    (RR (.ref s2.heap.objs.size) G.objs.size) s₃:=by
  rintro s₃ rfl
  have J0:Inv (Ds X scope N' (B7 l.objs.size scope.names H) G.objs.size s2 I U (X.pn++ζ)) [] (BF own.length none++σ) (upd I s2.heap.objs.size (.lst [])) { s2 with heap:=Fd l scope.names }:=
   Y4 Sc S f2 xV c1 c2 yY vD (λc h=>zW c (by lia)) wK Κ rfl S.bare u hok xq
  refine cF (X':=Ds X scope N' (B7 l.objs.size scope.names H) G.objs.size s2 I U (X.pn++ζ)) hc rfl T (hg _ _ _ _ _ _) (wj _ _ _ _ _ _) (he _ _ _ _ _ _) W turn (λL N s' J q=>hRR _ _ _ L N s' wK J q) J0 (T.keep _ _ _ u0 λb _ o e=>old b o e) (λb hb=>?_) w0;obtain⟨z0,z1,z2,z3,z4,z5⟩:=f2 b hb;refine⟨by rw[BC (Ae (xV b hb))];exact z0,Ae (Aa (xV b hb) wK),λz=>?_,.inl hb,λx c e=>?_,λp hp=>?_⟩
  ·exact(Ax.mp (S.stkSub _ z)).elim z1 z2
  ·rcases vD x c e with e | ⟨_,e⟩
   ·exact z4 x c (c1 x c e)
   ·exact DO (Aa (xV b hb) (Ap yY e))
  ·have hp:=hp
   rw[Bt]at hp;exact z5 p hp
 exact codeAny_compStart_list (P _ rfl) (T.self X.A 0 _ _ _ (T.keep _ _ _ u0 λb _ o e=>old b o e) (P _ rfl))
theorem jv(O:X.calm=true)(B:M2 X scope own N')(hi:PI X L iter P)
  (R:∀A C l o ex pn,PG (Ds X scope N' A C l o ex pn) L g) (S:∀A C l o ex pn,ZH (Ds X scope N' A C l o ex pn) E tc) (U:∀A C l o ex pn,PE (Ds X scope N' A C l o ex pn) G te)
  (Y:∀x,FA iter X.env x=pure x:=by intro _;rfl):PE X (.ListComp G [⟨L,iter,E,0⟩] scope pos) (dy own.length P g tc te):=by
 intro Z s σ H Q I h;rw[eval_ListComp];obtain⟨A,wk,c1,c2⟩:=aQ (λy hy hf=>I.ok.has y.1 (B.free y hy hf));refine aX rfl Y wk B.kind B.names (thn (hi Z s σ H _ I h) λv s1 h1=>thn h1 λitv s2 h2=>?_);obtain⟨it,fp,tn,J,H2,rfl,N,T,u0,f2,q2⟩:=h2
 refine Ri O B R S U c1 c2 N T u0 f2 q2 λD C cl' σ' H' s' hC J q=>?_
 obtain⟨m,hn,_⟩:=J.loc;exact⟨m,hn,λh' sb=>⟨.ref D,H',Tw N J hC f2 sb,rfl,q⟩⟩
theorem je{i:Nat}{y:Str}{py wL:Pos}(hc:X.calm=true)(Λ:Fc (.ListComp L [⟨R,iter,O,0⟩] scope pos) (some (.Name y py)) wL.line X.env=pure true)
  (hN:X.N.Nodup) (S:X.N[i]?=some y) (xW:Loc X.env.scope y) (Q:M2 X scope own N') (hi:PI X R iter wi)
  (hg:∀E C l B ex pn,PG (Ds X scope N' E C l B ex pn) R g) (wj:∀E C l B ex pn,ZH (Ds X scope N' E C l B ex pn) O tc) (he:∀E C l B ex pn,PE (Ds X scope N' E C l B ex pn) L te)
  (hs:∀x,FA iter X.env x=pure x:=by intro _;rfl) (U:X.fn y=true∨X.env.scope.names.lookup y=some .local:=by first | exact .inl rfl | exact .inr rfl | assumption) :
  PS X (.Assign [.Name y py] (.ListComp L [⟨R,iter,O,0⟩] scope pos) wL) (nG (dy own.length wi g tc te) (aH i)):=by
 intro ζ s σ H D I h;rw[exec_Assign_Name_used _ _ _ _ Λ];refine AA (aW (AA ?_));obtain⟨E,wk,c1,c2⟩:=aQ (λy S U=>I.ok.has y.1 (Q.free y S U))
 refine AA (Ci (aX rfl hs wk Q.kind Q.names
  (thn (hi ζ s σ H _ I h) λv s1 h1=>thn h1 λitv s2 h2=>?_)) (λ_ s' hq=>AC (AC hq)) λ_ _ e=>e)
 obtain⟨it,fp,tn,J,H2,rfl,G,T,u0,f2,q2⟩:=h2
 refine Ri hc Q hg wj he c1 c2 G T u0 f2 q2 λA C cl' σ' H' s' P J q=>?_
 obtain⟨m,hn,_⟩:=J.loc;have I3:=Tw G J P f2 (UG ..);have xq:=J.free
 have uT:∀x c,X.env.cells.lookup x=some c->c≠C:=λx c e z=>by
  obtain⟨v,q⟩:=G.cell x c e;exact zX (Aa q.lt (by rw[z];exact P)) (CN _)
 have xr:=DO (Aa G.lt P);refine qH (TU (v:=.ref A) I3 hN S xW rfl (λs4 I4 ⟨a,sb,ha⟩=>?_) U)
 have Y:C≠a:=by
  rcases ha with e | e
  ·rw[e];exact xr
  ·exact Bo (uT _ _ e)
 refine⟨m,hn.sameBut sb Y,λh' Z=>⟨_,H',?_,q⟩⟩
 refine I4.turned (t':=s4.toks) (λb o hb e=>(Z.2 b hb).trans e) xq xr (.inr (Ap G.sz P)) uT λp hp z=>?_
 exact zX (Aa (AS (G.pin p hp).1) (by rw[z];exact P)) (CN _)
end
def HD(v:On)(g:MG)(c:MT)(m:ME):Nat->Nat->Lo->Sto->List D->Res (List D)
 | k,i,e,S,l=>match v S with
  | none=>.bad
  | some A=>match A[i]? with
   | none=>.ok l S
   | some d=>match k with
    | 0=>.bad
    | k+1=>if l.length < sizeLine then(okR (g d e S)).bind λo B=>(okR (c o B)).bind λb s=>if b=true then(okR (m o s)).bind λy C=>HD v g c m k (i+1) o C (l++[y])else HD v g c m k (i+1) o s l else .bad
def El(n:Nat)(o:MI)(g:MG)(c:MT)(m:ME):ML:=λe S=>(o e S).bind λv l=>HD v g c m (EQ v l) 0 (BF n none++e) l []
def Gx:MT:=λ_ S=>.ok true S
section
abbrev lJ(X:Cx)(E:EW)(g:List Expr)(c:MT):Prop:=ZH X g (gT X.K E c)
theorem Dg:lJ X E [] Gx:=by
 rintro g s m H Q I ⟨o,l,S,C,A,B⟩
 exact et g s m H Q I (B o H .refl A)
theorem Nk(h:GT X E e c):lJ X E [e] c:=en h
theorem E8.grow{K}{ρ}{H}{e}{l}(n:Nat)(h:E8 K ρ H e l):E8 K ρ H (BF n none++e) (BF n none++l):=by
 refine⟨by simp[h.len],λi d q=>?_⟩
 by_cases g:i < n
 ·rw[AM (by simpa using g),DC,qX g]at q
  cases q
 ·rw[Aj (by simpa using g)]at q ⊢
  simp only[LD]at q ⊢;exact h.at' _ d q
theorem Br.ok_of{g:Type}{K:AE}{E:EH}{ρ:List AR}{H:Hp}{r:Res g}{k:g->Sto->Prop}{a:g}{S:Sto}(e:r=.ok a S)(h:k a S):Br K E ρ H r k:=by
 subst e;exact h
theorem Q8{g l:Type}{r:Res g}{F:g->Sto->Res l}{b:l}{S:Sto}(h:(okR r).bind F=.ok b S):∃a S1,r=.ok a S1/\F a S1=.ok b S:=by
 cases r with
 | ok a S1=>exact⟨a,S1,rfl,h⟩
 | err c S1=>cases h
 | bad=>cases h
theorem XD:∀(k i:Nat) (e:Lo) (S:Sto) (l:List D),HD v g c m k i e S l≠.err er S':=by
 intro k
 induction k with
 | zero=>
  intro i e S l h;unfold HD at h;split at h
  ·cases h
  ·split at h <;> cases h
 | succ k B=>
  intro i e S l h;unfold HD at h;split at h
  ·cases h
  ·split at h
   ·cases h
   ·dsimp only at h
    split at h
    ·cases o:g _ e S with
     | ok C E=>
      rw[o]at h;dsimp only[okR,Res.bind]at h
      cases s:c C E with
      | ok b G=>
       rw[s]at h;dsimp only[okR,Res.bind]at h
       cases b with
       | true=>
        rw[qX rfl]at h
        cases A:m C G with
        | ok y H=>rw[A]at h;exact B _ _ _ _ h
        | err _ _=>rw[A]at h;cases h
        | bad=>rw[A]at h;cases h
       | false=>
        rw[qY Af]at h;exact B _ _ _ _ h
      | err _ _=>rw[s]at h;cases h
      | bad=>rw[s]at h;cases h
     | err _ _=>rw[o]at h;cases h
     | bad=>rw[o]at h;cases h
    ·cases h
theorem WD{K:AE}{n:Nat}{σ:St}{H:Hp}{Q:VK}(h:gL K E (El n mi g c m) σ H Q):dy n (gI K E mi) (gG K g) (gT K noE c) (gE K noE m) σ H Q:=by
 obtain⟨ρ,l,S,hl,hs,P⟩:=h;refine⟨ρ,l,S,hl,hs,P.seq λv X P ρ1 H1 J l1 s1 vo p hp=>?_⟩
 obtain⟨Y,U,P,k⟩:∃Y U,HD v g c m (EQ v X) 0 (BF n none++l) X []=.ok Y U/\∀N H' p I,Le K ρ H N H'->Bz K N U H'->Ao K N H' Y I->H' p=some (.lst I)->(∀n:Nat,N[n]?≠some p)->H p=none->Q (.ref p) H':=by
  cases hc:HD v g c m (EQ v X) 0 (BF n none++l) X []with
  | ok Y U=>rw[hc]at P;exact⟨Y,U,rfl,P⟩
  | err c U=>exact(XD _ _ _ _ _ hc).elim
  | bad=>rw[hc]at P;exact P.elim
 obtain⟨s1',z7⟩:=Fn s1 hp;have yS:=l1.back hs s1 hp
 refine⟨λi j σ2 R I=>∃B e2 Z G,Le K ρ1 H1 B R/\E8 K B R e2 σ2/\Bz K B Z R/\Ao K B R G I/\R p=some (.lst I)/\(∀q:Nat,B[q]?≠some p)/\HD v g c m j i e2 Z G=.ok Y U,
  ⟨EQ v X,ρ1,_,X,[],z7,(hl.mono (l1.trans z7)).grow n,s1',.nil,BV,λq e=>s1.notIn hp e,P⟩,?_⟩
 rintro i j σ2 R I ⟨B,e2,Z,G,l2,r2,s2,ra,yN,vB,s⟩;refine⟨yN,?_⟩;unfold HD at s
 cases hv:v Z with
 | none=>rw[hv]at s;cases s
 | some vs=>
  rw[hv]at s;dsimp only at s;obtain⟨v1,v2⟩:=vo B R Z vs i l2 s2 hv
  cases hd:vs[i]? with
  | none=>
   rw[hd]at s;cases s;exact .inl ⟨v1 hd,k B R p I (l1.trans l2) s2 ra yN vB yS⟩
  | some d=>
   rw[hd]at s;obtain⟨go,yl⟩:=v2 d hd
   cases j with
   | zero=>cases s
   | succ j=>
    dsimp only at s;split at s
    ·rename_i hz
     obtain⟨e3,S3,h3,s⟩:=Q8 s;obtain⟨b,S4,h4,s⟩:=Q8 s;refine .inr ⟨go,by rw[<-ra.length];exact hz,λx H' y=>?_⟩;obtain⟨ρ3,l3,s3,rd⟩:=yl x H' y;obtain⟨hp3,Μ⟩:=l3.oth p _ yN vB;refine⟨ρ3,e2,Z,d,rd,r2.mono l3,s3,Br.ok_of h3 λρ4 H4 σ4 l4 s4 r4=>?_⟩;obtain⟨hp4,hn4⟩:=l4.oth p _ hp3 Μ;refine⟨ρ4,e3,S3,r4,s4,Br.ok_of h4 λρ5 H5 T s5=>?_⟩;obtain⟨hp5,hn5⟩:=T.oth p _ hp4 hn4
     cases b with
     | false=>
      rw[qY Af]at s ⊢;exact⟨j,Bx j,ρ5,e3,S4,G,l2.trans (l3.trans (l4.trans T)),r4.mono T,s5,ra.mono (l3.trans (l4.trans T)),hp5,hn5,s⟩
     | true=>
      rw[qX rfl]at s ⊢;obtain⟨yv,S5,h5,s⟩:=Q8 s;refine⟨ρ5,e3,S4,r4.mono T,s5,Br.ok_of h5 λA C y6 l6 s6 r6=>?_⟩;obtain⟨zY,hn6⟩:=l6.oth p _ hp5 hn5
      have l7:∀O,Le K A C A (upd C p (.lst O))->True:=λ_ _=>trivial
      have up7:∀O:List V,Bz K A S5 (upd C p (.lst O))/\(∀a o,DW K A C a o->a≠p->DW K A (upd C p (.lst O)) a o)/\∀e' w',Bf K A C e' w'->Bf K A (upd C p (.lst O)) e' w':=λO=>by
       have L:=Fx (H:=C) (ho:=.lst O) (.inr (by rw[zY];trivial))
       have mono:∀e' w',Bf K A C e' w'->Bf K A (upd C p (.lst O)) e' w':=λe' w' r=>r.keep L.1 L.2
       have mob:∀a o,DW K A C a o->a≠p->DW K A (upd C p (.lst O)) a o:=λa o r ne=>r.keep L.1 L.2 (BC ne)
       exact⟨⟨s6.len,s6.nd,λn o a q1 q2=>mob a o (s6.ob n o a q1 q2) λz=>hn6 n (by rw[<-z];exact q2)⟩,mob,mono⟩
      obtain⟨u1,u2,u3⟩:=up7 (I++[y6]);refine⟨zY,j,Bx j,A,e3,S5,G++[yv],?_,?_,u1,?_,BV,hn6,s⟩
      ·have lx:=l2.trans (l3.trans (l4.trans (T.trans l6)))
       have L:=Fx (H:=C) (ho:=.lst (I++[y6])) (.inr (by rw[zY];trivial))
       exact⟨lx.pre,λa zs q=>L.1 a zs (lx.tup a zs q),λa o u q=>L.2 a o u (lx.frz a o u q),λa o q z=>by
        have nap:=Bl q hp;obtain⟨z1,z2⟩:=lx.oth a o q z
        exact⟨by rw[BC nap];exact z1,z2⟩⟩
      ·have rr:=r4.mono (T.trans l6)
       exact⟨rr.len,λq d' hq=>by
        obtain⟨w',z1,z2⟩:=rr.at' q d' hq
        exact⟨w',z1,u3 _ _ z2⟩⟩
      ·have ra6:=ra.mono (l3.trans (l4.trans (T.trans l6)))
       have L:=Fx (H:=C) (ho:=.lst (I++[y6])) (.inr (by rw[zY];trivial));exact(ra6.keep L.1 L.2).append (.cons (u3 _ _ r6) .nil)
    ·cases s
theorem E0(H:X.calm=true)(I:M2 X scope own N')(hi:GI X E G iter J)
  (L:∀s C l o ex pn,GG (Ds X scope N' s C l o ex pn) G g) (N:∀s C l o ex pn,lJ (Ds X scope N' s C l o ex pn) noE A c) (O:∀s C l o ex pn,GE (Ds X scope N' s C l o ex pn) noE B m)
  (P:∀x,FA iter X.env x=pure x:=by intro _;rfl):GL X E (.ListComp B [⟨G,iter,A,0⟩] scope pos) (El own.length J g c m):=
 (jv H I hi L N O P).imp λ_ _ _ h=>WD h
theorem Nj(hc:X.calm=true)(Λ:Fc (.ListComp G [⟨O,iter,I,0⟩] scope pos) (some (.Name y py)) wL.line X.env=pure true)
  (hN:X.N.Nodup) (hy:X.N[i]?=some y) (xW:Loc X.env.scope y) (Sc:M2 X scope own N') (hi:GI X E O iter mi)
  (hg:∀J C s A ex pn,GG (Ds X scope N' J C s A ex pn) O g) (wj:∀J C s A ex pn,lJ (Ds X scope N' J C s A ex pn) noE I c) (he:∀J C s A ex pn,GE (Ds X scope N' J C s A ex pn) noE G m)
  (P:∀x,FA iter X.env x=pure x:=by intro _;rfl) (hf:X.fn y=true∨X.env.scope.names.lookup y=some .local:=by first | exact .inl rfl | exact .inr rfl | assumption) :
  GS X E (.Assign [.Name y py] (.ListComp G [⟨O,iter,I,0⟩] scope pos) wL) (Bp i (Dz (El own.length mi g c m))):=by
 refine(je (g:=gG X.K g) (tc:=gT X.K noE c) (te:=gE X.K noE m) hc Λ hN hy xW Sc hi hg wj he P hf).imp λD σ H ⟨U,l,S,Q,P,R⟩=>?_
 refine WD ⟨U,l,S,Q,P,Br.seq (Br.lift R Q .refl λd S2 h=>h) λds S1 R B H1 p xs L s1 r1 hp hn yS=>?_⟩
 have Y:∀(n:Nat) a,B[n]?=some a->(B++[p])[n]?=some a:=λn a h=>by rw[AM (AH.mp h).1];exact h
 obtain⟨s2,T⟩:=s1.adopt (o:=.lst ds) hn ⟨xs,hp,r1.more Y⟩
 have Z:Le X.K U H (B++[p]) H1:=⟨λn a h=>Y n a (L.pre n a h),L.tup,L.frz,λa o e h=>⟨(L.oth a o e h).1,λn q=>by
  rcases EF q with⟨q,_⟩ | ⟨_,q⟩
  ·exact(L.oth a o e h).2 n q
  ·exact Bl e yS q⟩⟩
 exact R _ _ _ Z s2 ((Q.mono Z).set (.ref T) i)
end
end L2
namespace L2
open PySem.SeqAt
noncomputable def K5:D->D->Option Bool
 | .non,.non=>some true
 | .bl a,.bl b=>some (a==b)
 | .int a,.int b=>some (a==b)
 | .str a,.str b=>some (a==b)
 | .non,.int _=>some false
 | .non,.str _=>some false
 | .non,.bl _=>some false
 | .non,.tup _=>some false
 | .int _,.non=>some false
 | .str _,.non=>some false
 | .bl _,.non=>some false
 | .tup _,.non=>some false
 | .int _,.tup _=>some false
 | .tup _,.int _=>some false
 | _,_=>none
def eqL(f:D->D->Option Bool):List D->List D->Option Bool
 | [],[]=>some true
 | [],_ :: _=>some false
 | _ :: _,[]=>some false
 | x :: g,y :: l=>match f x y,eqL f g l with
  | some a,some b=>some (a&&b)
  | _,_=>none
def eqP:Nat->D->D->Option Bool
 | 0,x,y=>K5 x y
 | n+1,x,y=>match x,y with
  | .tup g,.tup l=>eqL (eqP n) g l
  | x,y=>K5 x y
theorem K4(h:eqL f (x :: xs) (y :: g)=some b):∃a c,f x y=some a/\eqL f xs g=some c/\b=(a&&c):=by
 unfold eqL at h;split at h
 ·rename_i a c l m
  cases h;exact⟨a,c,l,m,rfl⟩
 ·cases h
theorem aO:∀{xs g:List D} {b:Bool},eqL f xs g=some b->(∀(j:Nat) x y,xs[j]?=some x->g[j]?=some y->∃c,f x y=some c) /\
  b=((CV (min xs.length g.length)).all (λj=>match xs[j]?,g[j]? with | some x,some y=>(f x y).getD false | _,_=>false)&&xs.length==g.length)
 | [],[],b,h=>by cases h;exact⟨λj x y h=>by simp at h,by simp⟩
 | [],y :: g,b,h=>by cases h;exact⟨λj x y h=>by simp at h,by simp⟩
 | x :: xs,[],b,h=>by cases h;exact⟨λj x y _ h=>by simp at h,by simp⟩
 | x :: xs,y :: g,b,h=>by
  obtain⟨a,c,o,s,rfl⟩:=K4 h;obtain⟨A,B⟩:=aO s;refine⟨λj C E l m=>?_,?_⟩
  ·cases j with
   | zero=>simp at l m;subst l;subst m;exact⟨a,o⟩
   | succ j=>exact A j C E (by simpa using l) (by simpa using m)
  ·rw[B,A0,A0,show min (xs.length+1) (g.length+1)=min xs.length g.length+1 by lia,Xf,Vn,Ov]
   simp only[List.getElem?_cons_zero,o,ck,Function.comp_def,Jx];rw[Bool.and_assoc]
   congr 1
   congr 1
   rw[Bool.eq_iff_iff];simp
section
variable{K:AE}{ρ:List AR}{H:Hp}
theorem aJ(n k:Nat)(y:D):eqP n (.ref k) y=none:=by cases n <;> cases y <;> rfl
theorem aK(n:Nat)(ds:List D)(y:D):eqP n (.fro ds) y=none:=by cases n <;> cases y <;> rfl
theorem aL(n:Nat)(c:AR)(y:D):eqP n (.exc c) y=none:=by cases n <;> cases y <;> rfl
theorem NS(s:Bf K ρ H x v)(g:Bf K ρ H l v):x=l∨(∃ds m vs,x=.tup ds/\l=.tup m/\Ao K ρ H ds vs/\Ao K ρ H m vs)∨(∀n y,eqP n x y=none)∨∀n y,eqP n l y=none:=by
 cases s with
 | non=>cases g;exact .inl rfl
 | bl b=>cases g;exact .inl rfl
 | int b=>cases g;exact .inl rfl
 | str b=>cases g;exact .inl rfl
 | fro _ _=>exact .inr (.inr (.inl λn y=>aK n _ y))
 | ref _=>exact .inr (.inr (.inl λn y=>aJ n _ y))
 | exc _ _=>exact .inr (.inr (.inl λn y=>aL n _ y))
 | tup A B=>
  cases g with
  | fro _ _=>exact .inr (.inr (.inr λn y=>aK n _ y))
  | ref _=>exact .inr (.inr (.inr λn y=>aJ n _ y))
  | exc _ _=>exact .inr (.inr (.inr λn y=>aL n _ y))
  | tup o C=>
   rw[A]at o;cases o;exact .inr (.inl ⟨_,_,_,rfl,rfl,B,C⟩)
theorem kh:∀(n:Nat) {x C y:D} {v:V} {b b':Bool},Bf K ρ H x v->Bf K ρ H C v->eqP n x y=some b->eqP n C y=some b'->b=b':=by
 intro n
 induction n with
 | zero=>
  intro x C y v b b' J L h l
  rcases NS J L with rfl | ⟨E,N,o,rfl,rfl,_,_⟩ | q | q
  ·rw[h]at l;cases l;rfl
  ·have:eqP 0 (.tup E) y=eqP 0 (.tup N) y:=by cases y <;> rfl
   rw[<-this,h]at l;cases l;rfl
  ·rw[q]at h;cases h
  ·rw[q]at l;cases l
 | succ n R=>
  intro x C y v b b' J L h l
  have lists:∀{G:List D} {o:List V} {I m:List D} {b b':Bool},Ao K ρ H G o->Ao K ρ H I o->eqL (eqP n) G m=some b->eqL (eqP n) I m=some b'->b=b':=by
   intro G
   induction G with
   | nil=>
    intro o I m b b' s A g B;cases s;cases A;rw[g]at B;cases B;rfl
   | cons d E O=>
    intro o I m b b' s A g B
    cases s with
    | cons S T=>
     cases A with
     | cons U X=>
      cases m with
      | nil=>cases g;cases B;rfl
      | cons y m=>
       obtain⟨p,q,Y,Z,rfl⟩:=K4 g;obtain⟨p',q',P,Q,rfl⟩:=K4 B;rw[R S U Y P,O T X Z Q]
  rcases NS J L with rfl | ⟨E,N,o,rfl,rfl,s,A⟩ | q | q
  ·rw[h]at l;cases l;rfl
  ·by_cases c:∃m,y=.tup m
   ·obtain⟨m,rfl⟩:=c
    exact lists s A h l
   ·have:eqP (n+1) (.tup E) y=eqP (n+1) (.tup N) y:=by
     cases y <;> first | rfl | exact(c ⟨_,rfl⟩).elim
    rw[<-this,h]at l;cases l;rfl
  ·rw[q]at h;cases h
  ·rw[q]at l;cases l
theorem D5(h:K5 x x=some b):b=true:=by
 cases x <;> first | (cases h;done) | (cases h;simp)
theorem Rc:∀(n:Nat) {x:D} {b:Bool},eqP n x x=some b->b=true
 | 0,_,_,h=>D5 h
 | n+1,x,b,h=>by
  have lists:∀{l:List D} {b:Bool},eqL (eqP n) l l=some b->b=true:=by
   intro l
   induction l with
   | nil=>intro b g;cases g;rfl
   | cons d A m=>
    intro b g;obtain⟨p,q,o,s,rfl⟩:=K4 g;rw[Rc n o,m s];rfl
  cases x with
  | tup l=>exact lists h
  | non=>exact D5 (x:=.non) h
  | bl c=>exact D5 (x:=.bl c) h
  | int c=>exact D5 (x:=.int c) h
  | str c=>exact D5 (x:=.str c) h
  | ref c=>exact D5 (x:=.ref c) h
  | fro c=>exact D5 (x:=.fro c) h
  | exc c=>exact D5 (x:=.exc c) h
theorem LR(g:(∃f,y=.fro f)∨(∃r,y=.ref r)∨∃c,y=.exc c)(n:Nat):eqP n x y=none:=by
 rcases g with⟨f,rfl⟩ | ⟨r,rfl⟩ | ⟨c,rfl⟩ <;> (cases n <;> cases x <;> rfl)
theorem gj(n:Nat)(E:Bf K ρ H x v)(s:Bf K ρ H y v)(h:eqP n x y=some b):b=true:=by
 induction n generalizing x y v b with
 | zero=>
  rcases NS E s with rfl | ⟨G,I,l,rfl,rfl,_,_⟩ | q | q
  ·exact Rc 0 h
  ·cases h
  ·rw[q]at h;cases h
  ·cases s with
   | fro _ _=>rw[LR (.inl ⟨_,rfl⟩)]at h;cases h
   | ref _=>rw[LR (.inr (.inl ⟨_,rfl⟩))]at h;cases h
   | exc _ _=>rw[LR (.inr (.inr ⟨_,rfl⟩))]at h;cases h
   | non=>cases(q 0 .non)
   | bl b=>cases(q 0 (.bl b))
   | int b=>cases(q 0 (.int b))
   | str b=>cases(q 0 (.str b))
   | tup _ _=>cases(q 0 .non)
 | succ n J=>
  have lists:∀{A B:List D} {l:List V} {b:Bool},Ao K ρ H A l->Ao K ρ H B l->eqL (eqP n) A B=some b->b=true:=by
   intro A
   induction A with
   | nil=>intro B l b m o g;cases m;cases o;cases g;rfl
   | cons d G C=>
    intro B l b m o g
    cases m with
    | cons L N=>
     cases o with
     | cons O P=>
      obtain⟨p,q,Q,R,rfl⟩:=K4 g;rw[J L O Q,C N P R];rfl
  rcases NS E s with rfl | ⟨G,I,l,rfl,rfl,m,o⟩ | q | q
  ·exact Rc (n+1) h
  ·exact lists m o h
  ·rw[q]at h;cases h
  ·cases s with
   | fro _ _=>rw[LR (.inl ⟨_,rfl⟩)]at h;cases h
   | ref _=>rw[LR (.inr (.inl ⟨_,rfl⟩))]at h;cases h
   | exc _ _=>rw[LR (.inr (.inr ⟨_,rfl⟩))]at h;cases h
   | non=>cases(q 0 .non)
   | bl b=>cases(q 0 (.bl b))
   | int b=>cases(q 0 (.int b))
   | str b=>cases(q 0 (.str b))
   | tup _ _=>cases(q 0 .non)
end
section
variable{X:Cx}{ζ:List (AR×Obj)}{σ:St}{H:Hp}{s:AK}{ρ:List AR}
theorem FY(A:BX):A.in1.units=A.units+1:=rfl
theorem BL.at_(r:BL vs g)(h:j < g.toArray.size):∃v,vs[j]?=some v/\RelV v g.toArray[j]:=by
 have m:j < g.length:=by simpa using h
 have l:j < vs.length:=by rw[r.length];exact m
 obtain⟨u,o,A⟩:=r.get (i:=j) (x:=vs[j]) (by simp[l]);refine⟨vs[j],by simp[l],?_⟩
 have:g.toArray[j]=u:=by
  have:=AH.mp o;obtain⟨_,e⟩:=this;simpa using e
 rw[this];exact A
theorem UW(P:∀(x y:D) (b:Bool) (l m:V) (u v:AG),eqP n x y=some b->Bf X.K ρ H x l->Bf X.K ρ H y m->RelV l u->RelV m v->EqAt A s u v b)
  (h:eqL (eqP n) xs o=some b) (B:Ao X.K ρ H xs vs) (C:Ao X.K ρ H o Q) (E:BL vs us) (G:BL Q g) :
  ∃e:Nat->Bool,(∀j (I:j < us.toArray.size) (J:j < g.toArray.size),EqAt A s us.toArray[j] g.toArray[j] (e j))/\b=((CV (min us.toArray.size g.toArray.size)).all e&&us.toArray.size==g.toArray.size):=by
 obtain⟨R,S⟩:=aO h;refine⟨λj=>match xs[j]?,o[j]? with | some x,some y=>(eqP n x y).getD false | _,_=>false,λj I J=>?_,?_⟩
 ·obtain⟨v,T,U⟩:=BL.at_ E I
  obtain⟨w,Y,Z⟩:=BL.at_ G J;obtain⟨x,L,rx⟩:=B.get' T;obtain⟨y,N,ry⟩:=C.get' Y;obtain⟨c,O⟩:=R j x y L N;have:=P x y c v w _ _ O rx ry U Z;simp only[L,N,O,ck];exact this
 ·rw[S,B.length,C.length,E.length,G.length]
  simp
theorem Oe(I:Inv X ζ σ H s)(l:A.units < Dm)(h:K5 x y=some b)(J:Bf X.K ρ H x L)(m:Bf X.K ρ H y N)(o:RelV L u)(g:RelV N v) :
  EqAt A s u v b/\RcAt A s u v b/\RcNeAt A s u v (!b):=by
 cases J with
 | non=>
  cases o
  cases m with
  | non=>cases g;cases h;exact⟨EqAt.same _,RcAt.none_none,RcNeAt.none_none⟩
  | bl c=>cases g;cases h;exact⟨EqAt.none_bool _,RcAt.none_bool _,RcNeAt.none_bool _⟩
  | int i=>obtain⟨t,rfl⟩:=g;cases h;exact⟨EqAt.none_int _ _,RcAt.none_int _ _,RcNeAt.none_int _ _⟩
  | str z=>obtain⟨t,rfl⟩:=g;cases h;exact⟨EqAt.none_str _ _,RcAt.none_str _ _,RcNeAt.none_str _ _⟩
  | tup B C=>
   cases g;cases h;obtain⟨E,_,p,_⟩:=I.tuple (.inl (.inl B));exact⟨EqAt.none_tuple p l,RcAt.none_tuple p l,RcNeAt.none_tuple p l⟩
  | _=>cases h
 | bl a=>
  cases o
  cases m with
  | non=>cases g;cases h;exact⟨EqAt.bool_none _,RcAt.bool_none _,RcNeAt.bool_none _⟩
  | bl c=>cases g;cases h;exact⟨EqAt.bool_bool _ _,RcAt.bool_bool _ _,RcNeAt.bool_bool _ _⟩
  | _=>cases h
 | int a=>
  obtain⟨t,rfl⟩:=o
  cases m with
  | non=>cases g;cases h;exact⟨EqAt.int_none _ _,RcAt.int_none _ _,RcNeAt.int_none _ _⟩
  | int i=>obtain⟨G,rfl⟩:=g;cases h;exact⟨EqAt.int_int _ _ _ _,RcAt.int_int _ _ _ _,RcNeAt.int_int _ _ _ _⟩
  | tup B C=>
   cases g;cases h;obtain⟨E,_,p,_⟩:=I.tuple (.inl (.inl B));exact⟨EqAt.int_tuple _ _ p l,RcAt.int_tuple _ _ p l,RcNeAt.int_tuple _ _ p l⟩
  | _=>cases h
 | str a=>
  obtain⟨t,rfl⟩:=o
  cases m with
  | non=>cases g;cases h;exact⟨EqAt.str_none _ _,RcAt.str_none _ _,RcNeAt.str_none _ _⟩
  | str i=>obtain⟨G,rfl⟩:=g;cases h;exact⟨EqAt.str_str _ _ _ _,RcAt.str_str _ _ _ _,RcNeAt.str_str _ _ _ _⟩
  | _=>cases h
 | tup B C=>
  cases o;obtain⟨E,_,p,_⟩:=I.tuple (.inl (.inl B))
  cases m with
  | non=>cases g;cases h;exact⟨EqAt.tuple_none p l,RcAt.tuple_none p l,RcNeAt.tuple_none p l⟩
  | int i=>obtain⟨G,rfl⟩:=g;cases h;exact⟨EqAt.tuple_int _ _ p l,RcAt.tuple_int _ _ p l,RcNeAt.tuple_int _ _ p l⟩
  | _=>cases h
 | _=>cases h
theorem Y2(I:Inv X ζ σ H s):∀(n:Nat) (A:BX) (x y:D) (b:Bool) (g l:V) (u v:AG),A.units+n < Dm->eqP n x y=some b->Bf X.K ρ H x g->Bf X.K ρ H y l->RelV g u->RelV l v->EqAt A s u v b:=by
 intro n
 induction n with
 | zero=>exact λA x y b g l u v R h o B C E=>(Oe I (by omega) h o B C E).1
 | succ n S=>
  intro A x y b g l u v R h o B C E
  by_cases G:∃J L,x=.tup J/\y=.tup L
  ·obtain⟨J,L,rfl,rfl⟩:=G
   cases o with
   | @tup _ a vs N O=>
    cases B with
    | @tup _ c ws P Q=>
     cases C;cases E
     by_cases m:a=c
     ·subst m
      rw[gj (n+1) (.tup N O) (.tup P Q) h];exact EqAt.same _
     ·obtain⟨f',T,p,_⟩:=I.tuple (.inl (.inl N))
      obtain⟨uO,U,Y,_⟩:=I.tuple (.inl (.inl P));obtain⟨e,Z,rfl⟩:=UW (λx y b g l u v g1 g2 g3 g4 g5=>S A.in1 x y b g l u v (by rw[FY];lia) g1 g2 g3 g4 g5) h O Q T U;exact EqAt.of_refs m (ql p Y (by lia) Z)
  ·have hf:K5 x y=some b:=by
    cases x <;> cases y <;> first | exact h | exact(G ⟨_,_,rfl,rfl⟩).elim
   exact(Oe I (by lia) hf o B C E).1
def OZ(d:D)(S:Sto):Option (List D):=match d with
 | .fro g=>some g
 | .ref n=>match S[n]? with
  | some (.lst g)=>some g
  | _=>none
 | _=>none
def eqB(x y:D)(S:Sto):Option Bool:=match OZ x S,OZ y S with
 | some g,some l=>if g.length=l.length then eqL (eqP 8) g l else some false
 | none,none=>eqP 8 x y
 | some _,none=>match y with
  | .tup _=>some false
  | .non=>some false
  | _=>none
 | none,some _=>match x with
  | .tup _=>some false
  | .non=>some false
  | _=>none
def eqD(neg:Bool)(x y:D)(S:Sto):Res D:=match eqB x y S with
 | some b=>.ok (.bl (if neg then !b else b)) S
 | none=>.bad
theorem LK{K}{S}{d}{x}{ds}(g:Bz K ρ S H)(r:Bf K ρ H d x)(h:OZ d S=some ds):∃p xs,x=.ref p/\Ao K ρ H ds xs/\SqL K H p xs:=by
 cases r with
 | fro l m=>cases h;exact⟨_,_,rfl,m,l.sq⟩
 | @ref n a A=>
  obtain⟨o,B,C⟩:=g.there A;unfold OZ at h;simp only[B]at h
  cases o with
  | lst G=>cases h;obtain⟨I,e,E⟩:=C;exact⟨_,_,rfl,E,.inl (.inl e)⟩
  | _=>cases h
 | _=>cases h
theorem gk{S}{x y}{b}{G J}{u v}(I:Inv X ζ σ H s)(hu:X.A.units+64 < Dm)(Y:Bz X.K ρ S H)(L:Bf X.K ρ H x G)(N:Bf X.K ρ H y J)(O:RelV G u)(P:RelV J v)(h:eqB x y S=some b) :
  RcAt X.A s u v b/\RcNeAt X.A s u v (!b):=by
 unfold eqB at h;split at h
 ·rename_i Q ys Z h2
  obtain⟨p,vs,rfl,R,sq⟩:=LK Y L Z;obtain⟨p',xU,rfl,Ν,sq'⟩:=LK Y N h2;cases O;cases P;obtain⟨o,C,g,_⟩:=I.list sq;obtain⟨E,Ξ,zZ,_⟩:=I.list sq';split at h
  ·rename_i m
   obtain⟨e,T,rfl⟩:=UW (λx y b G J u v g1 g2 g3 g4 g5=>Y2 I 8 X.A.in1 x y b G J u v (by rw[FY];lia) g1 g2 g3 g4 g5) h R Ν C Ξ
   have l:o.toArray.size=E.toArray.size:=by
    simp only[Ad];rw[<-C.length,<-Ξ.length,<-R.length,<-Ν.length];exact m
   have e1:((CV (min o.toArray.size E.toArray.size)).all e&&o.toArray.size==E.toArray.size)=(CV o.toArray.size).all e:=by
    rw[<-l,Nat.min_self,beq_self_eq_true,Bool.and_true]
   rw[e1];exact⟨RcAt.lists g.isList zZ.isList l (by lia) T,RcNeAt.lists g.isList zZ.isList l (by lia) T⟩
  ·rename_i m
   cases h
   have l:(o.toArray.size != E.toArray.size)=true:=by
    simp only[Ad];rw[<-C.length,<-Ξ.length,<-R.length,<-Ν.length];simpa using m
   exact⟨RcAt.lists_lengths g.isList zZ.isList l (by lia),RcNeAt.lists_lengths g.isList zZ.isList l (by lia)⟩
 ·by_cases ht:∃Q ys,x=.tup Q/\y=.tup ys
  ·obtain⟨Q,ys,rfl,rfl⟩:=ht
   cases L with
   | tup a1 a2=>
    cases N with
    | tup U b2=>
     cases O;cases P;obtain⟨o,C,p,_⟩:=I.tuple (.inl (.inl a1));obtain⟨E,vq,B,_⟩:=I.tuple (.inl (.inl U));obtain⟨e,T,rfl⟩:=UW (λx y b G J u v g1 g2 g3 g4 g5=>Y2 I 7 X.A.in1 x y b G J u v (by rw[FY];lia) g1 g2 g3 g4 g5) h a2 b2 C vq;exact⟨ql p B (by lia) T,RcNeAt.tuples p B (by lia) T⟩
  ·have hf:K5 x y=some b:=by
    cases x <;> cases y <;> first | exact h | exact(ht ⟨_,_,rfl,rfl⟩).elim
   exact(Oe I (by lia) hf L N O P).2
 ·rename_i Q Z h2
  obtain⟨p,vs,rfl,R,sq⟩:=LK Y L Z;cases O;obtain⟨o,C,g,_⟩:=I.list sq;split at h
  ·cases h
   cases N with
   | tup U b2=>
    cases P;obtain⟨E,vq,B,_⟩:=I.tuple (.inl (.inl U));exact⟨RcAt.list_tuple g.isList B (by lia),RcNeAt.list_tuple g.isList B (by lia)⟩
  ·cases h
   cases N;cases P;exact⟨RcAt.list_none g.isList (by lia),RcNeAt.list_none g.isList (by lia)⟩
  ·cases h
 ·rename_i Q Z h2
  obtain⟨p,vs,rfl,R,sq⟩:=LK Y N h2;cases P;obtain⟨o,C,g,_⟩:=I.list sq;split at h
  ·cases h
   cases L with
   | tup U b2=>
    cases O;obtain⟨E,vq,B,_⟩:=I.tuple (.inl (.inl U));exact⟨RcAt.tuple_list B g.isList (by lia),RcNeAt.tuple_list B g.isList (by lia)⟩
  ·cases h
   cases L;cases O;exact⟨RcAt.none_list g.isList (by lia),RcNeAt.none_list g.isList (by lia)⟩
  ·cases h
theorem HC(m:X.A.units+64 < Dm):OpR X (BH .Eq) (rD X.K (eqD false)):=by
 intro ζ s σ H x y v u Q I o B h;obtain⟨ρ,S,a,b,d,J,l,C,E,g,k⟩:=h;unfold eqD at g;split at g
 ·rename_i c G
  cases g;exact(gk I m l C E o B G).1 _ _ _ _ ⟨.bl c,H,I,rfl,k ρ H _ .refl l (.bl _)⟩
 ·cases g
theorem fM(m:X.A.units+64 < Dm):OpR X (BH .NotEq) (rD X.K (eqD true)):=by
 intro ζ s σ H x y v u Q I o B h;obtain⟨ρ,S,a,b,d,J,l,C,E,g,k⟩:=h;unfold eqD at g;split at g
 ·rename_i c G
  cases g;exact(gk I m l C E o B G).2 _ _ _ _ ⟨.bl (!c),H,I,rfl,k ρ H _ .refl l (.bl _)⟩
 ·cases g
def MA(x:D):List D->Option Bool
 | []=>some false
 | d :: g=>match eqP 8 d x,MA x g with
  | some a,some b=>some (a||b)
  | _,_=>none
def inD(neg:Bool)(x y:D)(S:Sto):Res D:=match HN y S with
 | some g=>match MA x g with
  | some b=>.ok (.bl (if neg then !b else b)) S
  | none=>.bad
 | none=>.bad
theorem ZD(h:MA x (d :: ds)=some b):∃a c,eqP 8 d x=some a/\MA x ds=some c/\b=(a||c):=by
 unfold MA at h;split at h
 ·rename_i a c g l
  cases h;exact⟨a,c,g,l,rfl⟩
 ·cases h
open Classical in
theorem Nz(I:Inv X ζ σ H s)(P:A.units+8 < Dm)(Q:Bf X.K ρ H x R)(S:RelV R v):∀{ds:List D} {vs:List V} {us:List AG} {b:Bool},Ao X.K ρ H ds vs->BL vs us->MA x ds=some b ->
  ∃e:AG->Bool,(∀y∈us,EqAt A s y v (e y))/\b=us.any e:=by
 intro ds vs us b r q h
 let e:AG->Bool:=λy=>decide (∃d w,d∈ds/\Bf X.K ρ H d w/\RelV w y/\eqP 8 d x=some true)
 have all:∀{g:List D} {o:List V} {l:List AG} {B:Bool},(∀d∈g,d∈ds)->Ao X.K ρ H g o->BL o l->MA x g=some B->(∀y∈l,EqAt A s y v (e y))/\B=l.any e:=by
  intro g
  induction g with
  | nil=>intro o l B _ r q h;cases r;cases q;cases h;exact⟨(λ_ z=>nomatch z),rfl⟩
  | cons d g T=>
   intro o l B L r q h
   cases r with
   | cons E U=>
    cases q with
    | @cons w y _ _ G Y=>
     obtain⟨a,c,J,Z,rfl⟩:=ZD h;obtain⟨i1,i2⟩:=T (λz m=>L z (Ab _ m)) U Y Z
     have N:e y=a:=by
      by_cases C:∃d w,d∈ds/\Bf X.K ρ H d w/\RelV w y/\eqP 8 d x=some true
      ·obtain⟨d',w',_,O,g2,g3⟩:=id C
       rw[RelV.inj g2 G]at O;have:=kh 8 O E g3 J;rw[<-this];exact wX C
      ·have:a=false:=by
        cases a with
        | false=>rfl
        | true=>exact(C ⟨d,_,L d Am,E,G,J⟩).elim
       rw[this];exact wY C
     refine⟨λz m=>?_,by rw[EU,N,<-i2]⟩
     rcases Ax.mp m with rfl | m
     ·rw[N]
      exact Y2 I 8 A d x a _ _ _ _ P J E Q G S
     ·exact i1 z m
 obtain⟨e1,e2⟩:=all (λ_ h=>h) r q h;exact⟨e,e1,e2⟩
theorem lm(T:X.A.units+64 < Dm):OpR X (BH .In) (rD X.K (inD false)):=by
 intro ζ s σ H x y v u Q I G O h;obtain⟨ρ,S,a,b,d,U,l,J,P,g,k⟩:=h;unfold inD at g;split at g
 ·rename_i Y R
  split at g
  ·rename_i c L
   cases g;obtain⟨p,Z,rfl,N,sq⟩:=NI l P R;cases O
   rcases sq with sq | sq
   ·obtain⟨m,o,B,_⟩:=I.list sq
    obtain⟨e,C,rfl⟩:=Nz I (A:=X.A.in1) (by rw[FY];lia) J G N o L;exact in_listAt e B.isList (λz E=>C z (by simpa using E)) ⟨.bl (m.toArray.any e),H,I,rfl,by rw[Jy];exact k ρ H _ .refl l (.bl _)⟩
   ·obtain⟨m,o,B,_⟩:=I.tuple sq
    obtain⟨e,C,rfl⟩:=Nz I (A:=X.A.in1) (by rw[FY];lia) J G N o L;exact in_tupleAt e B (λz E=>C z (by simpa using E)) ⟨.bl (m.toArray.any e),H,I,rfl,by rw[Jy];exact k ρ H _ .refl l (.bl _)⟩
  ·cases g
 ·cases g
theorem fL(T:X.A.units+64 < Dm):OpR X (BH .NotIn) (rD X.K (inD true)):=by
 intro ζ s σ H x y v u Q I G O h;obtain⟨ρ,S,a,b,d,U,l,J,P,g,k⟩:=h;unfold inD at g;split at g
 ·rename_i Y R
  split at g
  ·rename_i c L
   cases g;obtain⟨p,Z,rfl,N,sq⟩:=NI l P R;cases O
   rcases sq with sq | sq
   ·obtain⟨m,o,B,_⟩:=I.list sq
    obtain⟨e,C,rfl⟩:=Nz I (A:=X.A.in1) (by rw[FY];lia) J G N o L;exact notIn_listAt e B.isList (λz E=>C z (by simpa using E)) ⟨.bl (!m.toArray.any e),H,I,rfl,by rw[Jy];exact k ρ H _ .refl l (.bl _)⟩
   ·obtain⟨m,o,B,_⟩:=I.tuple sq
    obtain⟨e,C,rfl⟩:=Nz I (A:=X.A.in1) (by rw[FY];lia) J G N o L;exact notIn_tupleAt e B (λz E=>C z (by simpa using E)) ⟨.bl (!m.toArray.any e),H,I,rfl,by rw[Jy];exact k ρ H _ .refl l (.bl _)⟩
  ·cases g
 ·cases g
end
def Ld(mo o:ME):ME:=λe S=>(mo e S).bind λd g=>match d with
 | .ref n=>match g[n]? with
  | some (.lst _)=>(o e g).bind λy l=>match l[n]? with
   | some (.lst m)=>if m.length < sizeLine then .ok .non (l.set n (.lst (m++[y])))else .bad
   | _=>.bad
  | _=>.bad
 | _=>.bad
section
variable{X:Cx}{E:EW}{o e:Expr}{mo ma:ME}
theorem Zq{K}{ρ}{S}{H}{n}{x}{xs}(s:Bz K ρ S H)(r:Bf K ρ H (.ref n) x)(h:S[n]?=some (.lst xs)):∃a vs,x=.ref a/\ρ[n]?=some a/\H a=some (.lst vs)/\Ao K ρ H xs vs:=by
 cases r with
 | ref g=>
  obtain⟨vs,e,l⟩:=s.ob n _ _ h g;exact⟨_,vs,rfl,g,e,l⟩
theorem Dd(ho:GE X E o mo)(Y:GE X E e ma)(Z:Da o "append" X.env (BQ o X.env)=BQ o X.env:=by rfl)
  (vt:((CT A (AO [e] X.env)).all (λx=>!x.1)&&(FN A (DH [] X.env)).all (λx=>x.1.isSome)
    &&decide ([e].length+([]:List KO).length+(if ([]:List KO).isEmpty then 0 else 1) < 30))=true:=by rfl)
  (uv:(s.endLine==A.line)=true:=by rfl) (B:AO [e] X.env=(false,BQ e X.env) :: AO [] X.env:=by rfl) (um:(CT A (AO [] X.env)).any (·.1)=false:=by rfl) :
  GE X E (.Call (.Attribute o "append" s) [e] [] A) (Ld mo ma):=(Zx TB PySem.F.slot_list_append PySem.F.type_list_append Tg ho (De Y E5 B) Z vt uv B um).imp<|by
 rintro σ H Q ⟨ρ,l,S,J,B,g⟩
 refine⟨ρ,l,S,J,B,g.seq λx S1 g C H1 v G L r1=>?_⟩
 cases x <;> first | exact g.elim | skip
 rename_i n;dsimp only at g;split at g
 ·rename_i xs0 h0
  obtain⟨a,vs,rfl,hn,e0,_⟩:=Zq L r1 h0;refine⟨.inl ⟨rfl,vs,.inl (.inl e0)⟩,C,l,S1,J.mono G,L,(g.later G).seq λy S2 g m N u O P r2=>?_⟩;split at g
  ·rename_i xs h3
   split at g
   ·rename_i hz
    have I:=O.pre n a hn;obtain⟨R,T,U⟩:=P.ob n _ _ h3 I;have le:Le X.K m N m (upd N a (.lst (R++[u]))):=Le.write I (by rw[T];trivial);obtain⟨s3,l3⟩:=P.write (o:=.lst (xs++[y])) I ⟨_,BV,(U.append (.cons r2 .nil)).mono le⟩ le;exact⟨a,R,u,rfl,rfl,T,by rw[<-U.length];exact hz,g m _ _ (G.trans (O.trans l3)) s3 .non⟩
   ·exact g.elim
  ·exact g.elim
 ·exact g.elim
end
def Ev{g β:Type}[DecidableEq g](l:List (g×β))(k:g):Option β:=(l.find? λm=>decide (m.1=k)).map (·.2)
noncomputable def IV{l m:Type}[DecidableEq l](o:List (l×m))(k:l)(v:m):List (l×m):=
 if (o.any λg=>decide (g.1=k))=true then o.map (λg=>if g.1=k then(g.1,v)else g)else o++[(k,v)]
section
variable{κ:Type}[DecidableEq κ]{K:AE}{ρ:List AR}{H:Hp}
theorem KVR.val(k:κ):∀{x:List (κ×D)} {y:List (κ×V)},KVR K ρ H x y->(Ev x k=none->JM y k=none)/\∀d,Ev x k=some d->∃v,JM y k=some v/\Bf K ρ H d v
 | _,_,.nil=>⟨λ_=>rfl,λd h=>by cases h⟩
 | (g,a) :: x,(o,b) :: y,.cons r t=>by
  obtain⟨l,m⟩:=r;subst l;unfold Ev JM;rw[CL,CL]
  by_cases e:g=k
  ·simp only[e,decide_true]
   exact⟨(λh=>nomatch h),(λd h=>by cases h;exact⟨b,rfl,m⟩)⟩
  ·simp only[e,decide_false]
   exact KVR.val k t
theorem KVR.any(k:κ):∀{x:List (κ×D)} {y:List (κ×V)},KVR K ρ H x y->(x.any λl=>decide (l.1=k))=y.any λl=>decide (l.1=k)
 | _,_,.nil=>rfl
 | (g,a) :: x,(m,b) :: y,.cons r t=>by
  rw[EU,EU,KVR.any k t,show g=m from r.1]
theorem KVR.repl(k:κ)(m:Bf K ρ H d v):∀{x:List (κ×D)} {y:List (κ×V)},KVR K ρ H x y->KVR K ρ H (x.map λl=>if l.1=k then(l.1,d)else l) (y.map λl=>if l.1=k then(l.1,v)else l)
 | _,_,.nil=>.nil
 | (g,a) :: x,(A,b) :: y,.cons r t=>by
  obtain⟨o,s⟩:=r;subst o;rw[A2,A2];refine .cons ?_ (KVR.repl k m t)
  by_cases e:g=k
  ·rw[qX e,qX e];exact⟨rfl,m⟩
  ·rw[qY e,qY e];exact⟨rfl,s⟩
theorem KVR.put(k:κ)(g:Bf K ρ H d v)(h:KVR K ρ H x y):KVR K ρ H (IV x k d) (LZ y k v):=by
 unfold IV LZ;rw[KVR.any k h];split
 ·exact KVR.repl k g h
 ·exact Xe h ⟨rfl,g⟩
end
noncomputable def fh:D->Option Key
 | .int i=>some (.inl i)
 | .str x=>some (.inr x)
 | _=>none
def Ti:List D->Option (List Key)
 | []=>some []
 | d :: g=>match fh d,Ti g with
  | some k,some l=>some (k :: l)
  | _,_=>none
theorem QD{K}{ρ}{H}{d}{v}{k}(r:Bf K ρ H d v)(h:fh d=some k):v=kV k:=by
 cases r <;> first | (cases h;done) | (cases h;rfl)
theorem Nh{K}{ρ}{H}:∀{ds:List D} {vs:List V} {g:List Key},Ao K ρ H ds vs->Ti ds=some g->vs=g.map kV
 | _,_,_,.nil,h=>by cases h;rfl
 | _,_,_,.cons r t,h=>by
  unfold Ti at h;split at h
  ·rename_i k g l m
   cases h;rw[QD r l,Nh t m];rfl
  ·cases h
def XB(x y:D)(S:Sto):Option (Option D):=match x with
 | .ref n=>match S[n]? with
  | some (.dK g)=>match fh y with
   | some k=>some (Ev g k)
   | none=>none
  | some (.dT g)=>match y with
   | .tup l=>match Ti l with
    | some m=>some (Ev g m)
    | none=>none
   | _=>none
  | some (.fK g)=>match fh y with
   | some k=>some (Ev g k)
   | none=>none
  | some (.fT g)=>match y with
   | .tup l=>match Ti l with
    | some m=>some (Ev g m)
    | none=>none
   | _=>none
  | _=>none
 | _=>none
theorem VC{K}{ρ}{S}{H}{x y}{P Q}{o}(s:Bz K ρ S H)(R:Bf K ρ H x P)(G:Bf K ρ H y Q)(h:XB x y S=some o) :
  ∃a J,P=.ref a/\N2 H a Q J/\(o=none->J=none)/\∀d,o=some d->∃v,J=some v/\Bf K ρ H d v:=by
 unfold XB at h;split at h
 ·rename_i n
  cases R with
  | @ref _ a I=>
   split at h
   ·rename_i L g
    split at h
    ·rename_i k l
     cases h;obtain⟨m,e,r⟩:=s.ob n _ _ g I;rw[QD G l];obtain⟨A,B⟩:=KVR.val k r;exact⟨a,JM m k,rfl,N2.k e,A,B⟩
    ·cases h
   ·rename_i L g
    split at h
    ·rename_i T
     split at h
     ·rename_i C l
      cases h;obtain⟨m,e,r⟩:=s.ob n _ _ g I
      cases G with
      | tup E N=>
       obtain⟨A,B⟩:=KVR.val C r;rw[Nh N l]at E;exact⟨a,JM m C,rfl,N2.t e E,A,B⟩
     ·cases h
    ·cases h
   ·rename_i L g
    split at h
    ·rename_i k l
     cases h;obtain⟨O,m,e,r⟩:=s.ob n _ _ g I;rw[QD G l];obtain⟨A,B⟩:=KVR.val k r;exact⟨a,JM m k,rfl,(.inl ⟨_,_,.inr ⟨O,e⟩,rfl,rfl⟩),A,B⟩
    ·cases h
   ·rename_i L g
    split at h
    ·rename_i T
     split at h
     ·rename_i C l
      cases h;obtain⟨O,m,e,r⟩:=s.ob n _ _ g I
      cases G with
      | tup E N=>
       obtain⟨A,B⟩:=KVR.val C r;rw[Nh N l]at E;exact⟨a,JM m C,rfl,(.inr ⟨_,_,_,.inr ⟨O,e⟩,rfl,E,rfl⟩),A,B⟩
     ·cases h
    ·cases h
   ·cases h
 ·cases h
def Rh(x y:D)(S:Sto):Res D:=match XB x y S with
 | some (some d)=>.ok d S
 | _=>.bad
def Oh(neg:Bool)(y x:D)(S:Sto):Res D:=match XB x y S with
 | some o=>.ok (.bl (if neg then !o.isSome else o.isSome)) S
 | none=>.bad
section
variable{X:Cx}{E:EW}{mo mi mv:ME}
theorem kc(O:X.A.units+1 < Dm)(ho:GE X E o mo)(hi:GE X E i mi)(s:qB i:=by intro _ _;rfl):GE X E (.Subscript o i pos) (m2 Rh mo mi):=(ju O ho hi s).imp λP H Q h=>by
 refine(MR h:tOp (rD X.K Rh) (gE X.K E mo) (gE X.K E mi) P H Q) |> λt=>?_
 obtain⟨R,l,S,T,s,k⟩:=t;refine⟨R,l,S,T,s,k.imp λx S1 k B U u Y Z r1=>?_⟩;obtain⟨C,l2,S2,yB,uW,G⟩:=k B U u Y Z r1;refine⟨C,l2,S2,yB,uW,G.imp λy S3 G I L v l3 s3 r3=>?_⟩;obtain⟨J,S4,x4,y4,d,S5,N,r4,r5,m,k4⟩:=G I L v l3 s3 r3;unfold Rh at m;split at m
 ·rename_i d' hd
  cases m;obtain⟨a,o',rfl,g,_,g2⟩:=VC N r4 r5 hd;obtain⟨w',rfl,vq⟩:=g2 _ rfl;exact⟨a,w',rfl,g,k4 J L w' .refl N vq⟩
 ·cases m
theorem Zi{o}{H}{Q}(h:gE X.K E (m2 (Oh false) mi mo) o H Q):rQ (gE X.K E mi) (gE X.K E mo) o H Q:=by
 obtain⟨O,l,S,P,R,k⟩:=(MR h:tOp (rD X.K (Oh false)) (gE X.K E mi) (gE X.K E mo) o H Q);refine⟨O,l,S,P,R,k.imp λx S1 k s T u U Y Z=>?_⟩;obtain⟨A,l2,S2,yB,uW,B⟩:=k s T u U Y Z;refine⟨A,l2,S2,yB,uW,B.imp λy S3 B C I v l3 s3 r3=>?_⟩;obtain⟨G,S4,x4,y4,d,S5,J,r4,r5,m,k4⟩:=B C I v l3 s3 r3;unfold Oh at m;split at m
 ·rename_i L hd
  cases m;obtain⟨a,N,rfl,g,g1,g2⟩:=VC J r5 r4 hd;refine⟨a,N,rfl,g,?_⟩
  have:N.isSome=L.isSome:=by
   cases L with
   | none=>rw[g1 rfl];rfl
   | some d=>obtain⟨w',rfl,_⟩:=g2 d rfl;rfl
  rw[this];exact k4 G I _ .refl J (.bl _)
 ·cases m
theorem YG{o}{H}{Q}(h:gE X.K E (m2 (Oh true) mi mo) o H Q):Zh (gE X.K E mi) (gE X.K E mo) o H Q:=by
 obtain⟨O,l,S,P,R,k⟩:=(MR h:tOp (rD X.K (Oh true)) (gE X.K E mi) (gE X.K E mo) o H Q);refine⟨O,l,S,P,R,k.imp λx S1 k s T u U Y Z=>?_⟩;obtain⟨A,l2,S2,yB,uW,B⟩:=k s T u U Y Z;refine⟨A,l2,S2,yB,uW,B.imp λy S3 B C I v l3 s3 r3=>?_⟩;obtain⟨G,S4,x4,y4,d,S5,J,r4,r5,m,k4⟩:=B C I v l3 s3 r3;unfold Oh at m;split at m
 ·rename_i L hd
  cases m;obtain⟨a,N,rfl,g,g1,g2⟩:=VC J r5 r4 hd;refine⟨a,N,rfl,g,?_⟩
  have:N.isSome=L.isSome:=by
   cases L with
   | none=>rw[g1 rfl];rfl
   | some d=>obtain⟨w',rfl,_⟩:=g2 d rfl;rfl
  rw[this];exact k4 G I _ .refl J (.bl _)
 ·cases m
theorem pL(g:X.A.units+1 < Dm)(hi:GE X E i mi)(ho:GE X E o mo)(l:CC .In o=false:=by rfl):GE X E (.Compare i [.In] [o] pos) (m2 (Oh false) mi mo):=(n9 (fG g hi ho) l).imp λ_ _ _ h=>Zi h
theorem fW{K}{m}{s}{H}{Q}(h:gT K E (mB m) s H Q):gE K E m s H λx H1=>∃c,x=.bl c/\Q c H1:=by
 obtain⟨A,l,S,B,C,g⟩:=h;refine⟨A,l,S,B,C,g.seq λd L g o H1 x G I J=>?_⟩
 cases d <;> first | exact g.elim | skip
 cases J;exact⟨_,rfl,g o H1 G I⟩
theorem pA(g:X.A.units+1 < Dm)(hi:GE X E i mi)(ho:GE X E o mo)(l:CC .In o=false:=by rfl):GT X E (.Compare i [.In] [o] pos) (mB (m2 (Oh false) mi mo)):=(ef (fG g hi ho) l).imp λ_ _ _ h=>Zi (fW h)
theorem bu(g:X.A.units+1 < Dm)(hi:GE X E i mi)(ho:GE X E o mo)(l:CC .NotIn o=false:=by rfl):GT X E (.Compare i [.NotIn] [o] pos) (mB (m2 (Oh true) mi mo)):=(ef (bS g hi ho) l).imp λ_ _ _ h=>YG (fW h)
def IW:ME:=λ_ S=>.ok (.ref S.length) (S++[.dK []])
def OY:ME:=λ_ S=>.ok (.ref S.length) (S++[.dT []])
theorem Hh:GE X E (.Dict [] [] pos) IW:=(fF).imp<|by
 rintro C H Q ⟨G,l,S,I,m,k⟩ p s
 obtain⟨A,B,g⟩:=m.alloc (o:=.dK []) s ⟨[],BV,.nil⟩;exact k _ _ _ B A (.ref g)
theorem RS:GE X E (.Dict [] [] pos) OY:=(fE).imp<|by
 rintro C H Q ⟨G,l,S,I,m,k⟩ p s
 obtain⟨A,B,g⟩:=m.alloc (o:=.dT []) s ⟨[],BV,.nil⟩;exact k _ _ _ B A (.ref g)
def kn(x y v:D)(S:Sto):Option Sto:=match x with
 | .ref n=>match S[n]? with
  | some (.dK g)=>match fh y with
   | some k=>if g.length < sizeLine then some (S.set n (.dK (IV g k v)))else none
   | none=>none
  | some (.dT g)=>match y with
   | .tup l=>match Ti l with
    | some m=>if g.length < sizeLine then some (S.set n (.dT (IV g m v)))else none
    | none=>none
   | _=>none
  | _=>none
 | _=>none
def E4(mo mi mv:ME):MS:=λe S=>(mv e S).lift e λv g=>(mo e g).lift e λx l=>(mi e l).lift e λy m=>match kn x y v m with
 | some o=>.ok (.nx e) o
 | none=>.bad
theorem Ey(hu:X.A.units+1 < Dm)(ho:GE X E o mo)(hi:GE X E i mi)(hv:GE X E value mv)(R:Fc value (some (.Subscript o i J)) pos.line X.env=pure false:=by rfl):GS X E (.Assign [.Subscript o i J] value pos) (E4 mo mi mv):=(jd hu ho hi hv R).imp<|by
 rintro D σ H ⟨ρ,l,S,G,R,s⟩
 refine⟨ρ,l,S,G,R,s.lift G .refl λv S1 s T H1 vv B s1 r1=>⟨T,l,S1,G.mono B,s1,(s.later B).lift (G.mono B) B λx S2 s U H2 xv C s2 r2=>⟨U,l,S2,G.mono (B.trans C),s2,(s.later C).lift (G.mono (B.trans C)) (B.trans C) λy S3 s m P yv L Q r3=>?_⟩⟩⟩;have N:=r1.mono (C.trans L);have Y:=r2.mono L;have B':=G.mono (B.trans (C.trans L));split at s
 ·rename_i S4 g
  unfold kn at g;split at g
  ·rename_i n
   cases Y with
   | @ref _ a I=>
    split at g
    ·rename_i Z h4
     split at g
     ·rename_i ky hk
      split at g
      ·rename_i hz
       cases g;obtain⟨uc,e,r⟩:=Q.ob n _ _ h4 I;rw[QD r3 hk];have le:Le X.K m P m (upd P a (.dK (LZ uc ky vv))):=Le.write I (by rw[e];trivial);obtain⟨s5,O⟩:=Q.write (o:=.dK (IV Z ky v)) I ⟨_,BV,(KVR.put ky N r).mono le⟩ le;exact⟨a,_,rfl,XY.k e (by rw[<-KVR.length r];exact hz),s m _ σ (B.trans (C.trans (L.trans O))) s5 (B'.mono O)⟩
      ·cases g
     ·cases g
    ·rename_i Z h4
     split at g
     ·rename_i ds
      split at g
      ·rename_i ks hk
       split at g
       ·rename_i hz
        cases g;obtain⟨uc,e,r⟩:=Q.ob n _ _ h4 I
        cases r3 with
        | tup b1 b2=>
         rw[Nh b2 hk]at b1;have le:Le X.K m P m (upd P a (.dT (LZ uc ks vv))):=Le.write I (by rw[e];trivial);obtain⟨s5,O⟩:=Q.write (o:=.dT (IV Z ks v)) I ⟨_,BV,(KVR.put ks N r).mono le⟩ le;exact⟨a,_,rfl,XY.t e b1 (by rw[<-KVR.length r];exact hz),s m _ σ (B.trans (C.trans (L.trans O))) s5 (B'.mono O)⟩
       ·cases g
      ·cases g
     ·cases g
    ·cases g
  ·cases g
 ·exact s.elim
end
section
variable{X:Cx}{E:EW}{a b c:Expr}{pos:Pos}
theorem ay{K}{f g}{O}{H}{Q}(h:gE K E (m3 f g Z mb mc) O H Q):dz (rD K f) (rD K g) (gE K E Z) (gE K E mb) (gE K E mc) O H Q:=by
 obtain⟨ρ,l,S,G,hs,m⟩:=h;refine⟨ρ,l,S,G,hs,m.seq λx S1 m I H1 u o s1 r1=>⟨I,l,S1,G.mono o,s1,(m.later o).seq λy P m J H2 v s s2 R=>?_⟩⟩
 cases C:f x y P with
 | bad=>rw[C]at m;exact m.elim
 | err _ _=>rw[C]at m;exact m.elim
 | ok z T=>
  rw[C]at m;dsimp only[okR,Res.bind]at m;refine⟨J,P,x,y,z,T,s2,r1.mono s,R,C,λA H3 w B U r3=>?_⟩
  cases z with
  | bl k=>
   cases r3;refine⟨k,rfl,?_⟩
   cases k with
   | true=>
    rw[qX rfl];refine⟨A,l,T,G.mono (o.trans (s.trans B)),U,Br.seq (m.later (s.trans B)) λw S4 m L H4 wv Y s4 r4=>?_⟩;obtain⟨d,S',e,k⟩:=m.okR;exact⟨L,S4,y,w,d,S',s4,R.mono (B.trans Y),r4,e,λN H' z l' s' r'=>k N H' z (o.trans (s.trans (B.trans (Y.trans l')))) s' r'⟩
   | false=>rw[qY Af];exact m A H3 _ (o.trans (s.trans B)) U (.bl false)
  | _=>exact m.elim
theorem Hg(ho:OpR X (BH op) (rD X.K f))(m:OpR X (BH l) (rD X.K g))(o:GE X E a s)(hb:GE X E b A)(B:GE X E c C)
  (G:lastMarks [op,l] [b,c]=false:=by with_unfolding_all rfl):GT X E (.Compare a [op,l] [b,c] pos) (mB (m3 f g s A C)):=(eh ho m o hb B G).imp λ_ _ _ h=>ay (fW h)
def Ww(m:ME):ME:=λe S=>(m e S).bind λd g=>match d with
 | .int i=>.ok (.int (-i)) g
 | _=>.bad
theorem Mr(h:GE X E a o):GE X E (.UnaryOp .USub a pos) (Ww o):=(sH my h).imp<|by
 rintro L H Q ⟨s,l,S,A,B,g⟩
 refine⟨s,l,S,A,B,g.seq λd N g m C x G I J=>?_⟩
 cases d <;> first | exact g.elim | skip
 cases J;exact⟨_,rfl,g m C _ G I (.int _)⟩
end
abbrev MO:=Lo->Sto->Res (Option Int)
def gO(K:AE)(E:EW)(m:MO):TO:=λA H Q=>∃l e S,E8 K l H e A/\Bz K l S H/\Br K (λc=>E c A) l H (m e S) λo B=>∀g s,Le K l H g s->Bz K g B s->Q o s
abbrev GO(X:Cx)(E:EW)(e:Option Expr)(m:MO):Prop:=PO X e (gO X.K E m)
def Gs:MO:=λ_ S=>.ok none S
def FV(m:ME):MO:=λe S=>(m e S).bind λd g=>match d with
 | .int i=>.ok (some i) g
 | _=>.bad
def Iz{α:Type}(xs:List α)(lo hi:Option Int):List α:=(xs.drop (HT.sIx xs.length 0 lo)).take (HT.sIx xs.length xs.length hi - HT.sIx xs.length 0 lo)
def dY(n:Nat)(lo hi:Option Int):Bool:=decide (HT.sIx n 0 lo=0/\HT.sIx n n hi=n)
def Qp(d:D)(lo hi:Option Int)(S:Sto):Res D:=match d with
 | .tup g=>if dY g.length lo hi=true then .bad else .ok (.tup (Iz g lo hi)) S
 | _=>match OZ d S with
  | some g=>.ok (.ref S.length) (S++[.lst (Iz g lo hi)])
  | none=>.bad
def D8(m:ME)(g l:MO):ME:=λe S=>(m e S).bind λd o=>(g e o).bind λlo s=>(l e s).bind λA B=>okR (Qp d lo A B)
section
variable{X:Cx}{E:EW}{e:Expr}{lo hi:Option Expr}{pos p2:Pos}{m:ME}{ml mh:MO}
theorem PO.imp(h:PO X o t)(i:∀g H Q,t' g H Q->t g H Q):PO X o t':=λl s g H Q I q=>h l s g H Q I (i g H Q q)
theorem Fy:GO X E none Gs:=PO.imp jh λA H Q ⟨g,l,S,B,o,s⟩=>s g H .refl o
theorem Ez(h:GE X E e m):GO X E (some e) (FV m):=PO.imp (jg h)<|by
 rintro L H Q ⟨s,l,S,A,B,g⟩
 refine⟨s,l,S,A,B,g.seq λd N g o C x G I J=>?_⟩
 cases d <;> first | exact g.elim | skip
 cases J;exact⟨_,rfl,g o C G I⟩
theorem XC{K}{ρ}{H}{ds}{vs}(r:Ao K ρ H ds vs)(lo hi:Option Int):Ao K ρ H (Iz ds lo hi) (VH vs lo hi):=by
 unfold Iz VH;rw[r.length];exact(r.drop _).take _
theorem EG(he:GE X E e m)(B:GO X E lo ml)(hu:GO X E hi mh):GE X E (.Subscript e (.Slice lo hi none p2) pos) (D8 m ml mh):=(fB (jG.or nJ) he B hu).imp<|by
 rintro σ H Q ⟨ρ,l,S,B,hs,A⟩
 refine⟨ρ,l,S,B,hs,A.seq λd S1 A L H1 x C s1 r1=>⟨L,l,S1,B.mono C,s1,(A.later C).seq λlo S2 A N H2 G s2=>⟨N,l,S2,B.mono (C.trans G),s2,(A.later G).seq λhi O A I P R T=>?_⟩⟩⟩;obtain⟨d',S',e,k⟩:=A.okR;have Y:=r1.mono (G.trans R)
 have lst:∀g,OZ d O=some g->Res.ok (.ref O.length) (O++[.lst (Iz g lo hi)])=Res.ok d' S'->rh X.K x lo hi P Q:=λg s e=>by
  cases e;obtain⟨p,Z,rfl,rr,sq⟩:=LK T Y s;refine⟨p,Z,rfl,sq,λq s=>?_⟩;have le:Le X.K I P (I++[q]) (upd P q (.lst (VH Z lo hi))):=Le.alloc s;obtain⟨U,J,xX⟩:=T.alloc (o:=.lst (Iz g lo hi)) s ⟨_,BV,(XC rr lo hi).mono le⟩;exact k _ _ _ (C.trans (G.trans (R.trans J))) U (.ref xX)
 cases d with
 | tup g=>
  unfold Qp at e;dsimp only at e;split at e
  ·cases e
  ·rename_i hw
   cases e
   cases Y with
   | @tup _ a vs h1 h2=>
    refine .inr ⟨a,vs,rfl,.inl (.inl h1),λz=>hw ?_,λq s=>?_⟩
    ·unfold dY
     rw[h2.length];exact wX z
    ·obtain⟨U,J⟩:=Fn T s
     exact k _ _ _ (C.trans (G.trans (R.trans J))) U (.tup BV ((XC h2 lo hi).mono J))
 | non=>cases e
 | bl _=>cases e
 | int _=>cases e
 | str _=>cases e
 | exc _=>cases e
 | fro g=>exact .inl (lst g rfl e)
 | ref n=>
  unfold Qp at e;dsimp only at e;split at e
  ·rename_i g s
   exact .inl (lst g s e)
  ·cases e
end
section
variable{X:Cx}{E:EW}{e:Expr}{p pos:Pos}{m:ME}
def He(m:ME):ME:=λe S=>(m e S).bind λd g=>match HN d g with
 | some l=>.ok (.tup l) g
 | none=>.bad
theorem FI(U:Gl X "tuple") (A:X.mg "tuple" = none) (h:GE X E e m) (O:AO [e] X.env=(false,BQ e X.env) :: AO [] X.env:=by rfl):GE X E (.Call (.Name "tuple" p) [e] [] pos) (He m):=
 (OV Sr U A PQ (De h E5 O) (by decide) (by decide) O rfl).imp<|by
 rintro σ H Q ⟨Y,l,S,Z,hs,A⟩
 refine⟨Y,l,S,Z,hs,A.seq λd S1 A C B x P I r1=>?_⟩
 cases g:HN d S1 with
 | none=>rw[g]at A;exact A.elim
 | some ds=>
  rw[g]at A
  have R:∀a s,x=.ref a->SqL X.K B a s->Ao X.K C B ds s->∃p J,[x]=[.ref p]/\((SqL X.K B p J/\∀l,B l=none->Q (.ref l) (upd B l (.tup J)))∨(SqT X.K B p J/\Q (.ref p) B)):=λa s e sq L=>by
   subst e;refine⟨a,s,rfl,.inl ⟨sq,λq g=>?_⟩⟩;obtain⟨s2,T⟩:=Fn I g;exact A _ _ _ (P.trans T) s2 (.tup BV (L.mono T))
  cases r1 with
  | @tup _ a s G N=>cases g;exact⟨a,s,rfl,.inr ⟨.inl (.inl G),A C B _ P I (.tup G N)⟩⟩
  | @fro _ a s G N=>cases g;exact R a s rfl G.sq N
  | @ref n a hn=>
   obtain⟨o,ho,ro⟩:=I.there hn;unfold HN at g;simp only[ho]at g
   cases o with
   | lst es=>cases g;obtain⟨s,e,L⟩:=ro;exact R a s rfl (.inl (.inl e)) L
   | _=>cases g
  | _=>cases g
def atL(d:D)(S:Sto):Option (Nat×List D):=match d with
 | .ref n=>match S[n]? with
  | some (.lst g)=>some (n,g)
  | _=>none
 | _=>none
theorem R1{K}{ρ}{S}{H}{d}{x}{n}{xs}(s:Bz K ρ S H)(r:Bf K ρ H d x)(h:atL d S=some (n,xs)):d=.ref n/\S[n]?=some (.lst xs)/\∃a vs,x=.ref a/\ρ[n]?=some a/\H a=some (.lst vs)/\Ao K ρ H xs vs:=by
 unfold atL at h;split at h
 ·split at h
  ·rename_i l g
   cases h;exact⟨rfl,g,Zq s r g⟩
  ·cases h
 ·cases h
theorem jX{K}{ρ}{S}{H}{n}{a}{vs g}{l}(s:Bz K ρ S H)(o:ρ[n]?=some a)(e:H a=some (.lst vs))(r:Ao K ρ H l g) :
  Bz K ρ (S.set n (.lst l)) (upd H a (.lst g))/\Le K ρ H ρ (upd H a (.lst g)):=by
 have le:Le K ρ H ρ (upd H a (.lst g)):=Le.write o (by rw[e];trivial);exact s.write o ⟨_,BV,r.mono le⟩ le
end
section
variable{X:Cx}
theorem range_getD{g:Type}(d:g)(bs:List g):(CV bs.length).map (λi=>bs.getD i d)=bs:=by
 apply Eg
 intro i;rw[Ak]
 by_cases h:i < bs.length
 ·rw[HJ h]
  simp[List.getD,h]
 ·rw[Cw.mpr (by simpa using h),Cw.mpr (by simpa using h)]
  rfl
theorem i9{bs:List Bool}{g:List AG}(r:BL (bs.map V.bl) g){i:Nat}{v:AG}(h:g.toArray[i]?=some v):v=.bool (bs.getD i false):=by
 have l:g[i]?=some v:=by simpa using h
 obtain⟨s,e⟩:=AH.mp l
 have hb:i < bs.length:=by have:=r.length;simp at this;lia
 obtain⟨u,m,o⟩:=r.get (show(bs.map V.bl)[i]?=some (V.bl bs[i]) by simp[hb]);rw[l]at m;cases m;rw[show v=J9 bs[i]from o];simp[List.getD,hb]
def eY(K:AE)(f:List Bool->Bool):List V->Hp->VK->Prop:=λg H Q=>∃p bs,g=[.ref p]/\(SqL K H p (bs.map V.bl)∨SqT K H p (bs.map V.bl))/\Q (.bl (f bs)) H
theorem Y6{L:List (AR×Obj)}{s:AK}{N:St}{H:Hp}{p:AR}{bs:List Bool}{R:AG->AK->Prop}{E:AG->AK->Prop}(U:X.calm=true)(I:Inv X L N H s)(m:SqL X.K H p (bs.map V.bl)∨SqT X.K H p (bs.map V.bl))
  (h:∀B J,(∃I Y wr n P St O,B=A7 I/\iT X.prog X.w X.A.in1 I Y wr n P St/\St 0 J.heap/\TruthOf X.prog X.w X.A.in1 P O/\(CV n).map O=bs /\
   ∀(h':Bu) (tk:Nat),(∀b o,¬b∈wr->J.heap.get? b=some o->h'.get? b=some o)->Inv X L N H { J with heap:=h',toks:=tk })->R B J) :
  AZ (AU X.prog X.w) X.A.in1 (MF (.ref p)) R E s:=by
 have S:X.A.in1.handled=none:=I.ok.hd U
 have fin:∀(g:List AG),BL (bs.map V.bl) g->(CV g.toArray.size).map (λi=>bs.getD i false)=bs:=λg r=>by
  have:g.toArray.size=bs.length:=by have:=r.length;simp at this;simpa using this.symm
  rw[this,range_getD]
 have C:∀(g:List AG),BL (bs.map V.bl) g->TruthOf X.prog X.w X.A.in1 (λi v=>g.toArray[i]?=some v) (λi=>bs.getD i false):=λg r i v s Q E Z q=>by
  rw[i9 r Z];exact Cc q
 have kp:∀(T:Obj) (h':Bu) (tk:Nat),(∀b o,¬b∈[s.heap.objs.size]->(s.heap.push T).get? b=some o->h'.get? b=some o)->Inv X L N H { s with heap:=h',toks:=tk }:=λT h' tk k=>
  I.kept λb o e=>k b o (by simpa using Ae (AS e)) (AB _ e)
 rcases m with m | m
 ·obtain⟨g,G,l,hz⟩:=I.list m
  refine D2 l.isList (h _ _ ⟨s.heap.objs.size,_,_,_,_,_,_,rfl,af S _ p (Ae (AS l.isList.choose_spec.1)) g.toArray,⟨⟨_,AJ _ rfl,rfl,rfl⟩,?_⟩,C g G,fin g G,kp _⟩)
  exact l.isList.at λo e=>AB _ e
 ·obtain⟨g,G,l,hz⟩:=I.tuple m
  have pt:=l;refine Dj pt (h _ _ ⟨s.heap.objs.size,_,_,_,_,_,_,rfl,Xu S _ p (Ae l.lt) g.toArray,⟨⟨_,AJ _ rfl,rfl,rfl⟩,?_⟩,C g G,fin g G,kp _⟩);obtain⟨o,e,c⟩:=pt;exact⟨o,AB _ e,c⟩
theorem cP(l:X.calm=true):HE X (.builtin "all") (eY X.K λbs=>bs.all id):=by
 intro L s N H O R Q I r h;obtain⟨p,bs,rfl,m,q⟩:=h;obtain⟨u,rfl,o⟩:=vals1 r;cases o;refine call_all_walk (Y6 l I m λA S ⟨J,B,wr,n,P,St,C,e,W,st,g,E,kp⟩=>⟨J,B,wr,n,P,St,C,e,W,st,g,λG tk k=>⟨.bl _,H,kp G tk k,rfl,?_⟩⟩);rw[<-E]at q;dsimp only at q;rw[Ov]at q;exact q
noncomputable def gy:List D->Option (List Bool)
 | []=>some []
 | .bl b :: g=>(gy g).map (b :: ·)
 | _ :: _=>none
theorem aU{K}{ρ}{H}:∀{ds:List D} {vs:List V} {bs:List Bool},Ao K ρ H ds vs->gy ds=some bs->vs=bs.map V.bl
 | _,_,_,.nil,h=>by cases h;rfl
 | .bl b :: ds,_,bs,.cons r t,h=>by
  unfold gy at h
  cases g:gy ds with
  | none=>rw[g]at h;cases h
  | some l=>rw[g]at h;cases h;cases r;rw[aU t g];rfl
 | .non :: _,_,_,.cons r t,h=>by cases h
 | .int _ :: _,_,_,.cons r t,h=>by cases h
 | .str _ :: _,_,_,.cons r t,h=>by cases h
 | .tup _ :: _,_,_,.cons r t,h=>by cases h
 | .fro _ :: _,_,_,.cons r t,h=>by cases h
 | .ref _ :: _,_,_,.cons r t,h=>by cases h
 | .exc _ :: _,_,_,.cons r t,h=>by cases h
def pq(f:List Bool->Bool)(ds:List D)(S:Sto):Res D:=match gy ds with
 | some bs=>.ok (.bl (f bs)) S
 | none=>.bad
theorem eM:lH X.K (eY X.K f) (pq f):=λl H S s q A d B Q m o sq g k=>by
 unfold pq at g;split at g
 ·rename_i bs hb
  cases g;rw[aU o hb]at sq;exact⟨q,bs,rfl,sq,k l H _ .refl m (.bl _)⟩
 ·cases g
abbrev tW:=pq λbs=>bs.all id
def rZ:ZLi->Int:=λg=>mJ (λi=>g.getD i 0) g.length
theorem NT:∀(n:Nat),(∀i,i < n->f i=g i)->mJ f n=mJ g n
 | 0,_=>rfl
 | n+1,h=>by
  show mJ f n+f n=mJ g n+g n;rw[NT n λi l=>h i (by lia),h n (by lia)]
theorem Sq{g:ZLi}{l:List AG}(r:BL (g.map V.int) l):∃xs:Array (Int×Tok),l.toArray=intItems xs/\xs.size=g.length/\∀i,i < g.length->numAt xs i=g.getD i 0:=by
 induction g generalizing l with
 | nil=>
  cases r;exact⟨#[],by simp[intItems],rfl,λi m=>zX m (by simp)⟩
 | cons n g s=>
  cases r with
  | cons A B=>
   obtain⟨xs,o,C,E⟩:=s B;obtain⟨t,rfl⟩:=A;refine⟨#[(n,t)]++xs,?_,by simp[C];lia,λi m=>?_⟩
   ·unfold intItems at o ⊢
    rw[Array.map_append,<-o];simp
   ·cases i with
    | zero=>
     unfold numAt;rw[Array.getElem?_append_left (by simp)];simp
    | succ i=>
     have:=E i (by simpa using m);unfold numAt at this ⊢;rw[Array.getElem?_append_right (by simp)];simpa using this
def rl(K:AE)(f:ZLi->Int):List V->Hp->VK->Prop:=λl H Q=>∃p g,l=[.ref p]/\SqL K H p (g.map V.int)/\Q (.int (f g)) H
theorem cG(g:X.calm=true):HE X (.builtin "sum") (rl X.K rZ):=by
 intro L s N H l O Q I r h;obtain⟨p,P,rfl,m,q⟩:=h;obtain⟨u,rfl,o⟩:=vals1 r;cases o;obtain⟨R,A,B,S⟩:=I.list m;obtain⟨l,C,E,G⟩:=Sq A
 refine sum_intListG (I.ok.hd g) (by rw[<-C];exact B.isList) λT tk J kp=>⟨.int _,H,I.kept kp,⟨J,rfl⟩,?_⟩
 rw[E,NT _ G];exact q
noncomputable def Iq:List D->Option ZLi
 | []=>some []
 | .int b :: g=>(Iq g).map (b :: ·)
 | _ :: _=>none
theorem Gu:∀{ds:List D} {g:ZLi},Iq ds=some g->ds=g.map D.int
 | [],_,h=>by cases h;rfl
 | .int b :: ds,g,h=>by
  unfold Iq at h
  cases l:Iq ds with
  | none=>rw[l]at h;cases h
  | some m=>rw[l]at h;cases h;rw[Gu l];rfl
 | .non :: _,_,h=>by cases h
 | .bl _ :: _,_,h=>by cases h
 | .str _ :: _,_,h=>by cases h
 | .tup _ :: _,_,h=>by cases h
 | .fro _ :: _,_,h=>by cases h
 | .ref _ :: _,_,h=>by cases h
 | .exc _ :: _,_,h=>by cases h
def se(m:ME):ME:=λe S=>(m e S).bind λd g=>match OZ d g with
 | some l=>match Iq l with
  | some o=>.ok (.int (rZ o)) g
  | none=>.bad
 | none=>.bad
theorem pK(I:X.calm=true)(J:Gl X "sum") (g:X.mg "sum" = none) (h:GE X E e m) (B:AO [e] X.env=(false,BQ e X.env) :: AO [] X.env:=by rfl):GE X E (.Call (.Name "sum" p) [e] [] pos) (se m):=
 (Im (cG I) J g uA (De h E5 B) (by decide) (by decide) B rfl).imp<|by
 rintro σ H Q ⟨L,l,S,N,O,g⟩
 refine⟨L,l,S,N,O,g.seq λd P g o R x T C U=>?_⟩
 cases s:OZ d P with
 | none=>rw[s]at g;exact g.elim
 | some Y=>
  rw[s]at g;dsimp only at g
  cases A:Iq Y with
  | none=>rw[A]at g;exact g.elim
  | some Z=>
   rw[A]at g;obtain⟨p,xs,rfl,G,sq⟩:=LK C U s;rw[Gu A]at G;rw[G.ints]at sq;exact⟨p,Z,rfl,sq,g o R _ T C (.int _)⟩
noncomputable def tyD(d:D)(S:Sto):Option String:=match d with
 | .non=>some "NoneType"
 | .bl _=>some "bool"
 | .int _=>some "int"
 | .str _=>some "str"
 | .tup _=>some "tuple"
 | .ref n=>match S[n]? with
  | some (.lst _)=>some "list"
  | some (.dK _)=>some "dict"
  | some (.dT _)=>some "dict"
  | _=>none
 | .fro _=>none
 | .exc _=>none
theorem mz{K}{ρ}{S}{H}{d}{x}{T}(s:Bz K ρ S H)(r:Bf K ρ H d x)(h:tyD d S=some T):N0 K H x (.type T):=by
 cases r with
 | non=>cases h;exact .non
 | bl b=>cases h;exact .bl b
 | int i=>cases h;exact .int i
 | str i=>cases h;exact .str i
 | tup B _=>cases h;exact .tup B
 | fro _ _=>cases h
 | exc _ _=>cases h
 | @ref n a C=>
  obtain⟨o,E,g⟩:=s.there C;unfold tyD at h;simp only[E]at h
  cases o with
  | lst l=>cases h;obtain⟨m,e,A⟩:=g;exact .lst e
  | dK l=>cases h;obtain⟨m,e,A⟩:=g;exact .dK e
  | dT l=>cases h;obtain⟨m,e,A⟩:=g;exact .dT e
  | ins _ _=>cases h
  | fK _=>cases h
  | fT _=>cases h
  | mem _=>cases h
def lv(c T:String):Option Bool:=if T==c then some true else if T=="bool"&&c=="int" then some true else if ["NoneType", "bool", "int", "str", "tuple", "list", "dict"].contains T&&["bool", "int", "str", "tuple", "list", "dict"].contains c then some false else none
end
def Ko{α:Type}(r g:Res α):Res α:=match r with
 | .bad=>g
 | r=>r
theorem bT{g:Type}(r r':Res g):Ko r r'=r∨Ko r r'=r':=by cases r <;> simp[Ko]
def op2(f g:D->D->Sto->Res D):D->D->Sto->Res D:=λx y S=>Ko (f x y S) (g x y S)
theorem Z8(f g:D->D->Sto->Res D)(m o:ME)(l:Lo)(S:Sto):m2 (op2 f g) m o l S=m2 f m o l S∨m2 (op2 f g) m o l S=m2 g m o l S:=by
 unfold m2
 cases m l S with
 | ok x A=>
  dsimp only[Res.bind]
  cases o l A with
  | ok y s=>
   dsimp only[Res.bind];unfold op2
   rcases bT (f x y s) (g x y s)with e | e <;> rw[e] <;> simp
  | err c s=>exact .inl rfl
  | bad=>exact .inl rfl
 | err c A=>exact .inl rfl
 | bad=>exact .inl rfl
section
theorem gW{m g m2}(J:GE X E e g)(L:GE X E e m2)(h:∀l S,m l S=g l S∨m l S=m2 l S):GE X E e m:=by
 rintro o s A H Q I ⟨B,l,S,C,G,a⟩
 rcases h l S with q | q
 ·rw[q]at a;exact J o s A H Q I ⟨B,l,S,C,G,a⟩
 ·rw[q]at a;exact L o s A H Q I ⟨B,l,S,C,G,a⟩
theorem gD(C:GT X E e G)(J:GT X E e L)(h:∀l S,t l S=G l S∨t l S=L l S):GT X E e t:=by
 rintro g s m H Q I ⟨o,l,S,A,B,a⟩
 rcases h l S with q | q
 ·rw[q]at a;exact C g s m H Q I ⟨o,l,S,A,B,a⟩
 ·rw[q]at a;exact J g s m H Q I ⟨o,l,S,A,B,a⟩
theorem pI(G:GI X E g e J)(L:GI X E g e N)(h:∀l S,t l S=J l S∨t l S=N l S):GI X E g e t:=by
 rintro m s o H R I ⟨A,l,S,B,C,a⟩
 rcases h l S with q | q
 ·rw[q]at a;exact G m s o H R I ⟨A,l,S,B,C,a⟩
 ·rw[q]at a;exact L m s o H R I ⟨A,l,S,B,C,a⟩
theorem lu{m g m2}(h:∀l S,m l S=g l S∨m l S=m2 l S)(l:Lo)(S:Sto):mB m l S=mB g l S∨mB m l S=mB m2 l S:=by
 unfold mB
 rcases h l S with q | q <;> rw[q] <;> simp
abbrev inA(neg:Bool):=op2 (inD neg) (Oh neg)
theorem tN(l:X.A.units+64 < Dm)(hi:GE X E i m)(ho:GE X E o mo)(g:CC .In o=false:=by with_unfolding_all rfl):GE X E (.Compare i [.In] [o] pos) (m2 (inA false) m mo):=
 gW (RT (lm l) hi ho g) (pL (by lia) hi ho g) λ_ _=>Z8 _ _ _ _ _ _
theorem To(l:X.A.units+64 < Dm)(hi:GE X E i m)(ho:GE X E o mo)(g:CC .In o=false:=by with_unfolding_all rfl):GT X E (.Compare i [.In] [o] pos) (mB (m2 (inA false) m mo)):=
 gD (B8 (lm l) hi ho g) (pA (by lia) hi ho g) (lu λ_ _=>Z8 _ _ _ _ _ _)
theorem EE(l:X.A.units+64 < Dm)(hi:GE X E i m)(ho:GE X E o mo)(g:CC .NotIn o=false:=by with_unfolding_all rfl):GT X E (.Compare i [.NotIn] [o] pos) (mB (m2 (inA true) m mo)):=
 gD (B8 (fL l) hi ho g) (bu (by lia) hi ho g) (lu λ_ _=>Z8 _ _ _ _ _ _)
abbrev ixA:=op2 ixD Rh
theorem Be(m:X.A.units+64 < Dm)(ho:GE X E o mo)(hi:GE X E i l)(g:Vc i:=by intro _ _;rfl):GE X E (.Subscript o i pos) (m2 ixA mo l):=
 gW (l8 sX ho hi g) (kc (by lia) ho hi g) λ_ _=>Z8 _ _ _ _ _ _
def Kb(d:D):On:=match d with
 | .tup g=>Lr g
 | d=>Kc d
def EV(m:ME):MI:=λe S=>(m e S).bind λd g=>match Kb d g with
 | some _=>.ok (Kb d) g
 | none=>.bad
theorem Cb(h:GE X E e m):GI X E o e (EV m):=pI (pH h) (pF h) λl S=>by
 unfold EV tG lw
 cases m l S with
 | ok d g=>
  dsimp only[Res.bind]
  cases d <;> first | exact .inl rfl | exact .inr rfl
 | err c g=>exact .inl rfl
 | bad=>exact .inl rfl
def HG(m:ME):ME:=λe S=>(m e S).bind λd g=>match HN d g with
 | some l=>.ok (.int l.length) g
 | none=>.bad
theorem Eo(o:Gl X "len") (s:X.mg "len" = none) (h:GE X E e m) (A:AO [e] X.env=(false,BQ e X.env) :: AO [] X.env:=by rfl):GE X E (.Call (.Name "len" p) [e] [] pos) (HG m):=
 (U5 VQ nK o s iV (gF h) (by decide) (by decide) A).imp λI H Q ⟨B,l,S,C,G,a⟩=>⟨B,l,S,C,G,by
  have q:mQ sj (Yr m) l S=HG m l S:=by
   unfold mQ Yr HG
   cases m l S with
   | ok d g=>
    dsimp only[Res.bind]
    cases HN d g <;> rfl
   | err c g=>rfl
   | bad=>rfl
  rw[q];exact a⟩
theorem kY(g:X.calm=true)(l:Gl X "min") (m:X.mg "min" = none) (h:GA X E [a,b] o) (s:AO [a,b] X.env=(false,BQ a X.env) :: AO [b] X.env:=by rfl) (A:(CT pos (AO [b] X.env)).any (·.1)=false:=by rfl):GE X E (.Call (.Name "min" p) [a,b] [] pos) (mQ Z5 o):=
 aF (cM g) lF l m QT h (by decide) (by decide) s A
theorem kZ(g:X.calm=true)(l:Gl X "max") (m:X.mg "max" = none) (h:GA X E [a,b] o) (s:AO [a,b] X.env=(false,BQ a X.env) :: AO [b] X.env:=by rfl) (A:(CT pos (AO [b] X.env)).any (·.1)=false:=by rfl):GE X E (.Call (.Name "max" p) [a,b] [] pos) (mQ Z6 o):=
 aF (cN g) lG l m uE h (by decide) (by decide) s A
theorem pN(g:X.calm=true)(l:Gl X "all") (o:X.mg "all" = none) (h:GE X E e m) (s:AO [e] X.env=(false,BQ e X.env) :: AO [] X.env:=by rfl):GE X E (.Call (.Name "all" p) [e] [] pos) (mQ tW (Yr m)):=
 U5 (cP g) eM l o uI (gF h) (by decide) (by decide) s
end
abbrev MJ:=Str->Lo->Sto->Res Str
def oi:MJ:=λg _ S=>if g.length<=sizeLine then .ok g S else .bad
def Wz(m:ME)(r:MJ):MJ:=λg e S=>(m e S).bind λd l=>match d with
 | .str y=>if (g++y).length<=sizeLine then r (g++y) e l else .bad
 | _=>.bad
def gJ(K:AE)(E:EW)(m:MJ)(o:Str):TE:=λA H Q=>∃l e S,E8 K l H e A/\Bz K l S H/\Br K (λc=>E c A) l H (m o e S) λy B=>∀g s,Le K l H g s->Bz K g B s->Q (.str y) s
def GJ(X:Cx)(E:EW)(es:List Expr)(m:MJ):Prop:=∀(g:Str) (o:List (AR×Obj)) (s:AK) (l:St) (H:Hp) (Q:VK),Inv X o l H s->gJ X.K E m g l H Q->AZ (AU X.prog X.w) X.A (joinParts g (evalEach es X.env)) (EP X o l Q) X.xe s
def lq(m:MJ):ME:=λe S=>(m Xa e S).bind λy g=>.ok (.str y) g
def oX(m:ME):ME:=λe S=>(m e S).bind λd g=>match d with
 | .int i=>if i.natAbs.log2 < 1920 then .ok (.str (toString i)) g else .bad
 | _=>.bad
section
theorem pE:GJ X E [] oi:=by
 rintro m C s G H Q I ⟨o,l,S,J,A,g⟩
 unfold oi at g;split at g
 ·rename_i B
  exact joinParts_nil ⟨.str m,H,I.tok _,⟨_,rfl⟩,g o H .refl A⟩ B
 ·exact g.elim
theorem QG(h:GE X E e m)(R:GJ X E es mj):GJ X E (e :: es) (Wz m mj):=by
 rintro o O s B H Q I ⟨T,l,S,P,U,g⟩
 refine joinParts_cons (thn (h O s B H (λx A=>∃y,x=.str y/\(o++y).length<=sizeLine/\gJ X.K E mj (o++y) B A Q) I ⟨T,l,S,P,U,Br.seq g λd Y g C A x G J Z=>?_⟩) λu J ⟨x,A,I1,rx,y,ex,L,q⟩=>?_)
 ·cases d <;> first | exact g.elim | skip
  dsimp only at g;split at g
  ·rename_i y L
   cases Z;exact⟨y,rfl,L,C,l,Y,P.mono G,J,g.go G λ_ _ k N H2 l2 s2=>k N H2 (G.trans l2) s2⟩
  ·exact g.elim
 ·subst ex
  obtain⟨t,rfl⟩:=rx;exact⟨L,R _ O J B A Q I1 q⟩
theorem ka(h:GJ X E (a :: b :: es) mj):GE X E (.JoinedStr (a :: b :: es) pos) (lq mj):=by
 rintro o s A H Q I ⟨B,l,S,C,G,g⟩
 refine JoinedStr_many (h Xa o s A H Q I ⟨B,l,S,C,G,Br.seq g λy O g m J L N=>g m J _ L N (.str y)⟩)
theorem gR(h:GE X E e m):GE X E (.FormattedValue e (-1) none pos) (oX m):=by
 rintro G s J H Q I ⟨L,l,S,N,O,g⟩
 refine FormattedValue_plain (thn (h G s J H (λx o=>∃i:Int,x=.int i/\i.natAbs.log2 < 1920/\Q (.str (toString i)) o) I ⟨L,l,S,N,O,Br.seq g λd Y g A o x P C R=>?_⟩) λu C ⟨x,o,T,U,i,ex,B,q⟩=>?_)
 ·cases d <;> first | exact g.elim | skip
  dsimp only at g;split at g
  ·rename_i B
   cases R;exact⟨_,rfl,B,g A o _ P C (.str _)⟩
  ·exact g.elim
 ·subst ex
  obtain⟨t,rfl⟩:=U;exact wpAny_formatField_int B ⟨.str (toString i),o,T.tok _,⟨_,rfl⟩,q⟩
end
def isB(t A:String):Option Bool:=if ["NoneType", "bool", "int", "str", "tuple", "list", "dict"].contains A then lv t A else none
def mIs(g:String->Option Bool)(tabC:AR->Option Bool)(m:ME):ME:=λe S=>(m e S).bind λd l=>match d with
 | .exc C=>match tabC C with
  | some b=>.ok (.bl b) l
  | none=>.bad
 | d=>match tyD d l with
  | some T=>match g T with
   | some b=>.ok (.bl b) l
   | none=>.bad
  | none=>.bad
noncomputable def i4(g:SH)(x:Str):Bool:=decide (g.names.lookup x=some .local)||decide (g.names.lookup x=some .cell)||decide (g.names.lookup x=some .free)
def gw(X:Cx)(scope:SH)(own N':List Str):Bool:=
 decide (scope.kind=.function)&&scope.names.all (λy=>!decide (y.2=.local)||decide (scope.names.lookup y.1=some .local)) &&
 scope.names.all (λy=>!decide (y.2=.free)||decide (X.env.kindOf y.1=some .cell)||decide (X.env.kindOf y.1=some .free))&&decide (N'.length=own.length+X.N.length) &&
 ((N'.drop own.length).zip X.N).all (λp=>!i4 (Ig scope X.env) p.1||(decide (p.1=p.2)&&i4 X.env.scope p.1&&(decide ((Ig scope X.env).names.lookup p.1=some .cell)||decide ((Ig scope X.env).names.lookup p.1=some .free))&&!decide (X.env.kindOf p.1=some .local)&&!scope.names.any (λz=>decide (z=(p.1,Cg)))&&scope.names.any (λz=>decide (z=(p.1,FC))))) &&
 (Ig scope X.env).names.all (λy=>(!decide (y.2=.cell)&&!decide (y.2=.free))||scope.names.any (λz=>decide (z=(y.1,FC)))||scope.names.any (λz=>decide (z=(y.1,Cg))))
theorem V4:i4 g x=true↔Vis g x:=by
 unfold i4 Vis;simp[or_assoc]
theorem DT(h:gw X scope own N'=true):M2 X scope own N':=by
 unfold gw at h;simp only[Bv]at h;obtain⟨⟨⟨⟨⟨I,o⟩,s⟩,A⟩,B⟩,C⟩:=h;rw[BU]at o s B C;refine⟨of_decide_eq_true I,λy m e=>?_,λy m e=>?_,of_decide_eq_true A,λi x e v=>?_,λx l=>?_⟩
 ·have:=o y m
  simpa[e]using this
 ·have:=s y m
  simpa[e]using this
 ·have E:=of_decide_eq_true A
  have S:=(AH.mp e).1
  have l:i < X.N.length:=by lia
  have J:(x,X.N[i])∈(N'.drop own.length).zip X.N:=by
   rw[List.mem_iff_getElem?];refine⟨i,?_⟩;rw[List.getElem?_zip_eq_some];exact⟨by rw[B4];exact e,by simp[l]⟩
  have:=B _ J;rw[V4.mpr v]at this;simp only[Bool.not_true,mV,Bv,R8,decide_eq_true_eq,GM,decide_eq_false_iff_not]at this;obtain⟨⟨⟨⟨⟨L,O⟩,P⟩,Q⟩,G⟩,z6⟩:=this;refine⟨⟨by rw[L];simp[l],V4.mp O,P,Q⟩,λq=>?_,?_⟩
  ·rw[dO]at G
   exact G _ q (wX rfl)
  ·obtain⟨z,H,e⟩:=G0.mp z6
   rw[of_decide_eq_true e]at H;exact H
 ·have g:∀k,(Ig scope X.env).names.lookup x=some k->(k=.cell∨k=.free)->(x,FC)∈scope.names∨(x,Cg)∈scope.names:=λk e R=>by
   have:=C _ (DI e)
   rcases R with rfl | rfl
   ·simpa using this
   ·simpa using this
  rcases l with e | e
  ·exact g _ e (.inl rfl)
  ·exact g _ e (.inr rfl)
structure Dfn(K:AE)(mg:Str->Option AG)(x qual:Str)(st:Bw)(ps:List Str) where
 f:AR
 fd:Hx
 F:Fun K x qual st f fd
 b:Binds K fd ps []
 m:mg x=some (.ref f)
theorem Dfn.kp{K}{l}{x g}{st}{m}(d:Dfn K l x g st m):Ee K (.ref d.f)=true:=d.F.kp
structure Mtd(K:AE)(x qual:Str)(st:Bw)(ps:List Str) where
 f:AR
 fd:Hx
 F:Fun K x qual st f fd
 b:Binds K fd ps []
structure Own(K:AE)(mg:Str->Option AG)(x:Str)(C f:AR):Prop where
 cl:Cls K C
 mk':Mk K C f
 m:mg x=some (.ref C)
structure Xcl(K:AE)(mg:Str->Option AG)(x:Str)(C:AR):Prop where
 xc:XCl K C
 m:mg x=some (.ref C)
abbrev wN:Nat:=1000000
structure XIs(K:AE)(C:AR):Prop where
 cl:(Gg K C).isSome=true
 ga:CF K (.ref C) "__getattribute__" = some (some (.builtin "BaseException.__getattribute__"))
 gn:CF K (.ref C) "__getattr__" = some none
 ca:CF K (.ref C) "__class__" = some (some (.builtin "object.__class__"))
 sp:ZM K (.builtin "object.__class__") "__get__" = some (some (.builtin "getset_descriptor.__get__"))
 tk:cg K (.builtin "object.__class__")=some true
 ob:Lj K C (.type "object")=some true
 be:Lj K C (.type "BaseException")=some true
theorem Vd.inst(g:h.get? a=some o)(x:Vd o C):dJ h a o C none:=by
 obtain⟨l,m,A,s⟩:=x;refine⟨g,l,?_,?_⟩
 ·unfold PySem.W.notCls;rw[s]
 ·rw[m];trivial
section
variable{prog:BJ}{w:Bs}{A:BX}{E:AG->AK->Prop}{s:AK}{K:AE}{a C:AR}{o:Obj}
theorem cB(c:XIs K C)(X:K.In s.heap)(g:s.heap.get? a=some o)(x:Vd o C)(h:Q () s):AZ M A (qj "BaseException.__getattribute__" ⟨[.ref a,nameV],[]⟩) Q E s:=by
 have I:=x.inst g;obtain⟨l,G,d,t,os⟩:=s;have m:=I.type (M:=M);have B:Gh M l (isInstance (.ref a) (.type "BaseException")) true:=m.andThen (PySem.W.looks_mroIn X c.be)
 have H:builtinKind "BaseException.__getattribute__" = some .slot:=by decide +kernel
 have J:splitId "BaseException.__getattribute__" = some ("BaseException", "__getattribute__"):=by decide +kernel
 have L:=PySem.F.args_bexc_ga (.ref a) nameV;refine AA (B.at ?_)
 repeat(any_goals (first | assumption | wp_step))
theorem b9(c:XIs K C)(X:K.In s.heap)(g:s.heap.get? a=some o)(x:Vd o C)(h:Q (.done (.ret (.ref C))) s) :
  AZ (AU prog w) A (Builtin.«object.__getattribute__» ⟨[.ref a,.str "__class__" tk],[]⟩) Q E s:=by
 have I:=x.inst g;obtain⟨H,J,d,t,os⟩:=s;have l:=I.type (M:=AU prog w)
 have m:cj K C none "__class__" = some (.bind (.builtin "getset_descriptor.__get__") (.builtin "object.__class__")):=by
  obtain⟨L,B⟩:=Ib.mp c.cl;unfold cj;rw[B,c.ca];simp only[cp];rw[c.sp];simp only[cp];rw[c.tk];rfl
 have G:=PySem.W.looks_find (M:=AU prog w) X I m;unfold Builtin.«object.__getattribute__»;refine AA (AC ?_);refine AA (AC (AA (l.at (AA (G.at ?_)))));unfold iH;refine AA (Bq (JE (PySem.W.class_get X I c.ob ?_)));exact AC h
theorem cA(c:XIs K C)(X:K.In s.heap)(g:s.heap.get? a=some o)(x:Vd o C)(h:Q (some (.ref C)) { s with toks:=s.toks+1 }):AZ (AU prog w) A (getAttr? (.ref a) "__class__") Q E s:=by
 have I:=x.inst g;obtain⟨G,H,d,t,os⟩:=s;have l:=I.type (M:=AU prog w);have m:=KQ (M:=AU prog w) X c.ga;have L2:=KQ (M:=AU prog w) X c.gn;unfold getAttr? getAttrBy? getAttrBy;refine AA (wpAny_mkText (AA (DA (Bq (AA (l.at (AA (m.at ?_))))))))
 have B:(onTheHeap (A7 C)&&lN "BaseException.__getattribute__"==lN "object.__getattribute__")=false:=by show(true&&_)=false;decide +kernel
 dsimp only;rw[qY (by rw[B];exact Af)];unfold getAttrByItsOwn hookBefore;refine AA ?_;rw[qX (show onTheHeap (A7 C)=true from rfl)];refine L2.at (AA (DA (Bq ?_)));unfold callGetattribute;rw[qY (by simp)];unfold boundAndCalled;refine AA (FK (QS.ga.bind (.ref a)) ?_);refine JE (FM QS.ga.plain PySem.F.entry_bexc_ga (cB c X g x (b9 c X g x ?_)));exact AC (AC h)
theorem fb(c:XIs K C):PySem.W.KitX K (.ref a) (.ref C) (λh=>∃o,h.get? a=some o/\Vd o C) where
 ty:=λM h X ⟨o,g,x⟩=>(x.inst g).type
 it:=λM h X _=>by
  have z:=c.cl;unfold Gg at z;split at z
  ·rename_i l
   intro B G H I k q;unfold isType loadHead;exact AA (Xl (k _ _ (X _ _ l)) (AC q))
  ·cases z
 ne:=λh J L N n sl X m=>by
  refine Bool.eq_false_iff.mpr λq=>?_
  have e:=A7.inj (beq_iff_eq.mp q);subst e;have z:=c.cl;unfold Gg at z;split at z
  ·rename_i l
   have y:=(X _ _ l).symm.trans m;cases y
  ·cases z
 ca:=λX ⟨o,g,x⟩ k=>cA c X g x k
end
def rIs(K:AE)(c:V)(cv:AG):List V->Hp->VK->Prop:=λg H Q=>(∃x t b,g=[x,c]/\N0 K H x t/\Dy K t cv=some b/\Q (.bl b) H) ∨
 ∃a o u C b,g=[.ref a,c]/\H a=some (.frz o u)/\Vd o C/\XIs K C/\Dy K (.ref C) cv=some b/\Q (.bl b) H
section
variable{X:Cx}{E:EW}{e ce:Expr}{c:V}
theorem k8(A:∀u,RelV c u->u=cv):HE X (.builtin "isinstance") (rIs X.K c cv):=by
 intro L s N H O P Q I r h
 rcases h with⟨x,t,b,rfl,ty,e,q⟩ | ⟨a,o,u,C,b,rfl,B,G,J,e,q⟩
 ·obtain⟨v,w,rfl,l,m⟩:=vals2 r
  rw[A w m]
  exact bn I l ty e λtk=>⟨.bl b,H,I.tok tk,rfl,q⟩
 ·obtain⟨v,w,rfl,l,m⟩:=vals2 r
  rw[A w m];cases(l);obtain⟨g,_⟩:=(I.hok a _ B)
  exact CI (fb J) I.kIn ⟨o,g,G⟩ e (λz=>nomatch z) λtk=>⟨.bl b,H,I.tok tk,rfl,q⟩
theorem tM(hv:∀u,RelV c u->u=cv)(ht:∀T b,s T=some b->Dy X.K (.type T) cv=some b)(R:∀C b,tabC C=some b->XIs X.K C/\Dy X.K (.ref C) cv=some b)
  (hg:Gl X "isinstance") (o:X.mg "isinstance" = none) (h:GE X E e m) (I:PE X ce (tC c))
  (U:AO [e,ce] X.env=(false,BQ e X.env) :: AO [ce] X.env:=by rfl) (vx:AO [ce] X.env=(false,BQ ce X.env) :: AO [] X.env:=by rfl) (uL:(CT pos (AO [ce] X.env)).any (·.1)=false:=by rfl) :
  GE X E (.Call (.Name "isinstance" p) [e,ce] [] pos) (mIs s tabC m):=
 (Im (k8 hv) hg o uG (De h (De I E5 vx) U) (by decide) (by decide) U uL).imp<|by
 rintro σ H Q ⟨J,l,S,hl,hs,o⟩
 refine⟨J,l,S,hl,hs,o.seq λd L o B N x Y O Z=>?_⟩
 have xY:∀(z:Br X.K (λc=>E c σ) J H (match tyD d L with | some T=>(match s T with | some b=>Res.ok (D.bl b) L | none=>.bad) | none=>.bad) λd S'=>∀A G x,Le X.K J H A G->Bz X.K A S' G->Bf X.K A G d x->Q x G),rIs X.K c cv [x,c] N Q:=λo=>by
  cases P:tyD d L with
  | none=>rw[P]at o;exact o.elim
  | some T=>
   rw[P]at o;dsimp only at o
   cases hb:s T with
   | none=>rw[hb]at o;exact o.elim
   | some b=>
    rw[hb]at o;exact .inl ⟨x,_,b,rfl,mz O Z P,ht T b hb,o B N _ Y O (.bl _)⟩
 cases d with
 | exc C=>
  dsimp only at o
  cases hb:tabC C with
  | none=>rw[hb]at o;exact o.elim
  | some b=>
   rw[hb]at o
   cases Z with
   | exc g x=>exact .inr ⟨_,_,_,C,b,rfl,g,x,(R C b hb).1,(R C b hb).2,o B N _ Y O (.bl _)⟩
 | _=>exact xY o
end
end L2
namespace Srt
structure Ord(U:A8->Prop)(lt:A8->A8->Bool):Prop where
 asym:∀x y,U x->U y->lt x y=true->lt y x=false
 ntr:∀x y z,U x->U y->U z->lt y x=false->lt z y=false->lt z x=false
theorem Ord.irr(o:Ord U lt)(h:U x):lt x x=false:=by
 cases e:lt x x with
 | false=>rfl
 | true=>exact(o.asym x x h h e).symm.trans e |>.symm▸rfl
def ix(xs:Array A8)(i:Nat):A8:=xs.getD i (.none,.none)
theorem Ip(h:xs[i]?=g[j]?):ix xs i=ix g j:=by
 unfold ix;rw[Eb,Eb,h]
theorem DJ(h:i < xs.size):xs[i]?=some (ix xs i):=by
 unfold ix;rw[Eb,getElem?_pos xs i h];rfl
theorem bj(m:g < xs.size)(o:d<=g)(k:Nat) :
  ix (bubble xs g d) k=if k=g - d then ix xs g else if g - d < k/\k<=g then ix xs (k - 1)else ix xs k:=by
 have e:=getElem?_bubble m d o k;split
 ·rename_i h;rw[qX h]at e;exact Ip e
 ·rename_i h
  rw[qY h]at e;split
  ·rename_i l;rw[qX l]at e;exact Ip e
  ·rename_i l;rw[qY l]at e;exact Ip e
theorem D0(g:j<=xs.size)(k:Nat) :
  ix (QO xs i j ((j - i) / 2)) k=if i<=k/\k < j then ix xs (i+j - 1 - k)else ix xs k:=by
 have e:=getElem?_mirror_all (i:=i) g k;split
 ·rename_i h;rw[qX h]at e;exact Ip e
 ·rename_i h;rw[qY h]at e;exact Ip e
section
def JB(prog:BJ)(w:Bs)(A:BX)(s:AK)(a₀:Array A8)(g:LV)(lt:A8->A8->Bool):Prop:=
 ∀x y,x∈a₀->y∈a₀->∀(Q:Bool->AK->Prop) (E:AG->AK->Prop),Q (lt x y) s->AZ (AU prog w) A (keyLt' g x.1 y.1) Q E s
structure Good(a₀:Array A8)(κ:LV)(st:A6):Prop where
 perm:(AY st).Perm a₀
 kind:kindOf st=κ
 failed:GB st=none
theorem Good.size{st:A6}(g:Good a₀ l st):(AY st).size=a₀.size:=g.perm.size_eq
theorem Good.mem{st:A6}(g:Good a₀ m st){i:Nat}(h:i < a₀.size):ix (AY st) i∈a₀:=by
 have l:i < (AY st).size:=by rw[g.size];exact h
 have e:=DJ l;have:=Cy e;exact BD.mp ((Co.mp g.perm).mem_iff.mp (BD.mpr this))
theorem Good.setArr{st:A6}(g:Good a₀ l st){xs:Array A8}(m:xs.Perm (AY st)):Good a₀ l (setArr st xs):=⟨m.trans g.perm,g.kind,g.failed⟩
theorem QZ{st:A6}{x y:A8}{Q:Option Bool->A6->Prop}(C:JB prog w A s a₀ l lt)(g:Good a₀ l st)(m:x∈a₀)(o:y∈a₀)(h:Q (some (lt x y)) st):wpS (AU prog w) A E s (lt' x y) Q st:=by
 rw[lt'_eq];refine AX (Ec ?_);rw[g.kind];refine AX (wpS_lift (DA ?_));refine C x y m o _ _ ⟨rfl,?_⟩;exact Ac h
theorem OG{st:A6}{i j:Nat}{Q:Option Bool->A6->Prop}(C:JB prog w A s a₀ m lt)(g:Good a₀ m st)(hi:i < a₀.size)(l:j < a₀.size)(h:Q (some (lt (ix (AY st) i) (ix (AY st) j))) st) :
  wpS (AU prog w) A E s (qN i j) Q st:=by
 rw[ltAt'_eq];refine AX (Ec ?_);show wpS _ _ _ _ (do let x <-elem' (AY st) i;let y <-elem' (AY st) j;lt' x y) Q st;rw[iQ,iQ,DJ (by rw[g.size];exact hi),DJ (by rw[g.size];exact l)];exact AX (Ac (AX (Ac (QZ C g (g.mem hi) (g.mem l) h))))
def Up(lt:A8->A8->Bool)(xs:Array A8)(lo hi:Nat):Prop:=∀i j,lo<=i->i<=j->j < hi->lt (ix xs j) (ix xs i)=false
def Dn(lt:A8->A8->Bool)(xs:Array A8)(lo hi:Nat):Prop:=∀i j,lo<=i->i<=j->j < hi->lt (ix xs i) (ix xs j)=false
def Out(xs g:Array A8)(lo hi:Nat):Prop:=∀i,(i < lo∨hi<=i)->ix g i=ix xs i
theorem Out.refl{xs:Array A8}{lo hi:Nat}:Out xs xs lo hi:=λ_ _=>rfl
theorem Out.trans{xs g l:Array A8}{lo hi:Nat}(a:Out xs g lo hi)(b:Out g l lo hi):Out xs l lo hi:=λi h=>(b i h).trans (a i h)
theorem Up.out{xs g:Array A8}{lo hi l h:Nat}(u:Up lt xs l h)(o:Out xs g lo hi)(d:h<=lo∨hi<=l):Up lt g l h:=λi j m s A=>by
 rw[o i (by lia),o j (by lia)];exact u i j m s A
theorem Up.grow{st:A6}(O:Ord (·∈a₀) lt)(g:Good a₀ B st){lo hi:Nat}(l:hi < a₀.size)(u:Up lt (AY st) lo hi)(C:lo < hi)(h:lt (ix (AY st) hi) (ix (AY st) (hi - 1))=false):Up lt (AY st) lo (hi+1):=λi j m o E=>by
 by_cases s:j < hi
 ·exact u i j m o s
 ·have:j=hi:=by lia
  subst this
  by_cases A:i=j
  ·subst A;exact O.irr (g.mem l)
  ·exact O.ntr _ _ _ (g.mem (by lia)) (g.mem (by omega)) (g.mem l) (u i (j - 1) m (by lia) (by lia)) h
theorem wpS_binarySort{st:A6}{lo n ok:Nat}{Q:Bool->A6->Prop}(C:JB prog w A s a₀ S lt)(O:Ord (·∈a₀) lt)(hn:lo+n<=a₀.size)(hok:ok<=n)(g:Good a₀ S st)(u:Up lt (AY st) lo (lo+ok))
  (h:∀m,Good a₀ S m->Up lt (AY m) lo (lo+n)->Out (AY st) (AY m) lo (lo+n)->AW m=AW st->Q true m):wpS (AU prog w) A E s (binarySort' lo n ok) Q st:=by
 rw[binarySort'_eq]
 refine AX (Er (Cf (I:=λk c m=>c=(none,())/\Good a₀ S m/\Up lt (AY m) lo (lo+min k n)/\Out (AY st) (AY m) lo (lo+n)/\AW m=AW st)
  (Q:=λc m=>c=(none,())/\Good a₀ S m/\Up lt (AY m) lo (lo+n)/\Out (AY st) (AY m) lo (lo+n)/\AW m=AW st) ?step ?fin ?init) ?post)
 case post=>
  rintro c m ⟨rfl,X,Y,Z,p'⟩;exact Ac (h m X Y Z p')
 case init=>
  refine⟨rfl,g,λi j R T h3=>?_,.refl,rfl⟩
  by_cases h0:ok=0
  ·have:i=j:=by lia
   subst this;exact O.irr (g.mem (by omega))
  ·exact u i j R T (by lia)
 case fin=>
  rintro c m ⟨hc,X,Y,Z,p'⟩;refine⟨hc,X,?_,Z,p'⟩;rwa [show min (max (max ok 1) n) n=n by lia]at Y
 case step=>
  rintro k c H hak hkn ⟨rfl,B,U,o1,p1⟩;rw[show min k n=k by lia]at U
  have L:lo+k < a₀.size:=by lia
  refine AX (Er (Cf (I:=λx c o=>o=H/\∃l r,c=(none,l,r)/\l<=r/\r<=k/\r - l<=k - x /\
    (∀i,i < l->lt (ix (AY H) (lo+k)) (ix (AY H) (lo+i))=false)/\(∀i,r<=i->i < k->lt (ix (AY H) (lo+k)) (ix (AY H) (lo+i))=true))
   (Q:=λc o=>o=H/\∃l r,c=(none,l,r)/\l<=k /\
    (∀i,i < l->lt (ix (AY H) (lo+k)) (ix (AY H) (lo+i))=false)/\(∀i,l<=i->i < k->lt (ix (AY H) (lo+k)) (ix (AY H) (lo+i))=true)) ?istep ?ifin ?iinit) ?ipost)
  case iinit=>exact⟨rfl,0,k,rfl,by lia,by lia,by lia,λi hi=>by lia,λi R T=>by lia⟩
  case ifin=>
   rintro c o ⟨rfl,l,r,rfl,hlr,J,hm,N,P⟩
   have:l=r:=by lia
   subst this;exact⟨rfl,l,l,rfl,J,N,P⟩
  case istep=>
   rintro x c o _ hxk ⟨rfl,l,r,rfl,hlr,J,hm,N,P⟩
   by_cases uY:l ≥ r
   ·rw[qX uY]
    have:l=r:=by lia
    subst this;exact Ac ⟨rfl,l,l,rfl,J,N,P⟩
   ·rw[qY uY]
    refine AX (OG C B L (by lia) ?_)
    cases G:lt (ix (AY o) (lo+k)) (ix (AY o) (lo+(l+r) / 2))with
    | true=>
     refine Ac ⟨rfl,l,(l+r) / 2,rfl,by lia,by lia,by omega,N,λi R T=>?_⟩
     cases e:lt (ix (AY o) (lo+k)) (ix (AY o) (lo+i))with
     | true=>rfl
     | false=>
      have:=O.ntr _ _ _ (B.mem (by lia)) (B.mem (by lia)) (B.mem L) (U (lo+(l+r) / 2) (lo+i) (by lia) (by lia) (by lia)) e;rw[G]at this;cases this
    | false=>
     refine Ac ⟨rfl,(l+r) / 2+1,r,rfl,by lia,by omega,by omega,λi R=>?_,P⟩;exact O.ntr _ _ _ (B.mem (by lia)) (B.mem (by lia)) (B.mem L) (U (lo+i) (lo+(l+r) / 2) (by lia) (by lia) (by lia)) G
  case ipost=>
   rintro c o ⟨rfl,l,r,rfl,hlk,N,P⟩;show wpS _ _ _ _ (do moveDown' (lo+k) (lo+l);pure (Gr (none,()))) _ _;rw[moveDown'_eq]
   have hks:lo+k < (AY o).size:=by rw[B.size];exact L
   have e:∀i,ix (bubble (AY o) (lo+k) (lo+k - (lo+l))) i=if i=lo+l then ix (AY o) (lo+k)else if lo+l < i/\i<=lo+k then ix (AY o) (i - 1)else ix (AY o) i:=λi=>by
    rw[bj hks (by lia),show lo+k - (lo+k - (lo+l))=lo+l by lia]
   refine AX (Cv (Ac ⟨rfl,B.setArr (bubble_perm _ _ _),?_,o1.trans λi hi=>?_,p1⟩))
   ·rw[show min (k+1) n=k+1 by lia]
    intro i j R T h3;rw[e,e]
    repeat' split
    all_goals first
     | (exfalso;lia)
     | exact O.irr (B.mem L)
     | (have q:=N (i - lo) (by lia);rw[show lo+(i - lo)=i by lia]at q;exact q)
     | (have q:=P (j - 1 - lo) (by omega) (by omega);rw[show lo+(j - 1 - lo)=j - 1 by lia]at q;exact O.asym _ _ (B.mem L) (B.mem (by lia)) q)
     | exact U _ _ (by omega) (by omega) (by lia)
   ·rw[e,qY (by lia),qY (by lia)]
end
section
theorem HM{g:Type}{M:Xz}{r:String}{Q:PUnit->g->Prop}{st:g}(h:Q ⟨⟩ st):wpS M A E s (liftM (rule r):StateT g Sem PUnit) Q st:=wpS_lift (HI ⟨rfl,h⟩)
theorem Dn.flip{xs:Array A8}{lo hi:Nat}(g:hi<=xs.size)(d:Dn lt xs lo hi):Up lt (QO xs lo hi ((hi - lo) / 2)) lo hi:=λi j l m o=>by
 rw[D0 g,D0 g,qX (by lia),qX (by lia)];exact d _ _ (by omega) (by omega) (by omega)
theorem Dn.part{xs:Array A8}{lo hi m:Nat}(g:hi<=xs.size)(o:lo<=m)(l:m<=hi)(d:Dn lt xs lo hi)(e:Up lt xs m hi):Dn lt (QO xs m hi ((hi - m) / 2)) lo hi:=λi j s A B=>by
 rw[D0 g,D0 g]
 by_cases C:m<=i
 ·rw[qX (by lia),qX (by lia)]
  exact e _ _ (by omega) (by omega) (by omega)
 ·rw[qY (by lia)]
  split
  ·exact d _ _ (by omega) (by lia) (by omega)
  ·exact d _ _ (by omega) (by omega) (by omega)
theorem Jb{xs:Array A8}{i j lo hi:Nat}(g:j<=xs.size)(l:lo<=i)(m:j<=hi):Out xs (QO xs i j ((j - i) / 2)) lo hi:=λk o=>by
 rw[D0 g,qY (by lia)]
theorem Dn.grow{st:A6}(O:Ord (·∈a₀) lt)(g:Good a₀ B st){lo hi:Nat}(l:hi < a₀.size)(u:Dn lt (AY st) lo hi)(C:lo < hi)(h:lt (ix (AY st) (hi - 1)) (ix (AY st) hi)=false):Dn lt (AY st) lo (hi+1):=λi j m o E=>by
 by_cases s:j < hi
 ·exact u i j m o s
 ·have:j=hi:=by lia
  subst this
  by_cases A:i=j
  ·subst A;exact O.irr (g.mem l)
  ·exact O.ntr _ _ _ (g.mem l) (g.mem (by omega)) (g.mem (by lia)) h (u i (j - 1) m (by lia) (by lia))
theorem X9(O:Ord (·∈a₀) lt){st:A6}(g:Good a₀ o st){lo:Nat}(h:lo < a₀.size):Up lt (AY st) lo (lo+1):=λi j s A B=>by
 have l:i=lo:=by lia
 have m:j=lo:=by lia
 rw[l,m];exact O.irr (g.mem h)
theorem iq{st:A6}{lo ud n:Nat}{Q:Option Nat->A6->Prop}(C:JB prog w A s a₀ o lt)(O:Ord (·∈a₀) lt)(L:1<=n)(N:n<=ud)(P:lo+ud<=a₀.size)(g:Good a₀ o st)(u:Up lt (AY st) lo (lo+n))
  (h:∀n,1<=n->n<=ud->Up lt (AY st) lo (lo+n)->Q (some n) st):wpS (AU prog w) A E s (do
   let mut n:=n
   for _ in [n:ud] do
    let some B <-qN (lo+n) (lo+n - 1) | return none
    if B then break
    n:=n+1
   return some n) Q st:=by
 refine AX (Er (Cf (I:=λx c l=>l=st/\c=(none,x)/\Up lt (AY st) lo (lo+x))
  (Q:=λc l=>l=st/\∃n,c=(none,n)/\1<=n/\n<=ud/\Up lt (AY st) lo (lo+n)) ?step ?fin ⟨rfl,rfl,u⟩) ?post)
 case fin=>
  rintro c l ⟨rfl,rfl,u⟩
  have e:max n ud=ud:=by lia
  rw[e]at u ⊢;exact⟨rfl,ud,rfl,by lia,AN _,u⟩
 case step=>
  rintro x c l R G ⟨rfl,rfl,u⟩;refine AX (OG C g (by lia) (by lia) ?_)
  cases H:lt (ix (AY l) (lo+x)) (ix (AY l) (lo+x - 1))with
  | true=>exact Ac ⟨rfl,x,rfl,by lia,by lia,u⟩
  | false=>exact Ac ⟨rfl,rfl,Up.grow O g (by lia) u (by lia) H⟩
 case post=>
  rintro c l ⟨rfl,n,rfl,m,J,u⟩;exact Ac (h n m J u)
theorem wpS_countRun{st}{lo ud}{Q}(C:JB prog w A s a₀ J lt)(O:Ord (·∈a₀) lt)(h1:1<=ud)(hn:lo+ud<=a₀.size)(g:Good a₀ J st)
  (h:∀l n,Good a₀ J l->1<=n->n<=ud->Up lt (AY l) lo (lo+n)->Out (AY st) (AY l) lo (lo+ud)->AW l=AW st->Q (some n) l):wpS (AU prog w) A E s (countRun' lo ud) Q st:=by
 rw[countRun'_eq]
 refine AX (Er (Cf (I:=λx c l=>l=st/\c=(none,x)/\Up lt (AY st) lo (lo+x))
  (Q:=λc l=>l=st/\∃n,c=(none,n)/\1<=n/\n<=ud/\Up lt (AY st) lo (lo+n)/\(n=ud∨lt (ix (AY st) (lo+n)) (ix (AY st) (lo+n - 1))=true)) ?step ?fin ?init) ?post)
 case init=>
  refine⟨rfl,rfl,λi j a1 a2 a3=>?_⟩
  have:i=j:=by lia
  subst this;exact O.irr (g.mem (by lia))
 case fin=>
  rintro c l ⟨rfl,rfl,u⟩
  have e:max 1 ud=ud:=by lia
  rw[e]at u ⊢;exact⟨rfl,ud,rfl,h1,AN _,u,.inl rfl⟩
 case step=>
  rintro x c l yC hx2 ⟨rfl,rfl,u⟩;refine AX (OG C g (by lia) (by lia) ?_)
  cases P:lt (ix (AY l) (lo+x)) (ix (AY l) (lo+x - 1))with
  | true=>exact Ac ⟨rfl,x,rfl,yC,by lia,u,.inr P⟩
  | false=>exact Ac ⟨rfl,rfl,Up.grow O g (by lia) u (by lia) P⟩
 case post=>
  rintro c l ⟨rfl,n,rfl,Y,vB,u,hd⟩;dsimp only
  by_cases U:n=ud
  ·rw[qX (by simpa using U)]
   exact Ac (h l n g Y vB u .refl rfl)
  ·rw[qY (by simpa using U)]
   have uV:=hd.resolve_left U
   have S:∀(ug:A6),Good a₀ J ug->Dn lt (AY ug) lo (lo+(n+1))->Out (AY l) (AY ug) lo (lo+ud)->AW ug=AW l ->
     wpS (AU prog w) A E s (do
      liftM (rule "list.sort.descending-run")
      let mut n:=n+1
      let mut neq:=0
      for _ in [n:ud] do
       let some Z <-qN (lo+n) (lo+n - 1) | return none
       if Z then
        if neq > 0 then P3 (lo+n - (neq+1)) (lo+n)
        neq:=0
       else
        let some xZ <-qN (lo+n - 1) (lo+n) | return none
        if xZ then break
        neq:=neq+1
       n:=n+1
      if neq > 0 then P3 (lo+n - (neq+1)) (lo+n)
      P3 lo (lo+n)
      for _ in [n:ud] do
       let some Z <-qN (lo+n) (lo+n - 1) | return none
       if Z then break
       n:=n+1
      return some n) Q ug:=by
    intro ug g1 d1 o1 p1;refine AX (HM ?_)
    refine AX (Er (Cf (I:=λx c B=>Good a₀ J B/\∃q,c=(none,x,q)/\q+1<=x/\Dn lt (AY B) lo (lo+x)/\Up lt (AY B) (lo+x - (q+1)) (lo+x)/\Out (AY l) (AY B) lo (lo+ud)/\AW B=AW l)
     (Q:=λc B=>Good a₀ J B/\∃n q,c=(none,n,q)/\n<=ud/\q+1<=n/\Dn lt (AY B) lo (lo+n)/\Up lt (AY B) (lo+n - (q+1)) (lo+n)/\Out (AY l) (AY B) lo (lo+ud)/\AW B=AW l) ?dstep ?dfin ?dinit) ?dpost)
    case dinit=>
     refine⟨g1,0,rfl,by lia,d1,?_,o1,p1⟩;have:=X9 O g1 (lo:=lo+n) (by lia);rwa [show lo+(n+1) - (0+1)=lo+n by lia,show lo+(n+1)=lo+n+1 by lia]
    case dfin=>
     rintro c B ⟨G,q,rfl,P,d2,T,L,N⟩
     have e:max (n+1) ud=ud:=by lia
     rw[e]at d2 T P ⊢;exact⟨G,ud,q,rfl,AN _,P,d2,T,L,N⟩
    case dstep=>
     rintro x c B yC hx2 ⟨G,q,rfl,P,d2,T,L,N⟩;refine AX (OG C G (by lia) (by lia) ?_)
     cases hs:lt (ix (AY B) (lo+x)) (ix (AY B) (lo+x - 1))with
     | true=>
      dsimp only;rw[qX rfl];have uf:=O.asym _ _ (G.mem (by lia)) (G.mem (by lia)) hs
      by_cases H:q > 0
      ·rw[qX H,LS]
       have o:lo+x<=(AY B).size:=by rw[G.size];lia
       have X:Good a₀ J (setArr B (QO (AY B) (lo+x - (q+1)) (lo+x) ((lo+x - (lo+x - (q+1))) / 2))):=G.setArr (Vh _ _ _ _);have d3:=Dn.part o (by lia) (by omega) d2 T;refine AX (Cv (Ac ⟨X,0,rfl,by lia,?_,?_,L.trans (Jb o (by lia) (by lia)),N⟩))
       ·refine Dn.grow O X (by lia) d3 (by lia) ?_
        show lt (ix (QO (AY B) (lo+x - (q+1)) (lo+x) ((lo+x - (lo+x - (q+1))) / 2)) (lo+x - 1)) (ix (QO (AY B) (lo+x - (q+1)) (lo+x) ((lo+x - (lo+x - (q+1))) / 2)) (lo+x))=false;rw[D0 o,D0 o,qX (by omega),qY (by lia)];exact O.ntr _ _ _ (G.mem (by lia)) (G.mem (by lia)) (G.mem (by omega)) uf (d2 _ _ (by lia) (by omega) (by lia))
       ·have:=X9 O X (lo:=lo+x) (by lia)
        rwa [show lo+(x+1) - (0+1)=lo+x by lia,show lo+(x+1)=lo+x+1 by lia]
      ·rw[qY H]
       refine Ac ⟨G,0,rfl,by lia,Dn.grow O G (by lia) d2 (by lia) uf,?_,L,N⟩;have:=X9 O G (lo:=lo+x) (by lia);rwa [show lo+(x+1) - (0+1)=lo+x by lia,show lo+(x+1)=lo+x+1 by lia]
     | false=>
      dsimp only;rw[qY Af];refine AX (OG C G (by lia) (by lia) ?_)
      cases hl:lt (ix (AY B) (lo+x - 1)) (ix (AY B) (lo+x))with
      | true=>exact Ac ⟨G,x,q,rfl,by lia,P,d2,T,L,N⟩
      | false=>
       refine Ac ⟨G,q+1,rfl,by lia,Dn.grow O G (by lia) d2 (by lia) hl,?_,L,N⟩;rw[show lo+(x+1) - (q+1+1)=lo+x - (q+1) by lia];exact Up.grow (hi:=lo+x) O G (by lia) T (by omega) hs
    case dpost=>
     rintro c B ⟨G,m,q,rfl,hm,P,d2,T,L,N⟩;dsimp only
     have o:lo+m<=(AY B).size:=by rw[G.size];lia
     have last:∀vn,Good a₀ J vn->Dn lt (AY vn) lo (lo+m)->Out (AY l) (AY vn) lo (lo+ud)->AW vn=AW l->∀(R:StateT A6 Sem (Option Nat)),R=(do
        let mut n:=m
        for _ in [n:ud] do
         let some Z <-qN (lo+n) (lo+n - 1) | return none
         if Z then break
         n:=n+1
        return some n)->wpS (AU prog w) A E s (do P3 lo (lo+m);R) Q vn:=by
      rintro vn X d3 o3 p3 R rfl
      have za:lo+m<=(AY vn).size:=by rw[X.size];lia
      rw[LS];refine AX (Cv ?_);have g4:Good a₀ J (setArr vn (QO (AY vn) lo (lo+m) ((lo+m - lo) / 2))):=X.setArr (Vh _ _ _ _)
      exact iq C O (by lia) hm hn g4 (Dn.flip za d3) λk k1 k2 k3=>h _ k g4 k1 k2 k3 (o3.trans (Jb za (by lia) (by lia))) p3
     by_cases H:q > 0
     ·rw[qX H,LS]
      refine AX (Cv ?_);exact last _ (G.setArr (Vh _ _ _ _)) (Dn.part o (by lia) (by omega) d2 T) (L.trans (Jb o (by lia) (by lia))) N _ rfl
     ·rw[qY H]
      exact last _ G d2 L N _ rfl
   have uf:=O.asym _ _ (g.mem (by lia)) (g.mem (by omega)) uV
   by_cases Ι:n > 1
   ·rw[qX Ι]
    refine AX (OG C g (by lia) (by omega) ?_)
    cases hr:lt (ix (AY l) lo) (ix (AY l) (lo+n - 1))with
    | true=>exact Ac (h l n g Y vB u .refl rfl)
    | false=>
     dsimp only;rw[qY Af,LS]
     have o:lo+n<=(AY l).size:=by rw[g.size];lia
     have g1:Good a₀ J (setArr l (QO (AY l) lo (lo+n) ((lo+n - lo) / 2))):=g.setArr (Vh _ _ _ _)
     have al:∀i j,lo<=i->i < lo+n->lo<=j->j < lo+n->lt (ix (AY l) i) (ix (AY l) j)=false:=λi j i1 i2 j1 j2=>by
      have q1:=u j (lo+n - 1) (by omega) (by lia) (by omega);have q2:=u lo i (by lia) (by omega) (by omega);exact O.ntr _ _ _ (g.mem (by lia)) (g.mem (by lia)) (g.mem (by lia)) (O.ntr _ _ _ (g.mem (by lia)) (g.mem (by lia)) (g.mem (by lia)) q1 hr) q2
     refine AX (Cv ?_);refine S _ g1 ?_ (Jb o (by lia) (by lia)) rfl;refine Dn.grow (hi:=lo+n) O g1 (by lia) (λi j a1 a2 a3=>?_) (by lia) ?_
     ·rw[D0 o,D0 o,qX (by lia),qX (by lia)]
      exact al _ _ (by omega) (by omega) (by omega) (by omega)
     ·rw[D0 o,D0 o,qX (by omega),qY (by lia),show lo+(lo+n) - 1 - (lo+n - 1)=lo by omega]
      exact O.ntr _ _ _ (g.mem (by lia)) (g.mem (by lia)) (g.mem (by lia)) uf hr
   ·rw[qY Ι]
    have e:n=1:=by lia
    subst e;refine S _ g (Dn.grow O g (by lia) (λi j a1 a2 a3=>?_) (by lia) uf) .refl rfl
    have e1:i=lo:=by lia
    have e2:j=lo:=by lia
    rw[e1,e2];exact O.irr (g.mem (by lia))
end
def tO:Bool->A8->Array A8->Nat->Nat->Nat->StateT A6 Sem (Option Nat):=sortPriv% PySem.Builtin.gallop
section
abbrev BS:=Option (Option Nat)×Nat×Nat
theorem k9{st:A6}{p:Nat->Bool}{n lo hi:Nat}{F:Nat->BS->StateT A6 Sem (ForInStep BS)}{T:BS->StateT A6 Sem (Option Nat)}{Q:Option Nat->A6->Prop}(G:lo<=hi)(H:hi<=n)
  (L:∀i,i < lo->p i=true) (N:∀i,hi<=i->i < n->p i=false) (mono:∀i j,i<=j->j < n->p j=true->p i=true)
  (O:∀x l h (R:ForInStep BS->A6->Prop),l<=h->h<=n->(l ≥ h->R (.done (none,l,h)) st)->(l < h->p (l+(h - l) / 2)=true->R (.yield (none,l+(h - l) / 2+1,h)) st)->(l < h->p (l+(h - l) / 2)=false->R (.yield (none,l,l+(h - l) / 2)) st) ->
   wpS (AU prog w) A E s (F x (none,l,h)) R st)
  (P:∀l h,h<=n->(∀i,i < h->p i=true)->(∀i,h<=i->i < n->p i=false)->wpS (AU prog w) A E s (T (none,l,h)) Q st):wpS (AU prog w) A E s (forIn [0:n] (none,lo,hi) F >>= T) Q st:=by
 refine AX (Er (Cf (I:=λx c g=>g=st/\∃l h,c=(none,l,h)/\l<=h/\h<=n/\h - l<=n - x/\(∀i,i < l->p i=true)/\(∀i,h<=i->i < n->p i=false))
  (Q:=λc g=>g=st/\∃l h,c=(none,l,h)/\h<=n/\(∀i,i < h->p i=true)/\(∀i,h<=i->i < n->p i=false)) ?step ?fin ⟨rfl,lo,hi,rfl,G,H,by lia,L,N⟩) ?post)
 case fin=>
  rintro c g ⟨rfl,l,h,rfl,J,m,S,o,B⟩
  have:l=h:=by lia
  subst this;exact⟨rfl,l,l,rfl,m,o,B⟩
 case step=>
  rintro x c g _ Z ⟨rfl,l,h,rfl,J,m,S,o,B⟩
  refine O x l h _ J m (λuY=>?_) (λU C=>?_) λU C=>?_
  ·have:l=h:=by lia
   subst this;exact⟨rfl,l,l,rfl,m,o,B⟩
  ·exact⟨rfl,_,_,rfl,by lia,m,by omega,λi hi=>mono i (l+(h - l) / 2) (by lia) (by lia) C,B⟩
  ·refine⟨rfl,_,_,rfl,by lia,by lia,by omega,o,λi X Y=>?_⟩
   cases e:p i with
   | false=>rfl
   | true=>rw[mono _ i X Y e]at C;cases C
 case post=>
  rintro c g ⟨rfl,l,h,rfl,m,o,B⟩;exact P l h m o B
theorem aG{st:A6}{q:Nat->Bool}{n mx:Nat}{F:Nat->BS->StateT A6 Sem (ForInStep BS)}{T:BS->StateT A6 Sem (Option Nat)}{Q:Option Nat->A6->Prop}(O:mx<=n)(G:q 0=true)
  (H:∀x a b (R:ForInStep BS->A6->Prop),a < b->(b ≥ mx->R (.done (none,a,b)) st)->(b < mx->q b=false->R (.done (none,a,b)) st)->(b < mx->q b=true->R (.yield (none,b,2 * b+1)) st)->wpS (AU prog w) A E s (F x (none,a,b)) R st)
  (J:∀a b,a < b->q a=true->(a=0∨a < mx)->(b < mx->q b=false)->wpS (AU prog w) A E s (T (none,a,b)) Q st):wpS (AU prog w) A E s (forIn [0:n] (none,0,1) F >>= T) Q st:=by
 refine AX (Er (Cf (I:=λx c g=>g=st/\∃a b,c=(none,a,b)/\a < b/\x+1<=b/\q a=true/\(a=0∨a < mx))
  (Q:=λc g=>g=st/\∃a b,c=(none,a,b)/\a < b/\q a=true/\(a=0∨a < mx)/\(b < mx->q b=false)) ?step ?fin ⟨rfl,0,1,rfl,by lia,by lia,G,.inl rfl⟩) ?post)
 case fin=>
  rintro c g ⟨rfl,a,b,rfl,l,L,m,o⟩;exact⟨rfl,a,b,rfl,l,m,o,λh=>by lia⟩
 case step=>
  rintro x c g _ P ⟨rfl,a,b,rfl,l,L,m,o⟩
  refine H x a b _ l (λS=>?_) (λC B=>?_) λC B=>?_
  ·exact⟨rfl,a,b,rfl,l,m,o,λh=>by lia⟩
  ·exact⟨rfl,a,b,rfl,l,m,o,λ_=>B⟩
  ·exact⟨rfl,b,2 * b+1,rfl,by lia,by lia,B,.inr C⟩
 case post=>
  rintro c g ⟨rfl,a,b,rfl,l,m,o,N⟩;exact J a b l m o N
theorem GV{st:A6}{left:Bool}{key:A8}{arr:Array A8}{base n hint:Nat}{Q:Option Nat->A6->Prop}(C:JB prog w A s a₀ κ lt)(g:Good a₀ κ st)(p:Nat->Bool)
  (Z:key∈a₀) (Ο:∀i,i < n->base+i < arr.size/\ix arr (base+i)∈a₀) (hp:∀i,i < n->p i=if left=true then lt (ix arr (base+i)) key else !lt key (ix arr (base+i)))
  (mono:∀i j,i<=j->j < n->p j=true->p i=true) (hh:hint < n)
  (h:∀k,k<=n->(∀i,i < k->p i=true)->(∀i,k<=i->i < n->p i=false)->Q (some k) st):wpS (AU prog w) A E s (tO left key arr base n hint) Q st:=by
 have S:∀i,i < n->∀R:Option Bool->A6->Prop,R (some (p i)) st->wpS (AU prog w) A E s (do let x <-elem' arr (base+i);if left=true then lt' x key else do let y <-lt' key x;pure (y.map (!·))) R st:=by
  intro i B R hR;obtain⟨P,I⟩:=Ο i B;rw[iQ,DJ P];refine AX (Ac ?_);rw[hp i B]at hR
  cases left with
  | true=>exact QZ C g I Z hR
  | false=>exact AX (QZ C g Z I (Ac hR))
 refine(AX ?_:wpS _ _ _ _ (tO left key arr base n hint) Q st);refine S hint hh _ ?_
 have fin:∀(lo B:Nat) {F:Nat->BS->StateT A6 Sem (ForInStep BS)} {T:BS->StateT A6 Sem (Option Nat)},lo<=B->B<=n->(∀i,i < lo->p i=true)->(∀i,B<=i->i < n->p i=false) ->
   (∀x l m (R:ForInStep BS->A6->Prop),l<=m->m<=n->(l ≥ m->R (.done (none,l,m)) st)->(l < m->p (l+(m - l) / 2)=true->R (.yield (none,l+(m - l) / 2+1,m)) st)->(l < m->p (l+(m - l) / 2)=false->R (.yield (none,l,l+(m - l) / 2)) st) ->
    wpS (AU prog w) A E s (F x (none,l,m)) R st)->(∀l m,T (none,l,m)=pure (some m))->wpS (AU prog w) A E s (forIn [0:n] (none,lo,B) F >>= T) Q st:=λlo B F T P I h3 h4 hF hT=>
  k9 P I h3 h4 mono hF λl m q1 q2 q3=>by rw[hT];exact Ac (h m q1 q2 q3)
 cases hq:p hint with
 | true=>
  dsimp only;rw[qX rfl]
  refine aG (q:=λi=>decide (hint+i < n)&&p (hint+i)) (mx:=n - hint) (by lia) (by simp[hq,hh]) (λx a b R Y J L N=>?_) λa b Y G ha hb=>?_
  ·by_cases o:b ≥ n - hint
   ·rw[qX o];exact Ac (J o)
   ·rw[qY o]
    refine AX (S (hint+b) (by lia) _ ?_);have H:decide (hint+b < n)=true:=wX (by lia)
    cases e:p (hint+b)with
    | true=>exact Ac (N (by lia) (by simp[H,e]))
    | false=>exact Ac (L (by lia) (by simp[H,e]))
  ·have X:p (hint+a)=true:=by simp at G;exact G.2
   have U:hint+a < n:=by simp at G;exact G.1
   refine fin (hint+a+1) (hint+min b (n - hint)) (by omega) (by omega) (λi B=>mono i (hint+a) (by lia) U X) (λi P I=>?_) (λx l m R l1 l2 J L N=>?_) λl m=>rfl
   ·by_cases O:b < n - hint
    ·have:=hb O
     have H:decide (hint+b < n)=true:=wX (by lia);rw[H,mU]at this
     cases e:p i with
     | false=>rfl
     | true=>rw[mono (hint+b) i (by lia) I e]at this;cases this
    ·omega
   ·by_cases o:l ≥ m
    ·rw[qX o];exact Ac (J o)
    ·rw[qY o]
     refine AX (S (l+(m - l) / 2) (by lia) _ ?_)
     cases e:p (l+(m - l) / 2)with
     | true=>exact Ac (L (by lia) e)
     | false=>exact Ac (N (by lia) e)
 | false=>
  dsimp only;rw[qY Af]
  refine aG (q:=λi=>decide (i<=hint)&&!p (hint - i)) (mx:=hint+1) (by lia) (by simp[hq]) (λx a b R Y J L N=>?_) λa b Y G ha hb=>?_
  ·by_cases o:b ≥ hint+1
   ·rw[qX o];exact Ac (J o)
   ·rw[qY o]
    refine AX (S (hint - b) (by omega) _ ?_);have H:decide (b<=hint)=true:=wX (by lia)
    cases e:p (hint - b)with
    | true=>exact Ac (L (by lia) (by simp[H,e]))
    | false=>exact Ac (N (by lia) (by simp[H,e]))
  ·have X:p (hint - a)=false:=by simp at G;exact G.2
   have U:a<=hint:=by simp at G;exact G.1
   refine fin (hint+1 - min b (hint+1)) (hint - a) (by omega) (by omega) (λi B=>?_) (λi P I=>?_) (λx l m R l1 l2 J L N=>?_) λl m=>rfl
   ·by_cases O:b < hint+1
    ·have:=hb O
     have H:decide (b<=hint)=true:=wX (by lia);rw[H,mU]at this;exact mono i (hint - b) (by omega) (by lia) (by simpa using this)
    ·omega
   ·cases e:p i with
    | false=>rfl
    | true=>rw[mono (hint - a) i P I e]at X;cases X
   ·by_cases o:l ≥ m
    ·rw[qX o];exact Ac (J o)
    ·rw[qY o]
     refine AX (S (l+(m - l) / 2) (by lia) _ ?_)
     cases e:p (l+(m - l) / 2)with
     | true=>exact Ac (L (by lia) e)
     | false=>exact Ac (N (by lia) e)
end
structure MI(R:A8->A8->Prop)(T o ra rb:List A8):Prop where
 perm:(o++(ra++rb)).Perm T
 srt:o.Pairwise R
 low:∀x∈o,∀y∈ra++rb,R x y
 sa:ra.Pairwise R
 sb:rb.Pairwise R
structure KM(R:A8->A8->Prop)(T r:List A8):Prop where
 perm:r.Perm T
 srt:r.Pairwise R
section
theorem MI.takeA(m:MI R T o (xs++A) rb)(h:∀x∈xs,∀y∈rb,R x y):MI R T (o++xs) A rb:=by
 have s:=Bi.mp m.sa;refine⟨by simpa[Bj]using m.perm,Bi.mpr ⟨m.srt,s.1,λx g y l=>m.low x g y (by simp[l])⟩,λx g y l=>?_,s.2.1,m.sb⟩
 rcases Bg.mp g with g | g
 ·exact m.low x g y (by rcases Bg.mp l with h | h <;> simp[h])
 ·rcases Bg.mp l with l | l
  ·exact s.2.2 x g y l
  ·exact h x g y l
theorem MI.takeB(m:MI R T o A (xs++rb))(h:∀x∈xs,∀y∈A,R x y):MI R T (o++xs) A rb:=by
 have s:=Bi.mp m.sb;refine⟨?_,Bi.mpr ⟨m.srt,s.1,λx g y l=>m.low x g y (by simp[l])⟩,λx g y l=>?_,m.sa,s.2.1⟩
 ·refine DD.trans ?_ m.perm
  rw[Bj];refine F8 o ?_;rw[<-Bj,<-Bj];exact SL rb X1
 ·rcases Bg.mp g with g | g
  ·exact m.low x g y (by rcases Bg.mp l with h | h <;> simp[h])
  ·rcases Bg.mp l with l | l
   ·exact h x g y l
   ·exact s.2.2 x g y l
theorem MI.endA(m:MI R T o g []):KM R T (o++g):=by
 refine⟨by simpa using m.perm,Bi.mpr ⟨m.srt,m.sa,λx l y s=>m.low x l y (by simp[s])⟩⟩
theorem MI.endB(m:MI R T o [] g):KM R T (o++g):=by
 refine⟨by simpa using m.perm,Bi.mpr ⟨m.srt,m.sb,λx l y s=>m.low x l y (by simp[s])⟩⟩
theorem MI.last(m:MI R T o g l)(h:∀y∈l,∀x∈g,R y x):KM R T (o++(l++g)):=by
 refine⟨(F8 o X1).trans m.perm,Bi.mpr ⟨m.srt,Bi.mpr ⟨m.sb,m.sa,h⟩,λx s y A=>m.low x s y (by rcases Bg.mp A with h | h <;> simp[h])⟩⟩
end
theorem QK(h:i < a.size):a.toList.drop i=ix a i :: a.toList.drop (i+1):=by
 rw[Ic (by simpa using h)]
 congr 1
 have:=DJ h;rw[getElem?_pos a i h]at this;simpa using this
theorem Hn{a:Array A8}{i k:Nat}(h:i+k<=a.size):a.toList.drop i=(a.extract i (i+k)).toList++a.toList.drop (i+k):=by
 have e:(a.extract i (i+k)).toList=(a.toList.drop i).take k:=by simp[Ou]
 rw[e,<-lP,Gp]
theorem QB(h:i+k<=a.size)(g:x∈(a.extract i (i+k)).toList):∃j,j < k/\x=ix a (i+j):=by
 rw[BD,P5]at g;obtain⟨j,l,rfl⟩:=g;refine⟨j,by lia,?_⟩;have:=DJ (xs:=a) (i:=i+j) (by lia);rw[getElem?_pos a _ (by lia)]at this;simpa using this
theorem IH(a:Array A8)(i:Nat):(a.extract i a.size).toList=a.toList.drop i:=by
 simp[Ou];exact CP (by simp)
theorem FX(g:x∈a.toList.drop i):∃j,i<=j/\j < a.size/\x=ix a j:=by
 obtain⟨k,l,rfl⟩:=E2.mp g;simp at l;refine⟨i+k,by lia,by omega,?_⟩;have:=DJ (xs:=a) (i:=i+k) (by omega);rw[getElem?_pos a _ (by omega)]at this;simpa using this
theorem P7{g:Type}{M:Xz}{A:BX}{E:AG->AK->Prop}{s:AK}{c:Prop}[Decidable c]{a b:StateT A6 Sem g}{Q:g->A6->Prop}{st:A6}(l:c->wpS M A E s a Q st)(hb:¬c->wpS M A E s b Q st):wpS M A E s (if c then a else b) Q st:=by
 split
 ·exact l ‹_›
 ·exact hb ‹_›
theorem DS{g:Type}{M:Xz}{A:BX}{E:AG->AK->Prop}{s:AK}{x y:Nat}{a b:StateT A6 Sem g}{Q:g->A6->Prop}{st:A6}(l:x=y->wpS M A E s a Q st)(hb:¬x=y->wpS M A E s b Q st):wpS M A E s (if (x==y)=true then a else b) Q st:=P7 (λh=>l (by simpa using h)) λh=>hb (by simpa using h)
theorem Il{M:Xz}{A:BX}{E:AG->AK->Prop}{s:AK}{l m B:Type}{a b:Nat}{f:Nat->m->StateT l Sem (ForInStep m)}{k:m->StateT l Sem B}{R:B->l->Prop}(I:Nat->m->l->Prop){Q:m->l->Prop}
  (step:∀F,f=F->∀(i:Nat) (c:m) (st:l),a<=i->i < b->I i c st->wpS M A E s (F i c) (λr g=>match r with | .done o=>Q o g | .yield o=>I (i+1) o g) st)
  (fin:∀c st,I (max a b) c st->Q c st) {c:m} {st:l} (init:I a c st) (post:∀K,k=K->∀c g,Q c g->wpS M A E s (K c) R g):wpS M A E s (forIn [a:b] c f >>= k) R st:=AX (Er (Cf I (step f rfl) fin init) (post k rfl))
theorem dX{l g:Type}{M:Xz}{A:BX}{E:AG->AK->Prop}{s:AK}{c:g->Prop}{d:∀i,Decidable (c i)}{F t:g->StateT A6 Sem l}{Q:l->A6->Prop}{st:A6}(h:∀i,wpS M A E s (F i) Q st)(m:(∀i,wpS M A E s (F i) Q st)->∀i,wpS M A E s (t i) Q st)(i:g):wpS M A E s (if c i then t i else F i) Q st:=P7 (λ_=>m h i) λ_=>h i
theorem P6{m g l:Type}{M:Xz}{A:BX}{E:AG->AK->Prop}{s:AK}{c:g->l->Prop}{d:∀i j,Decidable (c i j)}{F t:g->l->StateT A6 Sem m}{x:g}{y:l}{Q:m->A6->Prop}{st:A6}(I:g->l->Prop)(h:∀i j,I i j->wpS M A E s (F i j) Q st)(o:(∀i j,I i j->wpS M A E s (F i j) Q st)->c x y->wpS M A E s (t x y) Q st)(B:¬c x y->I x y):∀i,x=i->∀j,y=j->wpS M A E s (if c i j then t i j else F i j) Q st:=λ_ e _ f=>e▸f▸P7 (o h) λn=>h x y (B n)
theorem OF{g:Type}{M:Xz}{A:BX}{E:AG->AK->Prop}{s:AK}{c:Prop}{d:Decidable c}{x:g}{Q:ForInStep g->A6->Prop}{st:A6}(h:Q (.done x) st/\Q (.yield x) st):wpS M A E s (if c then pure (.done x)else pure (.yield x)) Q st:=P7 (λ_=>Ac h.1) λ_=>Ac h.2
section
variable{prog:BJ}{w:Bs}{A:BX}{E:AG->AK->Prop}{s:AK}{a₀:Array A8}{κ:LV}{lt:A8->A8->Bool}
theorem Qa{st:A6}{a:Array A8}{i:Nat}{Q:A8->A6->Prop}(h:i < a.size)(g:Q (ix a i) st):wpS (AU prog w) A E s (elem' a i) Q st:=by
 rw[iQ,DJ h];exact Ac g
theorem CW{g:Type}{st:A6}{a:Array A8}{i:Nat}{f:A8->StateT A6 Sem g}{Q:g->A6->Prop}(h:i < a.size)(l:wpS (AU prog w) A E s (f (ix a i)) Q st):wpS (AU prog w) A E s (elem' a i >>= f) Q st:=AX (Qa h l)
def mLo:Array A8->Array A8->StateT A6 Sem (Array A8):=sortPriv% PySem.Builtin.mergeLo
def mHi:Array A8->Array A8->StateT A6 Sem (Array A8):=sortPriv% PySem.Builtin.mergeHi
structure N1(a₀:Array A8)(κ:LV)(st st':A6):Prop where
 good:Good a₀ κ st'
 arr:AY st'=AY st
 pend:AW st'=AW st
theorem N1.gal{st g:A6}(h:N1 a₀ κ st g)(n:Nat):N1 a₀ κ st (DQ (kindOf g) (AY g) (AW g) n (GB g)):=⟨⟨h.good.perm,h.good.kind,h.good.failed⟩,h.arr,h.pend⟩
abbrev Rl(lt:A8->A8->Bool)(x y:A8):Prop:=lt y x=false
theorem V8(O:Ord (·∈a₀) lt){a:Array A8}(l:∀i,i < a.size->ix a i∈a₀)(m:a.toList.Pairwise (Rl lt)):∀i j,i<=j->j < a.size->Rl lt (ix a i) (ix a j):=λi j B g=>by
 by_cases e:i=j
 ·subst e;exact O.irr (l i g)
 ·have o:=QK (a:=a) (i:=i) (by lia)
  have:=m.sublist (List.drop_sublist i a.toList);rw[o]at this;refine(N6.mp this).1 _ ?_;rw[show a.toList.drop (i+1)=(a.extract (i+1) (i+1+(j - (i+1)))).toList++a.toList.drop (i+1+(j - (i+1)))from Hn (by lia),show i+1+(j - (i+1))=j by lia,QK g];simp
theorem U1(g:∀x∈a.toList,x∈a₀):∀i,i < a.size->ix a i∈a₀:=λi l=>g _ (BD.mpr (Cy (DJ l)))
theorem P8{st:A6}{n:Nat}{Q:Unit->A6->Prop}(h:Q () (DQ (kindOf st) (AY st) (AW st) n (GB st))):wpS (AU prog w) A E s ((sortPriv% PySem.Builtin.setMinGallop) n) Q st:=Cv h
abbrev GL(M:Array A8->Nat->Nat->Prop)(p q n t:Nat)(o:Array A8)(i j:Nat):Prop:=M o i j/\i+1 < p/\j < q/\t+n<=i+j
theorem io{st:A6}{a b:Array A8}{Q:Array A8->A6->Prop}(C:JB prog w A s a₀ κ lt)(O:Ord (·∈a₀) lt)(g:Good a₀ κ st)
  (ma:∀x∈a.toList,x∈a₀) (mb:∀x∈b.toList,x∈a₀) (sa:a.toList.Pairwise (Rl lt)) (sb:b.toList.Pairwise (Rl lt)) (na:0 < a.size) (nb:0 < b.size)
  (h0:∀x∈a.toList,Rl lt (ix b 0) x) (h1:∀y∈b.toList,Rl lt y (ix a (a.size - 1)))
  (h:∀r B,N1 a₀ κ st B->KM (Rl lt) (a.toList++b.toList) r.toList->Q r B):wpS (AU prog w) A E s (mLo a b) Q st:=by
 have R:=U1 ma;have S:=U1 mb;have ua:=V8 O R sa;have ub:=V8 O S sb
 have tr:∀x y z:A8,x∈a₀->y∈a₀->z∈a₀->Rl lt x y->Rl lt y z->Rl lt x z:=λx y z Z hy hz h1 h2=>O.ntr x y z Z hy hz h1 h2
 let M (out:Array A8) (l ib:Nat):Prop:=MI (Rl lt) (a.toList++b.toList) out.toList (a.toList.drop l) (b.toList.drop ib)
 have tA:∀out l ib,M out l ib->l < a.size->(∀j,ib<=j->j < b.size->Rl lt (ix a l) (ix b j))->M (out.push (ix a l)) (l+1) ib:=λout l ib m hia hr=>by
  have N:MI (Rl lt) (a.toList++b.toList) out.toList ([ix a l]++a.toList.drop (l+1)) (b.toList.drop ib):=by rw[Gq,<-QK hia];exact m
  have:=N.takeA λx Z y hy=>by
   obtain⟨j,P,H,rfl⟩:=FX hy;rw[A1.mp Z];exact hr j P H
  simpa[M]using this
 have tB:∀out l ib,M out l ib->ib < b.size->(∀j,l<=j->j < a.size->Rl lt (ix b ib) (ix a j))->M (out.push (ix b ib)) l (ib+1):=λout l ib m hib hr=>by
  have N:MI (Rl lt) (a.toList++b.toList) out.toList (a.toList.drop l) ([ix b ib]++b.toList.drop (ib+1)):=by rw[Gq,<-QK hib];exact m
  have:=N.takeB λx Z y hy=>by
   obtain⟨j,P,H,rfl⟩:=FX hy;rw[A1.mp Z];exact hr j P H
  simpa[M]using this
 have sA:∀out l ib k,M out l ib->l+k<=a.size->(∀i j,i < k->ib<=j->j < b.size->Rl lt (ix a (l+i)) (ix b j))->M (out++a.extract l (l+k)) (l+k) ib:=λout l ib k m hk hr=>by
  have N:MI (Rl lt) (a.toList++b.toList) out.toList ((a.extract l (l+k)).toList++a.toList.drop (l+k)) (b.toList.drop ib):=by rw[<-Hn hk];exact m
  have:=N.takeA λx Z y hy=>by
   obtain⟨j,P,H,rfl⟩:=FX hy;obtain⟨i,i1,rfl⟩:=QB hk Z;exact hr i j i1 P H
  show MI _ _ (out++a.extract l (l+k)).toList _ _;rw[Al];exact this
 have sB:∀out l ib k,M out l ib->ib+k<=b.size->(∀i j,i < k->l<=j->j < a.size->Rl lt (ix b (ib+i)) (ix a j))->M (out++b.extract ib (ib+k)) l (ib+k):=λout l ib k m hk hr=>by
  have N:MI (Rl lt) (a.toList++b.toList) out.toList (a.toList.drop l) ((b.extract ib (ib+k)).toList++b.toList.drop (ib+k)):=by rw[<-Hn hk];exact m
  have:=N.takeB λx Z y hy=>by
   obtain⟨j,P,H,rfl⟩:=FX hy;obtain⟨i,i1,rfl⟩:=QB hk Z;exact hr i j i1 P H
  show MI _ _ (out++b.extract ib (ib+k)).toList _ _;rw[Al];exact this
 have eB:∀out l ib,M out l ib->ib=b.size->KM (Rl lt) (a.toList++b.toList) (out++a.extract l a.size++b.extract ib b.size).toList:=λout l ib m e=>by
  subst e
  have N:MI (Rl lt) (a.toList++b.toList) out.toList (a.toList.drop l) []:=by
   have:b.toList.drop b.size=[]:=by simp
   rw[<-this];exact m
  rw[Al,Al,IH,IH,show b.toList.drop b.size=[] by simp,Bt];exact N.endA
 have eA:∀out l ib,M out l ib->l=a.size->KM (Rl lt) (a.toList++b.toList) (out++a.extract l a.size++b.extract ib b.size).toList:=λout l ib m e=>by
  subst e
  have N:MI (Rl lt) (a.toList++b.toList) out.toList [] (b.toList.drop ib):=by
   have:a.toList.drop a.size=[]:=by simp
   rw[<-this];exact m
  rw[Al,Al,IH,IH,show a.toList.drop a.size=[] by simp,Bt];exact N.endB
 have eL:∀out l ib,M out l ib->l+1=a.size->KM (Rl lt) (a.toList++b.toList) (out++b.extract ib b.size++a.extract l a.size).toList:=λout l ib m e=>by
  have:=m.last λy hy x Z=>by
   obtain⟨j,P,H,rfl⟩:=FX Z;obtain⟨i,i1,i2,rfl⟩:=FX hy
   have:j=a.size - 1:=by lia
   subst this;exact h1 _ (BD.mpr (Cy (DJ i2)))
  rw[Al,Al,IH,IH,Bj];exact this
 have m0:M #[] 0 0:=⟨by simp,by simp,by simp,by simpa using sa,by simpa using sb⟩
 have m1:M #[ix b 0] 0 1:=by
  have:=tB #[] 0 0 m0 nb λj _ hj=>h0 _ (BD.mpr (Cy (DJ hj)))
  simpa using this
 let F (r:Array A8):Prop:=KM (Rl lt) (a.toList++b.toList) r.toList
 refine(AX (HM ?_):wpS _ _ _ _ (mLo a b) Q st);refine CW nb ?_;refine(?_)
 refine DS (λc1=>Ac (h _ st ⟨g,rfl,rfl⟩ (eB _ _ _ m1 c1))) λc1=>?_
 refine DS (λc2=>Ac (h _ st ⟨g,rfl,rfl⟩ (eL _ _ _ m1 c2))) λc2=>?_
 refine AX (Ec ?_)
 refine Il (I:=λx c B=>N1 a₀ κ st B/\∃out l ib mg,c=(none,out,l,ib,mg)/\GL M a.size b.size x 1 out l ib)
  (Q:=λc B=>N1 a₀ κ st B/\∃r z,c=(some r,z)/\F r) ?step ?fin ?init ?post
 case init=>exact⟨⟨g,rfl,rfl⟩,_,_,_,_,rfl,m1,by lia,by lia,by lia⟩
 case fin=>
  rintro c B ⟨_,out,l,ib,mg,_,_,k1,k2,k3⟩
  lia
 case post=>
  rintro F hF c B ⟨s1,r,z,rfl,f⟩;subst hF;exact Ac (h r B s1 f)
 case step=>
  rintro G hG x c ug _ _ ⟨s1,out,l,ib,mg,rfl,m,k1,k2,k3⟩;subst hG
  refine Il (I:=λy c B=>B=ug/\∃U J vg X Y,c=(none,U,J,vg,X,Y)/\GL M a.size b.size y (l+ib) U J vg)
   (Q:=λc B=>B=ug/\((∃r z,c=(some r,z)/\F r)∨∃U J vg X Y,c=(none,U,J,vg,X,Y)/\GL M a.size b.size 1 (l+ib) U J vg)) ?step1 ?fin1 ?init1 ?post1
  case init1=>exact⟨rfl,out,l,ib,0,0,rfl,m,k1,k2,by lia⟩
  case fin1=>
   rintro c B ⟨rfl,U,J,vg,X,Y,rfl,N,q1,q2,q3⟩;exact⟨rfl,.inr ⟨U,J,vg,X,Y,rfl,N,q1,q2,by lia⟩⟩
  case step1=>
   rintro G hG y c B _ _ ⟨rfl,U,J,vg,X,Y,rfl,N,q1,q2,q3⟩;subst hG
   have q4:J < a.size:=by lia
   refine CW q2 (CW q4 (AX (QZ C s1.good (S _ q2) (R _ q4) ?_)))
   cases e:lt (ix b vg) (ix a J)with
   | true=>
    have m2:=tB U J vg N q2 λj P H=>tr _ _ _ (S _ q2) (R _ q4) (R _ H) (O.asym _ _ (S _ q2) (R _ q4) e) (ua J j P H)
    refine CW q2 (DS (λd=>Ac ⟨rfl,.inl ⟨_,_,rfl,eB _ _ _ m2 d⟩⟩) λd=>OF ?_)
    have z:vg+1 < b.size/\l+ib+(y+1)<=J+(vg+1):=by lia
    exact⟨⟨rfl,.inr ⟨_,J,vg+1,_,_,rfl,m2,q1,z.1,by lia⟩⟩,rfl,_,J,vg+1,_,_,rfl,m2,q1,z⟩
   | false=>
    have m2:=tA U J vg N q4 λj P H=>tr _ _ _ (R _ q4) (S _ q2) (S _ H) e (ub vg j P H)
    refine CW q4 (DS (λd=>Ac ⟨rfl,.inl ⟨_,_,rfl,eL _ _ _ m2 d⟩⟩) λd=>OF ?_)
    have z:J+1+1 < a.size/\l+ib+(y+1)<=J+1+vg:=by lia
    exact⟨⟨rfl,.inr ⟨_,J+1,vg,_,_,rfl,m2,z.1,q2,by lia⟩⟩,rfl,_,J+1,vg,_,_,rfl,m2,z.1,q2,z.2⟩
  case post1=>
   rintro G hG c B ⟨rfl,⟨r,z,rfl,f⟩ | ⟨U,J,vg,X,Y,rfl,N⟩⟩ <;> subst hG
   ·exact Ac ⟨s1,_,_,rfl,f⟩
   refine AX (HM ?_)
   refine Il (I:=λy c u0=>N1 a₀ κ st u0/\∃uo L vz vQ X Y,c=(none,uo,L,vz,vQ,X,Y)/\GL M a.size b.size 1 (l+ib) uo L vz)
    (Q:=λc u0=>N1 a₀ κ st u0/\((∃r z,c=(some r,z)/\F r)∨∃uo L vz vQ X Y,c=(none,uo,L,vz,vQ,X,Y)/\GL M a.size b.size 1 (l+ib) uo L vz)) ?step2 ?fin2 ?init2 ?post2
   case init2=>exact⟨s1,U,J,vg,mg+1,X,Y,rfl,N⟩
   case fin2=>exact λc u0 h=>⟨h.1,.inr h.2⟩
   case post2=>
    rintro G hG c u0 ⟨s2,⟨r,z,rfl,f⟩ | ⟨uo,L,vz,vQ,ac2,bc2,rfl,m2,p1,p2,p3⟩⟩ <;> subst hG
    ·exact Ac ⟨s2,_,_,rfl,f⟩
    ·exact AX (P8 (Ac ⟨s2.gal _,uo,L,vz,vQ+1,rfl,m2,p1,p2,by lia⟩))
   case step2=>
    rintro G hG y c u0 _ _ ⟨s2,uo,L,vz,vQ,ac2,bc2,rfl,m2,p1,p2,p3⟩;subst hG;dsimp only
    revert vQ
    refine dX (λΡ=>?_) λt i=>t _
    refine AX (P8 (CW p2 ?_));have s3:=s2.gal Ρ;refine AX (GV C s3.good (λi=>!lt (ix b vz) (ix a (L+i))) (S _ p2) (λi hi=>⟨by lia,R _ (by lia)⟩) (λi hi=>rfl) (λi j zc hj e=>?_) (by lia) λk hk k1 k2=>?_)
    ·have e':lt (ix b vz) (ix a (L+j))=false:=by simpa using e
     have:=tr _ _ _ (R _ (by lia)) (R _ (by lia)) (S _ p2) (ua (L+i) (L+j) (by lia) (by lia)) e';simpa using this
    have far:∀j,L+k<=j->j < a.size->Rl lt (ix b vz) (ix a j):=λj P H=>by
     have:=k2 (j - L) (by lia) (by lia);rw[show L+(j - L)=j by lia]at this;exact O.asym _ _ (S _ p2) (R _ H) (by simpa using this)
    have m5:=sA uo L vz k m2 (by lia) λi j hi P H=>tr _ _ _ (R _ (by lia)) (S _ p2) (S _ H) (by simpa using k1 i hi) (ub vz j P H)
    generalize ho:uo=o;generalize hi:L=i
    revert o i
    refine P6 (λo i=>M o i vz/\i+1 < a.size/\i=L+k) ?_ (λt Τ=>?_) λΤ=>⟨m2,p1,by lia⟩
    case refine_2=>
     refine DS (λd=>Ac ⟨s3,.inl ⟨_,_,rfl,eL _ _ _ m5 d⟩⟩) λd1=>?_
     exact DS (λd=>Ac ⟨s3,.inl ⟨_,_,rfl,eA _ _ _ m5 d⟩⟩) λd2=>t _ _ ⟨m5,by lia,rfl⟩
    rintro y0 T ⟨m3,c1,hi3⟩
    have c3:l+ib+1<=T+vz:=by lia
    have c4:T < a.size:=by lia
    have m4:=tB _ _ _ m3 p2 λj h=>far j (hi3▸h)
    refine CW p2 (DS (λd=>Ac ⟨s3,.inl ⟨_,_,rfl,eB _ _ _ m4 d⟩⟩) λd=>CW c4 ?_)
    have c5:vz+1 < b.size:=by lia
    have c6:l+ib+1+1<=T+(vz+1):=by lia
    generalize y0.push (ix b vz)=out4 at m4 ⊢;generalize vz+1=ib4 at m4 c5 c6 ⊢;refine AX (GV C s3.good (λi=>lt (ix b (ib4+i)) (ix a T)) (R _ c4) (λi hi=>⟨by lia,S _ (by lia)⟩) (λi hi=>rfl) (λi j zc hj e=>?_) (by lia) λk3 zd k4 k5=>?_)
    ·cases e2:lt (ix b (ib4+i)) (ix a T)with
     | true=>rfl
     | false=>
      have:=tr _ _ _ (R _ c4) (S _ (by lia)) (S _ (by lia)) e2 (ub (ib4+i) (ib4+j) (by lia) (by lia));exact nomatch ((e).symm.trans this)
    have Υ:∀j,ib4+k3<=j->j < b.size->Rl lt (ix a T) (ix b j):=λj P H=>by
     have:=k5 (j - ib4) (by lia) (by lia);rwa [show ib4+(j - ib4)=j by lia]at this
    have m6:=sB _ T ib4 k3 m4 (by lia) λi j hi P H=>tr _ _ _ (S _ (by lia)) (R _ c4) (R _ H) (O.asym _ _ (S _ (by lia)) (R _ c4) (k4 i hi)) (ua T j P H)
    generalize ho:out4=o;generalize hi:ib4=i
    revert o i
    refine P6 (λo j=>M o T j/\j < b.size/\j=ib4+k3) ?_ (λt zd=>DS (λd=>Ac ⟨s3,.inl ⟨_,_,rfl,eB _ _ _ m6 d⟩⟩) λd=>t _ _ ⟨m6,by lia,rfl⟩) λzd=>⟨m4,c5,by lia⟩
    rintro Φ D' ⟨m5,c7,hi5⟩
    have m7:=tA _ _ _ m5 c4 λj h=>Υ j (hi5▸h)
    refine CW c4 (DS (λd=>Ac ⟨s3,.inl ⟨_,_,rfl,eL _ _ _ m7 d⟩⟩) λd=>OF ?_)
    have z:T+1+1 < a.size/\D' < b.size/\l+ib+1<=T+1+D':=by lia
    exact⟨⟨s3,.inr ⟨_,T+1,D',_,_,_,rfl,m7,z⟩⟩,s3,_,T+1,D',_,_,_,rfl,m7,z⟩
end
theorem MI.last2(m:MI R T o g l)(h:∀x∈g,∀y∈l,R x y):KM R T (o++(g++l)):=by
 refine⟨m.perm,Bi.mpr ⟨m.srt,Bi.mpr ⟨m.sa,m.sb,h⟩,λx s y A=>m.low x s y A⟩⟩
theorem KM.rev(f:KM (λx y=>Rl lt y x) T r):KM (Rl lt) T r.reverse:=⟨r.reverse_perm.trans f.perm,LC.mpr f.srt⟩
theorem Zg(h:i < a.size):(a.toList.take (i+1)).reverse=ix a i :: (a.toList.take i).reverse:=by
 have:=DJ h;rw[getElem?_pos a i h]at this;rw[Ot,show a.toList[i]?=some (ix a i) by simpa using DJ h];simp
theorem WC{a:Array A8}{i n:Nat}(h:i<=n)(g:n<=a.size):(a.toList.take n).reverse=(a.extract i n).toList.reverse++(a.toList.take i).reverse:=by
 have e:(a.extract i n).toList=(a.toList.take n).drop i:=by simp[Ou,List.drop_take]
 rw[e,<-List.reverse_append]
 congr 1
 have:=Gp i (a.toList.take n);rw[List.take_take,show min i n=i by lia]at this;exact this.symm
theorem FW(g:x∈(a.toList.take n).reverse):∃j,j < n/\j < a.size/\x=ix a j:=by
 rw[iF]at g;obtain⟨k,l,rfl⟩:=E2.mp g;simp at l;refine⟨k,by lia,by lia,?_⟩;have:=DJ (xs:=a) (i:=k) (by lia);rw[getElem?_pos a _ (by lia)]at this;simpa using this
theorem Wu(g:x∈(a.extract i n).toList.reverse):∃j,i<=j/\j < n/\j < a.size/\x=ix a j:=by
 rw[iF,BD,P5]at g;obtain⟨j,l,rfl⟩:=g;refine⟨i+j,by lia,by omega,by omega,?_⟩;have:=DJ (xs:=a) (i:=i+j) (by omega);rw[getElem?_pos a _ (by omega)]at this;simpa using this
theorem HH(a:Array A8)(n:Nat):(a.extract 0 n).toList=a.toList.take n:=by simp[Ou]
section
abbrev GH(M:Array A8->Nat->Nat->Prop)(p q n t:Nat)(o:Array A8)(i j:Nat):Prop:=M o i j/\0 < i/\1 < j/\i<=p/\j<=q/\i+j+n<=t
theorem ip{st:A6}{a b:Array A8}{Q:Array A8->A6->Prop}(C:JB prog w A s a₀ κ lt)(O:Ord (·∈a₀) lt)(g:Good a₀ κ st)
  (ma:∀x∈a.toList,x∈a₀) (mb:∀x∈b.toList,x∈a₀) (sa:a.toList.Pairwise (Rl lt)) (sb:b.toList.Pairwise (Rl lt)) (pa:0 < a.size) (pb:0 < b.size)
  (h0:∀x∈a.toList,Rl lt (ix b 0) x) (h1:∀y∈b.toList,Rl lt y (ix a (a.size - 1)))
  (h:∀r B,N1 a₀ κ st B->KM (Rl lt) (a.toList++b.toList) r.toList->Q r B):wpS (AU prog w) A E s (mHi a b) Q st:=by
 have P:=U1 ma;have R:=U1 mb;have ua:=V8 O P sa;have ub:=V8 O R sb
 have tr:∀x y z:A8,x∈a₀->y∈a₀->z∈a₀->Rl lt x y->Rl lt y z->Rl lt x z:=λx y z Z hy hz h1 h2=>O.ntr x y z Z hy hz h1 h2
 let M (out:Array A8) (l nb:Nat):Prop:=MI (λx y=>Rl lt y x) (a.toList++b.toList) out.toList (a.toList.take l).reverse (b.toList.take nb).reverse
 have tA0:∀out l nb,M out (l+1) nb->l < a.size->nb<=b.size->(∀j,j < nb->Rl lt (ix b j) (ix a l))->M (out.push (ix a l)) l nb:=λout l nb m wO wQ hr=>by
  have N:MI (λx y=>Rl lt y x) (a.toList++b.toList) out.toList ([ix a l]++(a.toList.take l).reverse) (b.toList.take nb).reverse:=by rw[Gq,<-Zg wO];exact m
  have:=N.takeA λx Z y hy=>by
   obtain⟨j,S,j2,rfl⟩:=FW hy;rw[A1.mp Z];exact hr j S
  simpa[M]using this
 have tB0:∀out l nb,M out l (nb+1)->nb < b.size->l<=a.size->(∀j,j < l->Rl lt (ix a j) (ix b nb))->M (out.push (ix b nb)) l nb:=λout l nb m wQ wO hr=>by
  have N:MI (λx y=>Rl lt y x) (a.toList++b.toList) out.toList (a.toList.take l).reverse ([ix b nb]++(b.toList.take nb).reverse):=by rw[Gq,<-Zg wQ];exact m
  have:=N.takeB λx Z y hy=>by
   obtain⟨j,S,j2,rfl⟩:=FW hy;rw[A1.mp Z];exact hr j S
  simpa[M]using this
 have tA:∀out l nb,M out l nb->0 < l->l<=a.size->nb<=b.size->(∀j,j < nb->Rl lt (ix b j) (ix a (l - 1)))->M (out.push (ix a (l - 1))) (l - 1) nb:=λout l nb m h0 wO wQ hr=>
  tA0 out (l - 1) nb (by rw[show l - 1+1=l by lia];exact m) (by omega) wQ hr
 have tB:∀out l nb,M out l nb->0 < nb->nb<=b.size->l<=a.size->(∀j,j < l->Rl lt (ix a j) (ix b (nb - 1)))->M (out.push (ix b (nb - 1))) l (nb - 1):=λout l nb m h0 wQ wO hr=>
  tB0 out l (nb - 1) (by rw[show nb - 1+1=nb by lia];exact m) (by omega) wO hr
 have sA:∀out l nb k,M out l nb->k<=l->l<=a.size->nb<=b.size->(∀i j,k<=i->i < l->j < nb->Rl lt (ix b j) (ix a i))->M (out++(a.extract k l).reverse) k nb:=λout l nb k m hk wO wQ hr=>by
  have N:MI (λx y=>Rl lt y x) (a.toList++b.toList) out.toList ((a.extract k l).toList.reverse++(a.toList.take k).reverse) (b.toList.take nb).reverse:=by rw[<-WC hk wO];exact m
  have:=N.takeA λx Z y hy=>by
   obtain⟨j,S,j2,rfl⟩:=FW hy;obtain⟨i,i1,i2,i3,rfl⟩:=Wu Z;exact hr i j i1 i2 S
  show MI _ _ (out++(a.extract k l).reverse).toList _ _;rw[Al,Eu];exact this
 have sB:∀out l nb k,M out l nb->k<=nb->nb<=b.size->l<=a.size->(∀i j,k<=i->i < nb->j < l->Rl lt (ix a j) (ix b i))->M (out++(b.extract k nb).reverse) l k:=λout l nb k m hk wQ wO hr=>by
  have N:MI (λx y=>Rl lt y x) (a.toList++b.toList) out.toList (a.toList.take l).reverse ((b.extract k nb).toList.reverse++(b.toList.take k).reverse):=by rw[<-WC hk wQ];exact m
  have:=N.takeB λx Z y hy=>by
   obtain⟨j,S,j2,rfl⟩:=FW hy;obtain⟨i,i1,i2,i3,rfl⟩:=Wu Z;exact hr i j i1 i2 S
  show MI _ _ (out++(b.extract k nb).reverse).toList _ _;rw[Al,Eu];exact this
 have eA:∀out l nb,M out l nb->l=0->KM (Rl lt) (a.toList++b.toList) (a.extract 0 l++b.extract 0 nb++out.reverse).toList:=λout l nb m e=>by
  subst e
  have N:MI (λx y=>Rl lt y x) (a.toList++b.toList) out.toList [] (b.toList.take nb).reverse:=by simpa[M]using m
  have:=N.endB.rev;rw[Al,Al,HH,HH,Eu];simpa using this
 have eB:∀out l nb,M out l nb->nb=0->KM (Rl lt) (a.toList++b.toList) (a.extract 0 l++b.extract 0 nb++out.reverse).toList:=λout l nb m e=>by
  subst e
  have N:MI (λx y=>Rl lt y x) (a.toList++b.toList) out.toList (a.toList.take l).reverse []:=by simpa[M]using m
  have:=N.endA.rev;rw[Al,Al,HH,HH,Eu];simpa using this
 have eF:∀out l nb,M out l nb->nb=1->KM (Rl lt) (a.toList++b.toList) (b.extract 0 nb++a.extract 0 l++out.reverse).toList:=λout l nb m e=>by
  have:=m.last2 λx Z y hy=>by
   obtain⟨j,S,j2,rfl⟩:=FW Z;obtain⟨i,i1,i2,rfl⟩:=FW hy
   have:i=0:=by lia
   subst this;exact h0 _ (BD.mpr (Cy (DJ j2)))
  have:=this.rev;rw[Al,Al,HH,HH,Eu];simpa using this
 have m0:M #[] a.size b.size:=by
  refine⟨?_,by simp,by simp,?_,?_⟩
  ·rw[CP (by simp),CP (by simp)]
   simpa using DD.append a.toList.reverse_perm b.toList.reverse_perm
  ·rw[CP (by simp)];exact LC.mpr sa
  ·rw[CP (by simp)];exact LC.mpr sb
 have m1:M #[ix a (a.size - 1)] (a.size - 1) b.size:=by
  have:=tA #[] a.size b.size m0 pa (AN _) (AN _) λj hj=>h1 _ (BD.mpr (Cy (DJ hj)))
  simpa using this
 let F (r:Array A8):Prop:=KM (Rl lt) (a.toList++b.toList) r.toList
 refine(AX (HM ?_):wpS _ _ _ _ (mHi a b) Q st);refine CW (i:=a.size - 1) (by omega) ?_;refine(show wpS (AU prog w) A E s (if (a.size - 1==0)=true then _ else _) Q st from ?_)
 refine DS (λc1=>Ac (h _ st ⟨g,rfl,rfl⟩ (eA _ _ _ m1 c1))) λc1=>?_
 refine DS (λc2=>Ac (h _ st ⟨g,rfl,rfl⟩ (eF _ _ _ m1 c2))) λc2=>?_
 refine AX (Ec ?_)
 refine Il (I:=λx c B=>N1 a₀ κ st B/\∃out l nb mg,c=(none,l,nb,out,mg)/\GH M a.size b.size (1+x) (a.size+b.size) out l nb)
  (Q:=λc B=>N1 a₀ κ st B/\∃r z,c=(some r,z)/\F r) ?step ?fin ?init ?post
 case init=>exact⟨⟨g,rfl,rfl⟩,_,a.size - 1,b.size,_,rfl,m1,by lia,by lia,by omega,by lia,by lia⟩
 case fin=>
  rintro c B ⟨_,out,l,nb,mg,_,_,k1,k2,k3,k4,k5⟩
  lia
 case post=>
  rintro G hG c B ⟨s1,r,z,rfl,f⟩;subst hG;exact Ac (h r B s1 f)
 case step=>
  rintro G hG x c ug _ _ ⟨s1,out,l,nb,mg,rfl,m,k1,k2,k3,k4,k5⟩;subst hG
  refine Il (I:=λy c B=>B=ug/\∃U H J X Y,c=(none,H,J,U,X,Y)/\GH M a.size b.size y (l+nb) U H J)
   (Q:=λc B=>B=ug/\((∃r z,c=(some r,z)/\F r)∨∃U H J X Y,c=(none,H,J,U,X,Y)/\GH M a.size b.size 1 (l+nb) U H J)) ?step1 ?fin1 ?init1 ?post1
  case init1=>exact⟨rfl,out,l,nb,0,0,rfl,m,k1,k2,k3,k4,by lia⟩
  case fin1=>
   rintro c B ⟨rfl,U,H,J,X,Y,rfl,N,q1,q2,q3,q4,q5⟩;exact⟨rfl,.inr ⟨U,H,J,X,Y,rfl,N,q1,q2,q3,q4,by lia⟩⟩
  case step1=>
   rintro G hG y c B _ _ ⟨rfl,U,H,J,X,Y,rfl,N,q1,q2,q3,q4,q5⟩;subst hG
   have q6:H - 1 < a.size:=by lia
   have q7:J - 1 < b.size:=by lia
   refine CW q7 (CW q6 (AX (QZ C s1.good (R _ q7) (P _ q6) ?_)))
   cases e:lt (ix b (J - 1)) (ix a (H - 1))with
   | true=>
    have m2:=tA U H J N q1 q3 q4 λj S=>tr _ _ _ (R _ (by lia)) (R _ q7) (P _ q6) (ub j (J - 1) (by lia) q7) (O.asym _ _ (R _ q7) (P _ q6) e)
    refine CW q6 (DS (λd=>Ac ⟨rfl,.inl ⟨_,_,rfl,eA _ _ _ m2 d⟩⟩) λd=>OF ?_)
    have z:0 < H - 1/\H - 1<=a.size/\H - 1+J+(y+1)<=l+nb:=by lia
    exact⟨⟨rfl,.inr ⟨_,H - 1,J,_,_,rfl,m2,z.1,q2,z.2.1,q4,by lia⟩⟩,rfl,_,H - 1,J,_,_,rfl,m2,z.1,q2,z.2.1,q4,z.2.2⟩
   | false=>
    have m2:=tB U H J N (by lia) q4 q3 λj S=>tr _ _ _ (P _ (by lia)) (P _ q6) (R _ q7) (ua j (H - 1) (by lia) q6) e
    refine CW q7 (DS (λd=>Ac ⟨rfl,.inl ⟨_,_,rfl,eF _ _ _ m2 d⟩⟩) λd=>OF ?_)
    have z:1 < J - 1/\J - 1<=b.size/\H+(J - 1)+(y+1)<=l+nb:=by lia
    exact⟨⟨rfl,.inr ⟨_,H,J - 1,_,_,rfl,m2,q1,z.1,q3,z.2.1,by lia⟩⟩,rfl,_,H,J - 1,_,_,rfl,m2,q1,z.1,q3,z.2.1,z.2.2⟩
  case post1=>
   rintro G hG c B ⟨rfl,⟨r,z,rfl,f⟩ | ⟨U,H,J,X,Y,rfl,N⟩⟩ <;> subst hG
   ·exact Ac ⟨s1,_,_,rfl,f⟩
   refine AX (HM ?_)
   refine Il (I:=λy c u0=>N1 a₀ κ st u0/\∃uo vR L vQ X Y,c=(none,vR,L,uo,vQ,X,Y)/\GH M a.size b.size 1 (l+nb) uo vR L)
    (Q:=λc u0=>N1 a₀ κ st u0/\((∃r z,c=(some r,z)/\F r)∨∃uo vR L vQ X Y,c=(none,vR,L,uo,vQ,X,Y)/\GH M a.size b.size 1 (l+nb) uo vR L)) ?step2 ?fin2 ?init2 ?post2
   case init2=>exact⟨s1,U,H,J,mg+1,X,Y,rfl,N⟩
   case fin2=>exact λc u0 h=>⟨h.1,.inr h.2⟩
   case post2=>
    rintro G hG c u0 ⟨s2,⟨r,z,rfl,f⟩ | ⟨uo,vR,L,vQ,ac2,bc2,rfl,m2,p1,p2,p3,p4,p5⟩⟩ <;> subst hG
    ·exact Ac ⟨s2,_,_,rfl,f⟩
    ·exact AX (P8 (Ac ⟨s2.gal _,uo,vR,L,vQ+1,rfl,m2,p1,p2,p3,p4,by lia⟩))
   case step2=>
    rintro G hG y c u0 _ _ ⟨s2,uo,vR,L,vQ,ac2,bc2,rfl,m2,p1,p2,p3,p4,p5⟩;subst hG;dsimp only
    revert vQ
    refine dX (λΡ=>?_) λt i=>t _
    have s3:=s2.gal Ρ
    have p6:L - 1 < b.size:=by lia
    refine AX (P8 (CW p6 ?_));refine AX (GV (base:=0) (n:=vR) (hint:=vR - 1) (arr:=a) (key:=ix b (L - 1)) (left:=false) C s3.good (λi=>!lt (ix b (L - 1)) (ix a (0+i))) (R _ p6) (λi hi=>⟨by lia,P _ (by lia)⟩) (λi hi=>rfl) (λi j zc hj e=>?_) (by lia) λk hk k1 k2=>?_)
    ·have e':lt (ix b (L - 1)) (ix a (0+j))=false:=by simpa using e
     have:=tr _ _ _ (P _ (by lia)) (P _ (by lia)) (R _ p6) (ua (0+i) (0+j) (by lia) (by lia)) e';simpa using this
    have near:∀j,j < k->Rl lt (ix a j) (ix b (L - 1)):=λj S=>by
     have:=k1 j S;rw[FE]at this;simpa using this
    have m5:=sA uo vR L k m2 hk p3 p4 λi j i1 i2 S=>by
     have:=k2 i i1 i2;rw[FE]at this;exact tr _ _ _ (R _ (by lia)) (R _ p6) (P _ (by lia)) (ub j (L - 1) (by lia) p6) (O.asym _ _ (R _ p6) (P _ (by lia)) (by simpa using this))
    dsimp only;generalize hk6:vR - k=k6;generalize ho:uo=o;generalize hi:vR=i
    revert o i
    refine P6 (λo i=>M o i L/\0 < i/\i=k) ?_ (λt Τ=>DS (λd=>Ac ⟨s3,.inl ⟨_,_,rfl,eA _ _ _ m5 d⟩⟩) λd=>t (uo++(a.extract k vR).reverse) k ⟨m5,by lia,rfl⟩) λΤ=>⟨m2,p1,by lia⟩
    rintro y0 T ⟨m3,c1,hi3⟩
    have c4:T - 1 < a.size:=by lia
    have c5:T<=vR:=by lia
    have m4:=tB _ _ _ m3 (by lia) p4 (by lia) λj h=>near j (hi3▸h)
    refine CW p6 (DS (λd=>Ac ⟨s3,.inl ⟨_,_,rfl,eF _ _ _ m4 d⟩⟩) λd=>CW c4 ?_)
    have c6:1 < L - 1/\L - 1 < b.size/\T+(L - 1)+2<=l+nb:=by lia
    generalize y0.push (ix b (L - 1))=out4 at m4 ⊢;generalize L - 1=nb4 at m4 c6 ⊢;obtain⟨c6,c7,c8⟩:=c6;refine AX (GV (base:=0) (n:=nb4) (hint:=nb4 - 1) (arr:=b) (key:=ix a (T - 1)) (left:=true) C s3.good (λi=>lt (ix b (0+i)) (ix a (T - 1))) (P _ c4) (λi hi=>⟨by lia,R _ (by lia)⟩) (λi hi=>rfl) (λi j zc hj e=>?_) (by lia) λk3 zd k4 k5=>?_)
    ·cases e2:lt (ix b (0+i)) (ix a (T - 1))with
     | true=>rfl
     | false=>
      have:=tr _ _ _ (P _ c4) (R _ (by lia)) (R _ (by lia)) e2 (ub (0+i) (0+j) (by lia) (by lia));exact nomatch (show true=false from(show lt (ix b (0+j)) (ix a (T - 1))=true from e).symm.trans this)
    have ze:∀j,j < k3->Rl lt (ix b j) (ix a (T - 1)):=λj S=>by
     have:=k4 j S;rw[FE]at this;exact O.asym _ _ (R _ (by lia)) (P _ c4) this
    have m6:=sB _ T nb4 k3 m4 zd (by lia) (by lia) λi j i1 i2 S=>by
     have:=k5 i i1 i2;rw[FE]at this;exact tr _ _ _ (P _ (by lia)) (P _ c4) (R _ (by lia)) (ua j (T - 1) (by lia) c4) this
    dsimp only;generalize hk7:nb4 - k3=k7;generalize ho:out4=o;generalize hi:nb4=i
    revert o i
    refine P6 (λo j=>M o T j/\1 < j/\j<=nb4/\j=k3) ?_ (λt hk4=>?_) λhk4=>⟨m4,c6,AN _,by lia⟩
    case refine_2=>
     refine DS (λd=>Ac ⟨s3,.inl ⟨_,_,rfl,eF _ _ _ m6 d⟩⟩) λd2=>?_
     exact DS (λd=>Ac ⟨s3,.inl ⟨_,_,rfl,eB _ _ _ m6 d⟩⟩) λd4=>t (out4++(b.extract k3 nb4).reverse) k3 ⟨m6,by lia,by lia,rfl⟩
    rintro Φ zf ⟨m5,c9,c10,hi5⟩
    have m7:=tA _ _ _ m5 c1 (by lia) (by lia) λj h=>ze j (hi5▸h)
    refine CW c4 (DS (λd=>Ac ⟨s3,.inl ⟨_,_,rfl,eA _ _ _ m7 d⟩⟩) λd=>OF ?_)
    have z:0 < T - 1/\1 < zf/\T - 1<=a.size/\zf<=b.size/\T - 1+zf+1<=l+nb:=by lia
    exact⟨⟨s3,.inr ⟨_,T - 1,zf,_,_,_,rfl,m7,z⟩⟩,s3,_,T - 1,zf,_,_,_,rfl,m7,z⟩
end
def wr(arr:Array A8)(g:Nat)(l:List (A8×Nat)):Array A8:=l.foldl (λa (x:A8×Nat)=>match x with | (p,j)=>a.setIfInBounds (g+j) p) arr
theorem UJ(g:Nat):∀(l:List A8) (k:Nat) (arr:Array A8),g+k+l.length<=arr.size->(wr arr g (l.zipIdx k)).toList=arr.toList.take (g+k)++l++arr.toList.drop (g+k+l.length)
 | [],k,arr,h=>by simp[wr]
 | x :: l,k,arr,h=>by
  rw[A0]at h;have e:wr arr g ((x :: l).zipIdx k)=wr (arr.setIfInBounds (g+k) x) g (l.zipIdx (k+1)):=rfl;rw[e,UJ g l (k+1) _ (by simp;lia)]
  have m:g+k < arr.toList.length:=by simp;lia
  rw[SR,A0,show g+(k+1)=g+k+1 by lia];rw[Ot,List.take_set_of_le (AN _),CS m,List.drop_set_of_lt (by lia)];simp[show g+k+1+l.length=g+k+(l.length+1) by lia]
theorem ix_list(a:Array A8)(i:Nat):ix a i=(a.toList[i]?).getD (.none,.none):=by
 unfold ix;rw[Eb];simp
theorem fm(h:sa+m.size<=arr.size)(i:Nat):ix (wr arr sa m.toList.zipIdx) i=if i < sa then ix arr i else if i < sa+m.size then ix m (i - sa)else ix arr i:=by
 have e:=UJ sa m.toList 0 arr (by simpa using h);rw[ix_list,show m.toList.zipIdx=m.toList.zipIdx 0 from rfl,e,qp]
 have l:(arr.toList.take sa).length=sa:=by simp;lia
 split
 ·rename_i g
  rw[Bj,AM (by lia),Vm g,ix_list]
 ·rename_i g
  split
  ·rename_i o
   rw[Bj,Aj (by lia),l,AM (by simp;lia),ix_list]
  ·rename_i o
   rw[Aj (by simp;lia),B4,ix_list]
   congr 2
   simp
   lia
theorem jp{arr m:Array A8}{g:Nat}(h:g+m.size<=arr.size)(l:m.toList.Perm (arr.extract g (g+m.size)).toList):(wr arr g m.toList.zipIdx).Perm arr:=by
 rw[Co];have e:=UJ g m.toList 0 arr (by simpa using h);rw[show m.toList.zipIdx=m.toList.zipIdx 0 from rfl,e,qp]
 have o:arr.toList=arr.toList.take g++(arr.extract g (g+m.size)).toList++arr.toList.drop (g+m.toList.length):=by
  rw[Bj,Az,<-Hn h,Gp]
 conv=>rhs;rw[o]
 exact SL _ (F8 _ l)
theorem Yu{a:Array A8}{lo hi i:Nat}(h:hi<=a.size)(g:i < hi - lo):ix (a.extract lo hi) i=ix a (lo+i):=by
 apply Ip
 rw[Array.getElem?_extract];simp
 lia
section
variable{prog:BJ}{w:Bs}{A:BX}{E:AG->AK->Prop}{s:AK}{a₀:Array A8}{κ:LV}{lt:A8->A8->Bool}
theorem Zf{a:Array A8}{lo hi:Nat}(h:hi<=a.size)(u:Up lt a lo hi):(a.extract lo hi).toList.Pairwise (Rl lt):=by
 rw[UD];intro i j m o B;simp at m o
 have e:∀k (g:k < (a.extract lo hi).toList.length),(a.extract lo hi).toList[k]=ix a (lo+k):=λk g=>by
  have l:k < (a.extract lo hi).size:=by rw[Az]at g;exact g
  have:=DJ l;rw[getElem?_pos (a.extract lo hi) k l]at this
  have C:(a.extract lo hi).size=hi - lo:=by simp;lia
  rw[<-Yu h (by lia)];simpa using this
 rw[e,e];exact u _ _ (by lia) (by lia) (by omega)
theorem im{st g:A6}{Q:PUnit->A6->Prop}(h:Q ⟨⟩ g):wpS (AU prog w) A E s (set g:StateT A6 Sem PUnit) Q st:=Ac h
theorem V2{st}{i l m pw sb I pw2}{Q}(C:JB prog w A s a₀ κ lt)(O:Ord (·∈a₀) lt)(g:Good a₀ κ st)
  (e1:(AW st)[i]?=some (l,m,pw)) (e2:(AW st)[i+1]?=some (sb,I,pw2)) (wM:sb=l+m) (wO:1<=m) (wQ:1<=I) (hs:sb+I<=a₀.size)
  (Y:Up lt (AY st) l (l+m)) (Z:Up lt (AY st) sb (sb+I))
  (h:∀o,Good a₀ κ o->AW o=((AW st).setIfInBounds i (l,m+I,pw)).eraseIdxIfInBounds (i+1)->Up lt (AY o) l (l+(m+I))->Out (AY st) (AY o) l (l+(m+I))->Q true o) :
  wpS (AU prog w) A E s (mergeAt' i) Q st:=by
 subst wM;have hsz:=g.size
 have mem:∀j,j < a₀.size->ix (AY st) j∈a₀:=λj hj=>g.mem hj
 have tr:∀x y z:A8,x∈a₀->y∈a₀->z∈a₀->Rl lt x y->Rl lt y z->Rl lt x z:=λx y z hx hy B J H=>O.ntr x y z hx hy B J H
 refine(AX (Ec ?_):wpS _ _ _ _ (mergeAt' i) Q st);rw[show(sortPriv% PySem.Builtin.SortState.pending) st=AW st from rfl,e1,e2];refine AX (im ?_);generalize L:((sortPriv% PySem.Builtin.SortState.mk) (kindOf st) (AY st) (((AW st).setIfInBounds i (l,m+I,pw)).eraseIdxIfInBounds (i+1)) (gallopOf st) (GB st))=ug
 have g1:Good a₀ κ ug:=by subst L;exact⟨g.perm,g.kind,g.failed⟩
 have a1:AY ug=AY st:=by subst L;rfl
 have p1:AW ug=((AW st).setIfInBounds i (l,m+I,pw)).eraseIdxIfInBounds (i+1):=by subst L;rfl
 refine AX (Qa (by lia) ?_);refine AX (GV C g1 (λj=>!lt (ix (AY st) (l+m)) (ix (AY st) (l+j))) (mem _ (by lia)) (λj hj=>⟨by lia,mem _ (by lia)⟩) (λj hj=>rfl) (λx y wR hy e=>?_) (by lia) λk hk k1 k2=>?_)
 ·have e':lt (ix (AY st) (l+m)) (ix (AY st) (l+y))=false:=by simpa using e
  have:=tr _ _ _ (mem _ (by lia)) (mem _ (by lia)) (mem _ (by lia)) (Y (l+x) (l+y) (by lia) (by lia) (by lia)) e';simpa using this
 have low:∀j,l<=j->j < l+k->Rl lt (ix (AY st) j) (ix (AY st) (l+m)):=λj G R=>by
  have:=k1 (j - l) (by lia);rw[show l+(j - l)=j by lia]at this;simpa using this
 have zg:∀i j,l<=i->i < l+k->l+m<=j->j < l+m+I->Rl lt (ix (AY st) i) (ix (AY st) j):=λi j T i2 G R=>tr _ _ _ (mem _ (by lia)) (mem _ (by lia)) (mem _ (by lia)) (low i T i2) (Z _ _ (by lia) (by omega) (by omega))
 have N:(∀j,l<=j->j < l+m->Rl lt (ix (AY st) j) (ix (AY st) (l+m)))->Up lt (AY st) l (l+(m+I)):=λhh x y J H h3=>by
  by_cases c1:y < l+m
  ·exact Y x y J H c1
  by_cases c2:x < l+m
  ·exact tr _ _ _ (mem _ (by lia)) (mem _ (by lia)) (mem _ (by lia)) (hh x J c2) (Z _ _ (by lia) (by lia) (by lia))
  ·exact Z x y (by lia) H (by lia)
 refine(show wpS (AU prog w) A E s (if (m - k==0)=true then _ else _) Q ug from ?_)
 by_cases c1:m - k=0
 ·rw[qX (by simpa using c1)]
  refine Ac (h ug g1 p1 ?_ (by rw[a1];exact .refl));rw[a1]
  exact N λj G R=>low j G (by lia)
 rw[qY (by simpa using c1)];refine AX (Qa (a:=AY st) (by omega) ?_);rw[show l+k+(m - k) - 1=l+m - 1 by lia];refine AX (GV C g1 (λj=>lt (ix (AY st) (l+m+j)) (ix (AY st) (l+m - 1))) (mem _ (by lia)) (λj hj=>⟨by lia,mem _ (by lia)⟩) (λj hj=>rfl) (λx y wR hy e=>?_) (by omega) λk3 zd k4 k5=>?_)
 ·cases e2:lt (ix (AY st) (l+m+x)) (ix (AY st) (l+m - 1))with
  | true=>rfl
  | false=>
   have:=tr _ _ _ (mem _ (by lia)) (mem _ (by lia)) (mem _ (by lia)) e2 (Z (l+m+x) (l+m+y) (by lia) (by lia) (by lia));exact nomatch ((e).symm.trans this)
 have U:∀j,l+m+k3<=j->j < l+m+I->Rl lt (ix (AY st) (l+m - 1)) (ix (AY st) j):=λj G R=>by
  have:=k5 (j - (l+m)) (by lia) (by lia);rwa [show l+m+(j - (l+m))=j by lia]at this
 refine(show wpS (AU prog w) A E s (if (k3==0)=true then _ else _) Q ug from ?_)
 by_cases c2:k3=0
 ·rw[qX (by simpa using c2)]
  refine Ac (h ug g1 p1 ?_ (by rw[a1];exact .refl));rw[a1]
  exact N λj G R=>tr _ _ _ (mem _ (by lia)) (mem _ (by lia)) (mem _ (by lia)) (Y j (l+m - 1) (by omega) (by lia) (by lia)) (U _ (by lia) (by lia))
 rw[qY (by simpa using c2)]
 let x:=(AY st).extract (l+k) (l+m)
 let y:=(AY st).extract (l+m) (l+m+k3)
 have xs:x.size=m - k:=by simp[x];lia
 have ys:y.size=k3:=by simp[y];lia
 have ixx:∀j,j < m - k->ix x j=ix (AY st) (l+k+j):=λj hj=>Yu (by lia) (by lia)
 have ixy:∀j,j < k3->ix y j=ix (AY st) (l+m+j):=λj hj=>Yu (by lia) (by lia)
 have y1:∀z∈x.toList,∃j,j < m - k/\z=ix (AY st) (l+k+j):=λz B=>by
  have B:z∈((AY st).extract (l+k) (l+k+(m - k))).toList:=by rw[show l+k+(m - k)=l+m by lia];exact B
  exact QB (by lia) B
 have y2:∀z∈y.toList,∃j,j < k3/\z=ix (AY st) (l+m+j):=λz B=>QB (by lia) B
 have fin:∀(r:Array A8) (o:A6),N1 a₀ κ ug o->KM (Rl lt) (x.toList++y.toList) r.toList->∀u0:A6,AY u0=wr (AY o) (l+k) r.toList.zipIdx->kindOf u0=kindOf o->GB u0=GB o->AW u0=AW o->Q true u0:=by
  intro r o S f u0 q1 q2 q3 q4
  have hr:r.size=m - k+k3:=by
   have:=f.perm.length_eq;simp only[Ai,Az]at this
   lia
  have ha:=S.arr.trans a1;rw[ha]at q1
  have hb:l+k+r.size<=(AY st).size:=by lia
  have mm:∀t,t < r.size->∃t',ix r t=ix (AY st) t'/\l+k<=t'/\t' < l+m+k3:=λt ht=>by
   have:ix r t∈r.toList:=BD.mpr (Cy (DJ ht))
   rcases Bg.mp (f.perm.mem_iff.mp this)with h | h
   ·obtain⟨j,G,e⟩:=y1 _ h
    exact⟨_,e,by lia,by lia⟩
   ·obtain⟨j,G,e⟩:=y2 _ h
    exact⟨_,e,by lia,by lia⟩
  have rs:=V8 O (λt ht=>by
   obtain⟨t',e,_,_⟩:=mm t ht;rw[e]
   exact mem _ (by lia)) f.srt
  refine h u0 ⟨?_,?_,?_⟩ (q4.trans (S.pend.trans p1)) ?_ ?_
  ·rw[q1]
   refine(jp hb (f.perm.trans ?_)).trans g.perm
   have:(AY st).toList.drop (l+k)=x.toList++(AY st).toList.drop (l+m):=by
    have:=Hn (a:=AY st) (i:=l+k) (k:=m - k) (by lia);rw[show l+k+(m - k)=l+m by lia]at this;exact this
   have H:(AY st).toList.drop (l+m)=y.toList++(AY st).toList.drop (l+m+k3):=Hn (by lia);have h3:=Hn hb;rw[this,H,<-Bj,show l+k+r.size=l+m+k3 by lia]at h3;rw[show l+k+r.size=l+m+k3 by lia];exact DD.of_eq (List.append_cancel_right h3)
  ·rw[q2];exact S.good.kind
  ·rw[q3];exact S.good.failed
  ·rw[q1]
   intro i j J H h3;rw[fm hb,fm hb]
   by_cases T:i < l+k
   ·rw[qX T]
    by_cases G:j < l+k
    ·rw[qX G];exact Y i j J H (by lia)
    rw[qY G]
    by_cases R:j < l+k+r.size
    ·rw[qX R]
     obtain⟨t,e,t1,t2⟩:=mm (j - (l+k)) (by omega);rw[e]
     by_cases t3:t < l+m
     ·exact Y i t J (by lia) t3
     ·exact zg i t J T (by lia) (by lia)
    ·rw[qY R];exact zg i j J T (by lia) (by lia)
   rw[qY T,qY (by lia)]
   by_cases i2:i < l+k+r.size
   ·rw[qX i2]
    by_cases R:j < l+k+r.size
    ·rw[qX R];exact rs _ _ (by lia) (by omega)
    ·rw[qY R]
     obtain⟨t,e,t1,t2⟩:=mm (i - (l+k)) (by omega);rw[e]
     by_cases t3:t < l+m
     ·exact tr _ _ _ (mem _ (by lia)) (mem _ (by lia)) (mem _ (by lia)) (Y t (l+m - 1) (by lia) (by lia) (by lia)) (U j (by lia) (by lia))
     ·exact Z t j (by lia) (by lia) (by lia)
   ·rw[qY i2,qY (by lia)]
    exact Z i j (by lia) H (by lia)
  ·rw[q1]
   intro i hi;rw[fm hb]
   by_cases T:i < l+k
   ·rw[qX T]
   ·rw[qY T,qY (by lia)]
 have X:∀{P:Prop},((∀z∈x.toList,z∈a₀)->(∀z∈y.toList,z∈a₀)->x.toList.Pairwise (Rl lt)->y.toList.Pairwise (Rl lt)->0 < x.size->0 < y.size->(∀z∈x.toList,Rl lt (ix y 0) z)->(∀z∈y.toList,Rl lt z (ix x (x.size - 1)))->P)->P:=by
  intro P hP
  refine hP (λz B=>?_) (λz B=>?_) (Zf (by lia) λi j J H h3=>Y i j (by lia) H h3) (Zf (by lia) λi j J H h3=>Z i j J H (by lia)) (by lia) (by lia) (λz B=>?_) λz B=>?_
  ·obtain⟨j,G,rfl⟩:=y1 z B
   exact mem _ (by lia)
  ·obtain⟨j,G,rfl⟩:=y2 z B
   exact mem _ (by lia)
  ·obtain⟨j,G,rfl⟩:=y1 z B
   rw[ixy 0 (by lia)];have:=k2 (k+j) (by lia) (by lia);rw[show l+(k+j)=l+k+j by lia]at this;exact O.asym _ _ (mem _ (by lia)) (mem _ (by lia)) (by simpa using this)
  ·obtain⟨j,G,rfl⟩:=y2 z B
   rw[xs,ixx _ (by lia),show l+k+(m - k - 1)=l+m - 1 by lia];exact O.asym _ _ (mem _ (by lia)) (mem _ (by lia)) (k4 j G)
 refine(?_);split
 ·refine AX (X λb1 b2 b3 b4 b5 b6 b7 b8=>io C O g1 b1 b2 b3 b4 b5 b6 b7 b8 λr o S f=>?_)
  refine AX (Cv (AX (Ec (Ac ?_))));have q:=fin r o S f (setArr o (wr (AY o) (l+k) r.toList.zipIdx)) rfl rfl rfl rfl;rw[<-show(GB o).isNone=true by rw[S.good.failed];rfl]at q;exact q
 ·refine AX (X λb1 b2 b3 b4 b5 b6 b7 b8=>ip C O g1 b1 b2 b3 b4 b5 b6 b7 b8 λr o S f=>?_)
  refine AX (Cv (AX (Ec (Ac ?_))));have q:=fin r o S f (setArr o (wr (AY o) (l+k) r.toList.zipIdx)) rfl rfl rfl rfl;rw[<-show(GB o).isNone=true by rw[S.good.failed];rfl]at q;exact q
end
theorem kN[Decidable c](h:1 < z):(if c then z - 2 - 1 else z - 2)+1 < z:=by split <;> omega
def Stk(lt:A8->A8->Bool)(arr:Array A8):List (Nat×Nat×Nat)->Nat->Nat->Prop
 | [],lo,g=>lo=g
 | (s,n,_) :: r,lo,g=>s=lo/\1<=n/\Up lt arr s (s+n)/\Stk lt arr r (s+n) g
section
theorem Stk.le:∀{l:List (Nat×Nat×Nat)} {lo hi:Nat},Stk lt arr l lo hi->lo+l.length<=hi
 | [],lo,hi,h=>by cases h;simp
 | (s,n,_) :: r,lo,hi,⟨m,o,_,g⟩=>by
  have:=Stk.le g;rw[A0]
  lia
theorem Stk.app:∀{l r:List (Nat×Nat×Nat)} {lo hi:Nat},Stk lt arr (l++r) lo hi↔∃g,Stk lt arr l lo g/\Stk lt arr r g hi
 | [],r,lo,hi=>⟨λh=>⟨lo,rfl,h⟩,λ⟨_,e,h⟩=>by cases e;exact h⟩
 | (s,n,_) :: l,r,lo,hi=>by
  constructor
  ·rintro⟨m,o,A,B⟩
   obtain⟨g,a,b⟩:=Stk.app.mp B;exact⟨g,⟨m,o,A,a⟩,b⟩
  ·rintro⟨g,⟨m,o,A,B⟩,b⟩
   exact⟨m,o,A,Stk.app.mpr ⟨g,B,b⟩⟩
theorem Stk.pw(g:∀x,(f x).1=x.1/\(f x).2.1=x.2.1):∀{l:List (Nat×Nat×Nat)} {lo hi:Nat} (i:Nat),Stk lt arr l lo hi->Stk lt arr (l.modify i f) lo hi
 | [],lo,hi,i,h=>by cases i <;> exact h
 | (s,n,p) :: r,lo,hi,0,h=>by
  obtain⟨m,o⟩:=g (s,n,p);show Stk lt arr (f (s,n,p) :: r) lo hi;generalize f (s,n,p)=q at m o;obtain⟨G,H,I⟩:=q;subst m o;exact h
 | (s,n,p) :: r,lo,hi,i+1,⟨A,B,C,E⟩=>⟨A,B,C,Stk.pw g i E⟩
theorem Stk.out:∀{l:List (Nat×Nat×Nat)} {lo hi x y:Nat},Stk lt arr l lo hi->Out arr arr' x y->(hi<=x∨y<=lo)->Stk lt arr' l lo hi
 | [],lo,hi,x,y,h,o,d=>h
 | (s,n,_) :: r,lo,hi,x,y,⟨m,A,B,g⟩,o,d=>by
  have:=g.le;exact⟨m,A,B.out o (by lia),Stk.out g o (by lia)⟩
end
section
theorem Out.wide(o:Out xs g l h)(s:m<=l)(A:h<=h'):Out xs g m h':=λi B=>o i (by lia)
theorem JJ{st:A6}{i hi:Nat}{Q:Bool->A6->Prop}(C:JB prog w A s a₀ R lt)(O:Ord (·∈a₀) lt)(g:Good a₀ R st)(k:Stk lt (AY st) (AW st).toList 0 hi)(hs:hi<=a₀.size)(Z:i+1 < (AW st).size)
  (h:∀m,Good a₀ R m->Stk lt (AY m) (AW m).toList 0 hi->(AW m).size+1=(AW st).size->Out (AY st) (AY m) 0 hi->Q true m):wpS (AU prog w) A E s (mergeAt' i) Q st:=by
 obtain⟨o,B,pw,S⟩:∃o B pw,(AW st)[i]?=some (o,B,pw):=⟨_,_,_,getElem?_pos (AW st) i (by lia)⟩
 obtain⟨I,G,H,T⟩:∃o B pw,(AW st)[i+1]?=some (o,B,pw):=⟨_,_,_,getElem?_pos (AW st) (i+1) Z⟩
 obtain⟨l,r,J,hl⟩:∃l r,(AW st).toList=l++(o,B,pw) :: (I,G,H) :: r/\l.length=i:=by
  have a1:(AW st).toList[i]?=some (o,B,pw):=by simpa using S
  have a2:(AW st).toList[i+1]?=some (I,G,H):=by simpa using T
  obtain⟨b1,c1⟩:=AH.mp a1;obtain⟨b2,c2⟩:=AH.mp a2;refine⟨(AW st).toList.take i,(AW st).toList.drop (i+2),?_,by rw[D4];lia⟩
  conv=>lhs;rw[<-Gp i (AW st).toList,Ic b1,Ic b2,c1,c2]
 rw[J]at k;obtain⟨L,U,⟨q1,q2,q3,⟨q4,q5,q6,N⟩⟩⟩:=Stk.app.mp k;have hle:=N.le;have X:=U.le
 refine V2 C O g S T q4 q2 q5 (by lia) q3 q6 λm g' p' u' P=>?_
 have Y:(AW m).toList=l++(o,B+G,pw) :: r:=by
  rw[p',Array.toList_eraseIdxIfInBounds,SR,J];rw[X0 _ _ (by lia),hl,Xx,List.set_cons_zero,List.eraseIdx_append_of_length_le (by lia),show i+1 - l.length=1 by lia];rfl
 refine h m g' ?_ ?_ (P.wide (by lia) (by lia))
 ·rw[Y]
  refine Stk.app.mpr ⟨L,U.out P (.inl (by lia)),q1,by lia,u',?_⟩
  have e:I+G=o+(B+G):=by lia
  rw[e]at N;exact N.out P (.inr (by lia))
 ·have z1:=congrArg Ln Y
  have z2:=congrArg Ln J;simp at z1 z2
  lia
theorem wpS_sortRuns{st:A6}{Q:Unit->A6->Prop}(C:JB prog w A s a₀ L lt)(O:Ord (·∈a₀) lt)(g:Good a₀ L st)(hp:AW st = #[])
  (h:∀o,Good a₀ L o->Up lt (AY o) 0 a₀.size->Q () o):wpS (AU prog w) A E s sortRuns' Q st:=by
 rw[sortRuns'_eq];refine AX (Ec ?_);dsimp only;rw[g.size];generalize minRun' a₀.size a₀.size 0=T
 refine AX (Er (Cf (I:=λx c o=>∃lo,c=(none,lo)/\Good a₀ L o/\Stk lt (AY o) (AW o).toList 0 lo/\lo<=a₀.size/\min x a₀.size<=lo)
  (Q:=λc o=>c=(none,a₀.size)/\Good a₀ L o/\Stk lt (AY o) (AW o).toList 0 a₀.size) ?step ?fin ?init) ?post)
 case init=>exact⟨0,rfl,g,by rw[hp];rfl,by lia,by lia⟩
 case fin=>
  rintro c o ⟨lo,rfl,g',k',h1,h2⟩
  have:lo=a₀.size:=by lia
  subst this;exact⟨rfl,g',k'⟩
 case step=>
  rintro x c ug _ hx ⟨lo,rfl,g1,U,h1,h2⟩
  by_cases uY:lo ≥ a₀.size
  ·rw[qX uY]
   have:lo=a₀.size:=by lia
   subst this;exact Ac ⟨rfl,g1,U⟩
  rw[qY uY];refine AX (wpS_countRun C O (by lia) (by lia) g1 λu0 n X N S u2 o2 p2=>?_);dsimp only
  have k2:Stk lt (AY u0) (AW u0).toList 0 lo:=by
   rw[p2];exact U.out o2 (.inl (AN _))
  by_cases hm:n < T
  ·rw[qX hm]
   refine AX (HM ?_);refine AX (wpS_binarySort C O (by lia) (by omega) X u2 λvn g3 u3 o3 p3=>?_)
   have k3:Stk lt (AY vn) (AW vn).toList 0 lo:=by
    rw[p3];exact k2.out o3 (.inl (AN _))
   rw[qY (by simp)];refine AX (Ec ?_)
   cases hb:(AW vn).back? with
   | none=>
    refine AX (Cv (Ac ⟨lo+min (a₀.size - lo) T,rfl,⟨g3.perm,g3.kind,g3.failed⟩,?_,by lia,by lia⟩));rw[Ea];exact Stk.app.mpr ⟨lo,k3,rfl,by omega,u3,rfl⟩
   | some t=>
    obtain⟨Y,N,z⟩:=t;dsimp only;generalize power' a₀.size (2 * Y+N) (2 * Y+N+N+min (a₀.size - lo) T) a₀.size=pw
    refine AX (Er (Cf (I:=λ_ c m=>c=(none,())/\Good a₀ L m/\Stk lt (AY m) (AW m).toList 0 lo/\Up lt (AY m) lo (lo+min (a₀.size - lo) T))
     ?_ (λc m h=>h) ⟨rfl,g3,k3,u3⟩) ?_)
    ·rintro x' c' m _ _ ⟨rfl,B,G,H⟩
     refine AX (Ec ?_)
     by_cases J:(AW m).size > 1
     ·rw[qX J]
      obtain⟨Z,S,P,R⟩:∃Z S P,(AW m)[(AW m).size - 2]?=some (Z,S,P):=⟨_,_,_,getElem?_pos (AW m) ((AW m).size - 2) (by lia)⟩
      rw[R];dsimp only
      by_cases ho:P<=pw
      ·rw[qX ho]
       exact Ac ⟨rfl,B,G,H⟩
      ·rw[qY ho]
       refine AX (JJ C O B G (by omega) (by lia) λwD g5 k5 _ o5=>?_);exact Ac ⟨rfl,g5,k5,H.out o5 (.inr (by lia))⟩
     ·rw[qY J]
      exact Ac ⟨rfl,B,G,H⟩
    ·rintro c' m ⟨rfl,B,G,H⟩
     refine AX (Cv (AX (Cv (Ac ⟨lo+min (a₀.size - lo) T,rfl,⟨B.perm,B.kind,B.failed⟩,?_,by lia,by lia⟩))));rw[Ea,ZY];exact Stk.app.mpr ⟨lo,Stk.pw (f:=λx=>(x.fst,x.2.fst,pw)) (λx=>⟨rfl,rfl⟩) _ G,rfl,by omega,H,rfl⟩
  ·rw[qY hm]
   refine AX (Ec ?_)
   cases hb:(AW u0).back? with
   | none=>
    refine AX (Cv (Ac ⟨lo+n,rfl,⟨X.perm,X.kind,X.failed⟩,?_,by lia,by lia⟩));rw[Ea];exact Stk.app.mpr ⟨lo,k2,rfl,by omega,u2,rfl⟩
   | some t=>
    obtain⟨Y,N,z⟩:=t;dsimp only;generalize power' a₀.size (2 * Y+N) (2 * Y+N+N+n) a₀.size=pw
    refine AX (Er (Cf (I:=λ_ c m=>c=(none,())/\Good a₀ L m/\Stk lt (AY m) (AW m).toList 0 lo/\Up lt (AY m) lo (lo+n))
     ?_ (λc m h=>h) ⟨rfl,X,k2,u2⟩) ?_)
    ·rintro x' c' m _ _ ⟨rfl,B,G,H⟩
     refine AX (Ec ?_)
     by_cases J:(AW m).size > 1
     ·rw[qX J]
      obtain⟨Z,S,P,R⟩:∃Z S P,(AW m)[(AW m).size - 2]?=some (Z,S,P):=⟨_,_,_,getElem?_pos (AW m) ((AW m).size - 2) (by lia)⟩
      rw[R];dsimp only
      by_cases ho:P<=pw
      ·rw[qX ho]
       exact Ac ⟨rfl,B,G,H⟩
      ·rw[qY ho]
       refine AX (JJ C O B G (by omega) (by lia) λwD g5 k5 _ o5=>?_);exact Ac ⟨rfl,g5,k5,H.out o5 (.inr (by lia))⟩
     ·rw[qY J]
      exact Ac ⟨rfl,B,G,H⟩
    ·rintro c' m ⟨rfl,B,G,H⟩
     refine AX (Cv (AX (Cv (Ac ⟨lo+n,rfl,⟨B.perm,B.kind,B.failed⟩,?_,by lia,by lia⟩))));rw[Ea,ZY];exact Stk.app.mpr ⟨lo,Stk.pw (f:=λx=>(x.fst,x.2.fst,pw)) (λx=>⟨rfl,rfl⟩) _ G,rfl,by omega,H,rfl⟩
 case post=>
  rintro c ug ⟨rfl,g1,U⟩
  refine AX (Er (Cf (I:=λx c m=>c=(none,())/\Good a₀ L m/\Stk lt (AY m) (AW m).toList 0 a₀.size/\((AW m).size<=1∨(AW m).size+x<=a₀.size))
   (Q:=λc m=>c=(none,())/\Good a₀ L m/\Stk lt (AY m) (AW m).toList 0 a₀.size/\(AW m).size<=1) ?_ ?_ ?_) ?_)
  ·rintro x c m _ _ ⟨rfl,B,G,d⟩
   refine AX (Ec ?_)
   by_cases J:(AW m).size<=1
   ·rw[qX J]
    exact Ac ⟨rfl,B,G,J⟩
   ·rw[qY J]
    refine AX (JJ C O B G (AN _) (kN (by lia)) λwD g5 k5 z5 o5=>?_);exact Ac ⟨rfl,g5,k5,.inr (by lia)⟩
  ·rintro c m ⟨rfl,B,G,d⟩
   exact⟨rfl,B,G,by lia⟩
  ·refine⟨rfl,g1,U,.inr ?_⟩
   have:=U.le;simp at this;omega
  ·rintro c m ⟨rfl,B,G,d⟩
   refine Ac (h m B ?_);generalize hl:(AW m).toList=l at G
   have hd:l.length<=1:=by rw[<-hl];simpa using d
   match l,G,hd with
   | [],G,_=>exact λi j h1 h2 h3=>by have:(0:Nat)=a₀.size:=G;lia
   | [(s,n,_)],⟨e1,_,u,R⟩,_=>
    have R:=R;rw[R,e1]at u;exact u
end
section
variable{prog:BJ}{w:Bs}{A:BX}{E:AG->AK->Prop}{s:AK}{a₀:Array A8}{κ:LV}{lt:A8->A8->Bool}
theorem SS{st:A6}{Q:Unit->A6->Prop}(N:a₀.size < 64)(h1:1<=a₀.size)(C:JB prog w A s a₀ κ lt)(O:Ord (·∈a₀) lt)(g:Good a₀ κ st)(hp:AW st = #[])
  (h:∀l,Good a₀ κ l->Up lt (AY l) 0 a₀.size->Q () l):wpS (AU prog w) A E s sortRuns' Q st:=by
 rw[sortRuns'_eq];refine AX (Ec ?_);dsimp only;rw[g.size]
 have P:minRun' a₀.size a₀.size 0=a₀.size:=by
  obtain⟨f,hf⟩:∃f,a₀.size=f+1:=⟨a₀.size - 1,by omega⟩
  have:minRun' (f+1) a₀.size 0=a₀.size:=by rw[minRun'_succ,qX N];rfl
  rwa [<-hf]at this
 rw[P]
 refine AX (Er (Cf (I:=λx c l=>(x=0/\c=(none,0)/\Good a₀ κ l/\AW l = #[])∨(1<=x/\c=(none,a₀.size)/\Good a₀ κ l/\Up lt (AY l) 0 a₀.size/\(AW l).size<=1))
  (Q:=λc l=>c=(none,a₀.size)/\Good a₀ κ l/\Up lt (AY l) 0 a₀.size/\(AW l).size<=1) ?step ?fin ?init) ?post)
 case init=>exact .inl ⟨rfl,rfl,g,hp⟩
 case fin=>
  rintro c l (⟨h0,_⟩ | ⟨_,rfl,g',u',p'⟩)
  ·lia
  ·exact⟨rfl,g',u',p'⟩
 case step=>
  rintro x c ug _ hx (⟨rfl,rfl,B,o⟩ | ⟨yC,rfl,B,R,o⟩)
  ·dsimp only
   rw[qY (by lia)];refine AX (wpS_countRun C O (by lia) (by lia) B λU n L n1 n2 S o2 X=>?_);dsimp only;rw[FE]at S
   by_cases Y:n < a₀.size
   ·rw[qX Y]
    refine AX (HM ?_);refine AX (wpS_binarySort C O (by lia) (by lia) L (by simpa using S) λZ T u3 o3 p3=>?_);rw[qY (by simp)];refine AX (Ec ?_)
    have G:AW Z = #[]:=by rw[p3,X,o]
    rw[G];dsimp only[qZ]
    have em:min (a₀.size - 0) a₀.size=a₀.size:=by lia
    rw[em]at u3 ⊢;refine AX (Cv (Ac (.inr ⟨by lia,by rw[FE],⟨T.perm,T.kind,T.failed⟩,by simpa using u3,?_⟩)));show((AW Z).push (0,a₀.size,0)).size<=1;rw[G];simp
   ·have e:n=a₀.size:=by lia
    subst e;rw[qY Y];refine AX (Ec ?_)
    have G:AW U = #[]:=by rw[X,o]
    rw[G];dsimp only[qZ];refine AX (Cv (Ac (.inr ⟨by lia,by rw[FE],⟨L.perm,L.kind,L.failed⟩,S,?_⟩)));show((AW U).push (0,a₀.size,0)).size<=1;rw[G];simp
  ·dsimp only
   rw[qX (AN _)];exact Ac ⟨rfl,B,R,o⟩
 case post=>
  rintro c ug ⟨rfl,B,R,o⟩;dsimp only;refine AX (Er (Cf (I:=λx c m=>c=(none,())/\Good a₀ κ m/\Up lt (AY m) 0 a₀.size/\(AW m).size<=1) (Q:=λc m=>c=(none,())/\Good a₀ κ m/\Up lt (AY m) 0 a₀.size) ?_ ?_ ⟨rfl,B,R,o⟩) ?_)
  ·rintro x c m _ _ ⟨rfl,H,J,p4⟩
   refine AX (Ec ?_);rw[qX p4];exact Ac ⟨rfl,H,J⟩
  ·rintro c m ⟨rfl,H,J,_⟩
   exact⟨rfl,H,J⟩
  ·rintro c m ⟨rfl,H,J⟩
   exact Ac (h m H J)
end
noncomputable def ltL:ZLi->ZLi->Bool
 | [],[]=>false
 | [],_ :: _=>true
 | _ :: _,[]=>false
 | x :: g,y :: l=>if x=y then ltL g l else decide (x < y)
theorem RF:∀x y,ltL x y=true->ltL y x=false
 | [],[],h=>by cases h
 | [],_ :: _,_=>rfl
 | _ :: _,[],h=>by cases h
 | x :: g,y :: l,h=>by
  unfold ltL at h ⊢
  by_cases e:x=y
  ·rw[qX e]at h;rw[qX e.symm];exact RF g l h
  ·rw[qY e]at h;rw[qY (Bo e)];simp at h ⊢;lia
theorem U0:∀x y z,ltL y x=false->ltL z y=false->ltL z x=false
 | [],y,[],_,_=>rfl
 | [],[],_ :: _,_,_=>rfl
 | [],_ :: _,_ :: _,_,_=>rfl
 | x :: s,[],z,h,_=>by cases h
 | _,y :: A,[],_,h=>by cases h
 | x :: s,y :: A,z :: C,l,g=>by
  unfold ltL at l g ⊢
  by_cases o:y=x
  ·rw[qX o]at l
   subst o
   by_cases m:z=y
   ·rw[qX m]at g ⊢
    exact U0 s A C l g
   ·rw[qY m]at g ⊢;exact g
  ·rw[qY o]at l
   by_cases m:z=y
   ·subst m;rw[qY o];exact l
   ·rw[qY m]at g
    by_cases B:z=x
    ·subst B;simp at l g;lia
    ·rw[qY B];simp at l g ⊢;lia
theorem Z9:∀x y,ltL x y=false->ltL y x=false->x=y
 | [],[],_,_=>rfl
 | [],_ :: _,h,_=>by cases h
 | _ :: _,[],_,h=>by cases h
 | x :: m,y :: o,g,l=>by
  unfold ltL at g l
  by_cases e:x=y
  ·rw[qX e]at g;rw[qX e.symm]at l;rw[e,Z9 m o g l]
  ·rw[qY e]at g;rw[qY (Bo e)]at l;simp at g l;lia
def ltK(f:AG->ZLi)(x y:A8):Bool:=ltL (f x.1) (f y.1)
theorem Zy(f:AG->ZLi)(U:A8->Prop):Ord U (ltK f):=⟨λx y _ _ h=>RF _ _ h,λx y z _ _ _ g l=>U0 _ _ _ g l⟩
section
theorem Ye(o:Bool)(h:Q (decide (a < b)) s):AZ (AU prog w) A (oneLt' o (.int a t) (.int b u)) Q E s:=by
 cases o with
 | true=>exact oneLt_int h
 | false=>
  rw[oneLt'_eq];exact AA (wpAny_lt_int (Cc h))
def ZG(s:AK)(v:AG)(l:ZLi):Prop:=∃a g,v=.ref a/\s.heap.IsTuple a g/\IntsAre g.toList l
noncomputable def tU(o:Bool):(AG×AG)×Nat->Option Bool×Unit->Sem (ForInStep (Option Bool×Unit)):=λe _=>match e with
 | ((p,q),i)=>eqBool p q >>= λc=>if (!c)=true then oneLt' (o&&i==0) p q >>= λb=>pure (.done (some b,()))else pure (.yield (none,()))
theorem fg(o:Bool)(x y:AG):keyLt' (qJ o) x y=(IA x >>= λr=>IA y >>= λq=>forIn (r.toList.zip q.toList).zipIdx ((none,()):Option Bool×Unit) (tU o) >>= λz=>match z.1 with
  | some b=>pure b
  | none=>pure (decide (r.size < q.size))):=by kernel_rfl
theorem gx(o:Bool):∀{is l:List AG} {G H:ZLi} (k:Nat) {Q:Bool->AK->Prop},IntsAre is G->IntsAre l H->Q (ltL G H) s ->
  AZ (AU prog w) A (forIn ((is.zip l).zipIdx k) ((none,()):Option Bool×Unit) (tU o) >>= λz=>match z.1 with
   | some b=>pure b
   | none=>pure (decide (n0+is.length < n0+l.length))) Q E s:=by
 intro is
 induction is with
 | nil=>
  intro l G H k Q B C g;cases B;rw[dL,iY,Lp];refine AA (AC (AC ?_))
  cases C with
  | nil=>simpa[ltL]using g
  | cons m t h=>simpa[ltL]using g
 | cons v is I=>
  intro l G H k Q B C g
  cases B with
  | cons n t B=>
   cases C with
   | nil=>
    rw[cq,iY,Lp];refine AA (AC (AC ?_));rw[wY (by rw[A0,Fh];lia)];exact g
   | cons m u C=>
    rw[N5,List.zipIdx_cons,KY];rw[bind_assoc];unfold ltL at g;refine AA ?_;refine AA (qc ?_)
    by_cases e:n=m
    ·rw[qX e]at g
     rw[qY (by simp[e])];refine AC ?_;have:=I (k+1) B C g;simpa[Nat.add_lt_add_iff_left]using this
    ·rw[qY e]at g
     rw[qX (by simp[e])];refine AA (Ye _ (AC ?_));exact AA (AC (AC g))
end
section
theorem OI(h:ZG s v m):∃g:Array AG,IntsAre g.toList m/\s.TypeIs v "tuple"/\∀(E:AG->AK->Prop) (Q:Array AG->AK->Prop),Q g s->AZ (AU prog w) A (IA v) Q E s:=by
 obtain⟨a,g,rfl,⟨o,l,B,n,C⟩,G⟩:=h;exact⟨g,G,⟨o,l,B⟩,λE Q q=>dD l C q⟩
theorem kx(o:Bool)(g:ZG s x l)(m:ZG s y B)(h:Q (ltL l B) s):AZ (AU prog w) A (keyLt' (qJ o) x y) Q E s:=by
 obtain⟨r,C,_,wr⟩:=OI g;obtain⟨q,G,_,H⟩:=OI m;rw[fg];refine AA (wr E _ (AA (H E _ ?_)));have:=gx (prog:=prog) (w:=w) (A:=A) (E:=E) (n0:=0) o 0 C G h;simp only[FE,Az]at this;exact this
theorem b0(h:ZG s v (n :: B))(m:∀t,Q (some (.int n t)) s):AZ (AU prog w) A (ae v) Q E s:=by
 obtain⟨r,g,ty,wr⟩:=OI h;refine(AA (MC ty ?_):AZ _ _ (ae v) Q E s);refine(?_);rw[qY (by simp)];refine AA (wr E _ (AC ?_));generalize o:r.toList=l at g
 cases g with
 | cons _ t C=>
  have:r[0]?=some (.int n t):=by
   rw[<-Cz,o];rfl
  rw[this];exact m t
theorem RV:∀{vs:List AG},(∀v∈vs,∃n g,ZG s v (n :: g))->∀{Q:List (Option AG)->AK->Prop},(∀is g,IntsAre is g->is.length=vs.length->Q (is.map some) s)->AZ (AU prog w) A (vs.mapM ae) Q E s
 | [],_,Q,h=>by
  rw[List.mapM_nil];exact AC (h [] [] .nil rfl)
 | v :: vs,l,Q,h=>by
  obtain⟨n,g,m⟩:=l v Am;rw[List.mapM_cons];refine AA (b0 m λt=>AA (RV (λv o=>l v (Ab _ o)) λis B C G=>AC ?_));exact h (.int n t :: is) (n :: B) (.cons n t C) (by rw[A0,G,A0])
theorem Uo(h:IntsAre is o)(g:is≠[]):oneTypeOnly' is.toArray=pure (some (.type "int")):=by
 rw[oneTypeOnly'_eq,dM,mapM_typeOf_ints h];simp only[map_pure,pure_bind]
 cases is with
 | nil=>exact zX rfl g
 | cons v is=>
  have l:(Lm (λ_=>Cn "int") (v :: is)).toArray[0]?=some (Cn "int"):=by simp
  have m:((Lm (λ_=>Cn "int") (v :: is)).toArray.all λx=>x==Cn "int")=true:=by
   simp only[List.all_toArray,Ov,BU]
   exact λ_ _=>rfl
  rw[l];simp only[m,if_true]
theorem fc(l:∀v∈vs,∃n g,ZG s v (n :: g))(m:vs≠[])(h:Q (qJ true) s):AZ (AU prog w) A (keyKind' vs.toArray) Q E s:=by
 rw[keyKind'_eq,dM];refine AA ?_;rw[map_eq_pure_bind];refine AA (RV l λis g o B=>AC ?_)
 have C:((is.map some).toArray.all λx=>x.isSome)=true:=by simp
 rw[qX C];refine AA (HI ?_)
 have G:(is.map some).toArray.filterMap id=is.toArray:=by simp
 rw[G,Uo o (by intro e;subst e;cases vs with | nil=>exact m rfl | cons=>simp at B)];refine AA (AC (AC ?_));exact h
end
section
theorem FU(h:x∈Fe vs):x.1∈vs/\x.1=x.2:=by
 have:x∈(Fe vs).toList:=BD.mpr h;rw[pairsOf_toList]at this;exact⟨(mem_zip_self this).2,(mem_zip_self this).1⟩
theorem Tb(vs:List AG):(Fe vs).map (·.2)=vs.toArray:=by
 apply Array.ext'
 rw[D3,pairsOf_toList];simp[List.map_snd_zip]
def R3(prog:BJ)(w:Bs)(A:BX)(s:AK)(vs:List AG)(f:AG->ZLi):Prop:=
 ∃g:LV,(∀(Q:LV->AK->Prop) (E:AG->AK->Prop),Q g s->AZ (AU prog w) A (keyKind' vs.toArray) Q E s)/\JB prog w A s (Fe vs) g (ltK f)
theorem Sm(ho:s.heap.get? a=some (DX "list" vs.toArray n)) (U:vs.length<=sizeLine)
  (X:2<=vs.length->∀s':AK,(∀b o,b≠a->s.heap.get? b=some o->s'.heap.get? b=some o)->R3 prog w A s' vs f)
  (h:∀out:Array AG,out.toList.Perm vs->out.toList.Pairwise (λx y=>ltL (f y) (f x)=false)->P (.done (.ret .none)) { s with heap:=MD s.heap a vs out }) :
  AZ (AU prog w) A (Builtin.«list.sort» ⟨[.ref a],[]⟩) P E s:=by
 have ha:=AS ho
 have L:vs.toArray.size=vs.length:=by simp
 obtain⟨N,R⟩:∃N,(s.heap.update a (Ct λ_=>#[])).get? a=some (DX "list" #[] N):=⟨_,tz ho (λ_=>#[])⟩
 have H:(((s.heap.update a (Ct λ_=>#[])).push (DX "tuple" vs.toArray 0)).push (DX "list" #[] 0)).get? a=some (DX "list" #[] N):=
  AB _ (AB _ R)
 have old:∀b o,b≠a->s.heap.get? b=some o->(((s.heap.update a (Ct λ_=>#[])).push (DX "tuple" vs.toArray 0)).push (DX "list" #[] 0)).get? b=some o:=λb o hb Y=>
  AB _ (AB _ (by rw[M6 _ _ _ _ hb];exact Y))
 have fin:∀m:A6,(AY m).Perm (Fe vs)->(AY m).toList.Pairwise (Rl (ltK f))->P (.done (.ret .none)) { s with heap:=MD s.heap a vs ((AY m).map (·.2)) }:=by
  intro m G I
  have B:∀x∈(AY m).toList,x.1=x.2:=λx O=>by
   have:x∈(Fe vs).toList:=(Co.mp G).mem_iff.mp O;exact(FU (BD.mp this)).2
  refine h _ ?_ ?_
  ·have:=(Co.mp G).map (·.2)
   rw[<-D3,<-D3,Tb]at this;simpa using this
  ·rw[D3,Cp]
   refine I.imp_of_mem λ{x y} O Z r=>?_
   rw[<-B x O,<-B y Z];exact r
 have last:∀m:A6,(AY m).Perm (Fe vs)->GB m=none->(AY m).toList.Pairwise (Rl (ltK f))->(((AY m).map (·.2)).size<=sizeLine+1):=λm G _ _=>by
  rw[il,G.size_eq,Ih]
  lia
 rw[tw];refine AA (dD ho rfl (AA (Hq ho rfl (AA (KN R rfl (AA (wpAny_newTuple (AA (P1 (Bq ?_)))))) ) (by rw[L];exact U) (Bk _))));dsimp only
 by_cases J:vs.toArray.size < 2
 ·rw[qX J,qX J]
  refine AA (AC ?_);rw[dH]
  have S:(AY (DQ Hv (vs.toArray.zip vs.toArray) #[] 7 none)).toList.Pairwise (Rl (ltK f)):=by
   have:(AY (DQ Hv (vs.toArray.zip vs.toArray) #[] 7 none)).toList.length < 2:=by
    rw[Az];show(Fe vs).size < 2;rw[Ih];omega
   generalize (AY (DQ Hv (vs.toArray.zip vs.toArray) #[] 7 none)).toList=l at this
   match l,this with
   | [],_=>exact .nil
   | [x],_=>exact Jv _ _
   | _ :: _ :: _,h=>simp at h;lia
  refine AA (AC (AA (KN H rfl (AA (Hq H rfl ?_ (Bk _) (last (DQ Hv (vs.toArray.zip vs.toArray) #[] 7 none) (E3 _) rfl S))))));simp only[bne_self_eq_false,C3,if_false];exact AC (fin (DQ Hv (vs.toArray.zip vs.toArray) #[] 7 none) (E3 _) S)
 ·rw[qY J,qY J]
  obtain⟨κ,kk,C⟩:=X (by lia) { s with heap:=((s.heap.update a (Ct λ_=>#[])).push (DX "tuple" vs.toArray 0)).push (DX "list" #[] 0) } old;refine AA (kk _ _ ?_)
  refine AA (Ci (Srt.wpS_sortRuns
   (Q:=λ_ m=>(AY m).Perm (Fe vs)/\GB m=none/\(AY m).toList.Pairwise (Rl (ltK f))) C (Zy f _) ⟨E3 _,rfl,rfl⟩ rfl λm g u=>⟨g.perm,g.failed,?_⟩) ?_ λ_ _ e=>e)
  ·have:=Zf (AN _) (by rw[g.size];exact u)
   rwa [IH,TD]at this
  rintro⟨⟨⟩,m⟩ s' ⟨rfl,G,T,I⟩;refine AA (KN H rfl (AA (Hq H rfl ?_ (Bk _) (last m G T I))));rw[T];simp only[bne_self_eq_false,C3,if_false];exact AC (fin m G I)
theorem Pw{a:AR}{vs:List AG}{n:Nat}{P:Fin->AK->Prop}{f:AG->ZLi}(ho:s.heap.get? a=some (DX "list" vs.toArray n)) (U:vs.length<=sizeLine) (X:vs.length < 64)
  (Y:2<=vs.length->∀s':AK,(∀b o,b≠a->s.heap.get? b=some o->s'.heap.get? b=some o)->R3 prog w A s' vs f)
  (h:∀out:Array AG,out.toList.Perm vs->out.toList.Pairwise (λx y=>ltL (f y) (f x)=false)->P (.done (.ret .none)) { s with heap:=MD s.heap a vs out }) :
  AZ (AU prog w) A (Builtin.«list.sort» ⟨[.ref a],[]⟩) P E s:=by
 have ha:a < s.heap.objs.size:=AS ho
 have L:vs.toArray.size=vs.length:=by simp
 obtain⟨N,R⟩:∃N,(s.heap.update a (Ct λ_=>#[])).get? a=some (DX "list" #[] N):=⟨_,tz ho (λ_=>#[])⟩
 have H:(((s.heap.update a (Ct λ_=>#[])).push (DX "tuple" vs.toArray 0)).push (DX "list" #[] 0)).get? a=some (DX "list" #[] N):=
  AB _ (AB _ R)
 have old:∀b o,b≠a->s.heap.get? b=some o->(((s.heap.update a (Ct λ_=>#[])).push (DX "tuple" vs.toArray 0)).push (DX "list" #[] 0)).get? b=some o:=λb o hb Z=>
  AB _ (AB _ (by rw[M6 _ _ _ _ hb];exact Z))
 have fin:∀m:A6,(AY m).Perm (Fe vs)->(AY m).toList.Pairwise (Rl (ltK f))->P (.done (.ret .none)) { s with heap:=MD s.heap a vs ((AY m).map (·.2)) }:=by
  intro m G I
  have B:∀x∈(AY m).toList,x.1=x.2:=λx O=>by
   have:x∈(Fe vs).toList:=(Co.mp G).mem_iff.mp O;exact(FU (BD.mp this)).2
  refine h _ ?_ ?_
  ·have:=(Co.mp G).map (·.2)
   rw[<-D3,<-D3,Tb]at this;simpa using this
  ·rw[D3,Cp]
   refine I.imp_of_mem λ{x y} O hy r=>?_
   rw[<-B x O,<-B y hy];exact r
 have last:∀m:A6,(AY m).Perm (Fe vs)->GB m=none->(AY m).toList.Pairwise (Rl (ltK f))->(((AY m).map (·.2)).size<=sizeLine+1):=λm G _ _=>by
  rw[il,G.size_eq,Ih]
  lia
 rw[tw];refine AA (dD ho rfl (AA (Hq ho rfl (AA (KN R rfl (AA (wpAny_newTuple (AA (P1 (Bq ?_)))))) ) (by rw[L];exact U) (Bk _))));show AZ (AU prog w) A _ P E { s with heap:=((s.heap.update a (Ct λ_=>#[])).push (DX "tuple" vs.toArray 0)).push (DX "list" #[] 0) };dsimp only
 by_cases J:vs.toArray.size < 2
 ·rw[qX J,qX J]
  refine AA (AC ?_);rw[dH]
  have S:(AY (DQ Hv (vs.toArray.zip vs.toArray) #[] 7 none)).toList.Pairwise (Rl (ltK f)):=by
   have:(AY (DQ Hv (vs.toArray.zip vs.toArray) #[] 7 none)).toList.length < 2:=by
    rw[Az];show(Fe vs).size < 2;rw[Ih];omega
   generalize (AY (DQ Hv (vs.toArray.zip vs.toArray) #[] 7 none)).toList=l at this
   match l,this with
   | [],_=>exact .nil
   | [x],_=>exact Jv _ _
   | _ :: _ :: _,h=>simp at h;lia
  refine AA (AC (AA (KN H rfl (AA (Hq H rfl ?_ (Bk _) (last (DQ Hv (vs.toArray.zip vs.toArray) #[] 7 none) (E3 _) rfl S))))));simp only[bne_self_eq_false,C3,if_false];exact AC (fin (DQ Hv (vs.toArray.zip vs.toArray) #[] 7 none) (E3 _) S)
 ·rw[qY J,qY J]
  obtain⟨κ,kk,C⟩:=Y (by lia) { s with heap:=((s.heap.update a (Ct λ_=>#[])).push (DX "tuple" vs.toArray 0)).push (DX "list" #[] 0) } old;refine AA (kk _ _ ?_)
  refine AA (Ci (Srt.SS (a₀:=Fe vs) (st:=DQ κ (vs.toArray.zip vs.toArray) #[] 7 none)
   (Q:=λ_ m=>(AY m).Perm (Fe vs)/\GB m=none/\(AY m).toList.Pairwise (Rl (ltK f))) (by rw[Ih];exact X) (by rw[Ih];lia) C (Zy f _) ⟨E3 _,rfl,rfl⟩ rfl λm g u=>⟨g.perm,g.failed,?_⟩) ?_ λ_ _ e=>e)
  ·have:=Zf (a:=AY m) (lo:=0) (hi:=(AY m).size) (AN _) (by rw[g.size];exact u)
   rwa [IH,TD]at this
  rintro⟨⟨⟩,m⟩ s' ⟨rfl,G,T,I⟩;refine AA (KN H rfl (AA (Hq H rfl ?_ (Bk _) (last m G T I))));rw[T];simp only[bne_self_eq_false,C3,if_false];exact AC (fin m G I)
theorem a7(h:∀v∈vs,ZG s v (f v)/\f v≠[])(g:vs≠[]):R3 prog w A s vs f:=
 ⟨qJ true,λQ E q=>fc (λv l=>by
  obtain⟨m,o⟩:=h v l
  cases e:f v with
  | nil=>exact zX e o
  | cons n B=>exact⟨n,B,by rw[<-e];exact m⟩) g q,λx y C G Q E q=>kx true (h _ (FU C).1).1 (h _ (FU G).1).1 q⟩
def fH(v:AG):ZLi:=[numOf v]
theorem a9(h:IntsAre vs G)(o:2<=vs.length):R3 prog w A s vs fH:=by
 refine⟨oneType',λQ E q=>?_,λx y B C Q E q=>?_⟩
 ·match vs,o,h with
  | v :: u :: r,_,h=>rw[keyKind_ints h];exact AC q
 ·obtain⟨n,t,g⟩:=h.all _ (FU B).1
  obtain⟨m,u,l⟩:=h.all _ (FU C).1;rw[keyLt'_oneType,g,l];refine oneLt_int ?_
  have:ltK fH x y=decide (n < m):=by
   unfold ltK fH;rw[g,l];show(if n=m then false else decide (n < m))=_;split
   ·rename_i e;simp[e]
   ·rfl
  rw[<-this];exact q
end
def Sy(h:Bu)(d:AR)(es:Array Ow)(ep:Nat):Prop:=∃o,h.get? d=some o/\o.ExactDict/\o.data=.dict es ep
theorem Sy.at'(x:Sy h d es ep)(e:∀o,h.get? d=some o->h'.get? d=some o):Sy h' d es ep:=let ⟨o,g,r⟩:=x;⟨o,e _ g,r⟩
theorem Sy.ty{s:AK}{d:AR}{es:Array Ow}{ep:Nat}(x:Sy s.heap d es ep):s.TypeIs (.ref d) "dict":=let ⟨o,g,l,_⟩:=x;⟨o,g,l.1⟩
section
theorem Wb{Q:AG->AK->Prop}(C:(d==DM)=false)(l:Sy s.heap d es ep)
  (G:Q (.ref s.heap.objs.size) { s with heap:=s.heap.push { cls:=.type "dict_keyiterator",data:=.fields #[.ref d,.int 0 0,.int es.size 0,.int ep 0] } }):AZ (AU prog w) A (MF (.ref d)) Q E s:=by
 have g:=l.ty;obtain⟨o,m,H,B⟩:=l;refine R9 g T8 (BM T8 g PySem.F.entry_dict_iter ?_ (PySem.F.args_dict_iter_1 _));unfold Builtin.«dict.__iter__»;refine AA ?_;unfold uK;refine AA (wpAny_notOrdered_dict g (AC ?_));refine(show AZ _ _ (QY d >>= _) _ _ s from ?_);unfold QY;rw[qY (by simp[C])];refine AA (AC (AA (SA m B (AA (Vu m B (AA (A4 (AC ⟨_,rfl, "dict_keyiterator",_,⟨_,AJ _ rfl,rfl⟩,Ca.lookup,?_⟩))))))));simpa[Dl]using G
theorem Wa(g:s.heap.IsKeyIter it d i es.size ep)(H:Sy s.heap d es ep)(hi:i < es.size)
  (I:∀h',h'.IsKeyIter it d (i+1) es.size ep->Cr it s.heap h'->Q (some es[i].key) { s with heap:=h' }):AZ (AU prog w) A (Fk (.ref it)) Q E s:=by
 obtain⟨o,m,J,l⟩:=id g;obtain⟨L,B,N,C⟩:=H;unfold Fk;refine AA (DA (BN g.typeIs Ca (BM Ca g.typeIs Lk (AA (AC (AA (AA ?_)))) (LX _))))
 first | refine AA (EX g.typeIs (AC (AA (EK m l ?_)))) | refine AA (F9 g.typeIs (AC (AA (EK m l ?_))))
 refine(show AZ _ _ (if (A7 d==B2)=true then _ else _) _ _ s from ?_);rw[qY (λz:(A7 d==B2)=true=>Af z)];refine AA (AC (AA (SA B C ?_)));rw[qY (by simp)];refine AA (AC (AA (Vu B C ?_)));rw[qY (by simp)];refine AC ?_;simp only[show ¬((i:Int) < 0) by lia,if_false,CZ,B1 hi];refine AA ?_
 first | refine AA (EX g.typeIs (AC (AA (M8 g.typeIs ?_)))) | refine AA (F9 g.typeIs (AC (AA (M8 g.typeIs ?_))))
 refine(show AZ _ _ (setField (.ref it) 1 (Dl ((i:Int)+1)) >>= _) _ _ s from ?_);have G:(s.heap.update it (EZ (·.setIfInBounds 1 (Dl ((i:Int)+1))))).IsKeyIter it d (i+1) es.size ep:=⟨_,Ba _ m (Ef (CK l _)),(JC ..).trans J,by rw[CK l];simp[Dl]⟩;refine AA (Di m l (by simp) (AA (Bq (AA (M8 G.typeIs ?_)))));exact(AC (AC ⟨_,rfl,AC (I _ G (Ce ..))⟩))
theorem Zs(G:A.handled=none)(g:s.heap.IsKeyIter it d i es.size ep)(H:Sy s.heap d es ep)(hi:es.size<=i)
  (I:∀h',Ik it s.heap h'->Q none { s with heap:=h' }):AZ (AU prog w) A (Fk (.ref it)) Q E s:=by
 obtain⟨o,l,J,m⟩:=id g;obtain⟨L,B,N,C⟩:=H;unfold Fk;refine AA (DA (BN g.typeIs Ca (BM Ca g.typeIs Lk (AA (AC (AA (AA ?_)))) (LX _))))
 first | refine AA (EX g.typeIs (AC (AA (EK l m ?_)))) | refine AA (F9 g.typeIs (AC (AA (EK l m ?_))))
 refine(show AZ _ _ (if (A7 d==B2)=true then _ else _) _ _ s from ?_);rw[qY (λz:(A7 d==B2)=true=>Af z)];refine AA (AC (AA (SA B C ?_)));rw[qY (by simp)];refine AA (AC (AA (Vu B C ?_)));rw[qY (by simp)];refine AC ?_;simp only[show ¬((i:Int) < 0) by lia,if_false,CZ,EC hi];refine AA ?_
 first | refine AA (EX g.typeIs (AC (show AZ _ _ (setField (.ref it) 0 .none >>= _) _ _ s from ?_))) | refine AA (F9 g.typeIs (AC (?_)))
 refine AA (Di l m (by simp) (AA ?_));refine AA (A4 (AA (FK (by first | rfl | (simp only[OB];rfl)) (A4 ?_ (by size_fits)))) (by size_fits));refine AA (P2 ?_);rw[show A.in1.handled=none from G];refine AA (AC (Ve ?_));refine AA (Fa ⟨_,AJ _ rfl,rfl⟩ JG (AC ?_));exact I _ (((Ce ..).extBut.push _).push _)
theorem bL(G:A.handled=none)(I:AR)(H:d≠I):iT prog w A I [I,d] [I] es.size (λi v=>∃h:i < es.size,v=es[i].key) (λi h=>h.IsKeyIter I d i es.size ep/\Sy h d es ep) where
 sub:=λx m=>by simp at m;simp[m]
 frame:=λ_ _ _ st keep=>⟨st.1.at λo e=>keep I (by simp) o e,st.2.at' λo e=>keep d (by simp) o e⟩
 item:=λi s Q E B st g=>Wa st.1 st.2 B λl J C=>g _ l s.toks ⟨B,rfl⟩ ⟨J,st.2.at' λo e=>C.extBut d o H e⟩ λb o hb e=>C.extBut b o (λh=>hb (by simp[h])) e
 done:=λs Q E st g=>Zs G st.1 st.2 (AN _) λl L=>g l s.toks λb o hb e=>L b o (λh=>hb (by simp[h])) e
 self:=λ_ _ _ _ st g=>iJ st.1 g
theorem Zr(lo:(d==DM)=false):PySem.W.KdlSrc prog w "dict" d d es.size (λi v=>∃h:i < es.size,v=es[i].key) (λh=>Sy h d es ep) where
 type:=λ_ g=>g.ty
 there:=λ_ g=>⟨let ⟨_,l,_⟩:=g;AS l,let ⟨_,l,_⟩:=g;AS l⟩
 keep:=λ_ _ g s=>g.at' λo e=>s d (.inl rfl) o e
 notList:=by decide
 notTuple:=by decide
 hint:=λ_ _ _ _ g m=>PySem.W.kdl_hint_dict g.ty m
 iter:=λ_ _ A g=>⟨_,_,(λ_ _ m=>Wb lo g m),bL A _ (Ae (let ⟨_,l,_⟩:=g;AS l)),⟨⟨_,AJ _ rfl,rfl,rfl⟩,g.at' λo e=>AB _ e⟩⟩
end
end Srt
namespace PySem.SetTable
def Up(xs:Array Nat):Prop:=xs.toList.Pairwise (· < ·)
theorem Up.lt(u:Up xs)(h:i < k)(g:k < xs.size):xs[i] < xs[k]:=by
 have:=UD.mp u i k (by rw[Az];omega) (by rw[Az];exact g) h;simpa using this
structure At(xs:Array Nat)(j r:Nat):Prop where
 le:r<=xs.size
 lo:∀i (h:i < xs.size),i < r->xs[i] < j
 hi:∀i (h:i < xs.size),r<=i->j<=xs[i]
theorem At.eq(a:At xs j r)(b:At xs j r'):r=r':=by
 rcases Nat.lt_trichotomy r r' with h | h | h
 ·have g:=Aa h b.le
  have l:=b.lo r g h;have m:=a.hi r g (AN _);lia
 ·exact h
 ·have g:=Aa h a.le
  have l:=a.lo r' g h;have m:=b.hi r' g (AN _);lia
theorem Ro(u:Up xs)(j:Nat):∀(fuel lo hi:Nat),lo<=hi->hi<=xs.size->hi - lo<=fuel ->
  (∀i (h:i < xs.size),i < lo->xs[i] < j)->(∀i (h:i < xs.size),hi<=i->j<=xs[i])->At xs j (GC.go xs j fuel lo hi)
 | 0,lo,hi,C,g,E,l,m=>by
  have:lo=hi:=by lia
  subst this;exact⟨g,l,m⟩
 | fuel+1,lo,hi,C,g,E,l,m=>by
  unfold GC.go
  by_cases h:lo < hi
  ·rw[qX h]
   have A:(lo+hi) / 2 < xs.size:=by lia
   have e:xs.getD ((lo+hi) / 2) j=xs[(lo+hi) / 2]:=by simp[NF,A]
   simp only[e]
   by_cases o:xs[(lo+hi) / 2] < j
   ·rw[qX o]
    refine Ro u j fuel _ _ (by lia) g (by omega) (λi B G=>?_) m
    by_cases s:i=(lo+hi) / 2
    ·subst s;exact o
    ·exact PR (u.lt (by lia:i < (lo+hi) / 2) A) o
   ·rw[qY o]
    refine Ro u j fuel _ _ (by lia) (by lia) (by omega) l λi B G=>?_
    by_cases s:i=(lo+hi) / 2
    ·subst s;lia
    ·have:=u.lt (by lia:(lo+hi) / 2 < i) B;omega
  ·rw[qY h]
   have:lo=hi:=by lia
   subst this;exact⟨g,l,m⟩
theorem Rp(u:Up xs)(j:Nat):At xs j (GC xs j):=
 Ro u j _ _ _ (Bk _) (AN _) (by lia) (λ_ _ h=>zX h (by lia)) λi h g=>zX h (by lia)
theorem Y7(u:Up xs):GC xs 0=0:=(Rp u 0).eq ⟨Bk _,λ_ _ h=>zX h (by lia),λ_ _ _=>Bk _⟩
theorem Y8(u:Up xs)(h:i < xs.size):GC xs (xs[i]+1)=i+1:=
 (Rp u _).eq ⟨h,λk g l=>by
  by_cases e:k=i
  ·subst e;lia
  ·have:=u.lt (by lia:k < i) h;omega,λk g l=>u.lt (by lia:i < k) g⟩
theorem au(u:Up xs)(h:xs[GC xs j]?≠some j):Up (insertAt xs (GC xs j) j):=by
 have a:=Rp u j;unfold Up;rw[toList_insertAt,Bi,N6];refine⟨qr u,⟨λy m=>?_,qu u⟩,λx G y m=>?_⟩
 ·obtain⟨k,l,e⟩:=E2.mp m
  have g:GC xs j+k < xs.size:=by simp at l;omega
  have o:xs[GC xs j+k]=y:=by simpa using e
  have C:=a.hi _ g (by lia)
  by_cases H:k=0
  ·subst H
   have E:xs[GC xs j]?=some y:=by simp at o;simp at g;simp[g,o]
   rcases Nat.lt_or_eq_of_le C with s | s
   ·lia
   ·rw[o]at s;rw[E,<-s]at h;exact zX rfl h
  ·have hb:GC xs j < xs.size:=by lia
   have E:=a.hi _ hb (AN _);have s:=u.lt (by lia:GC xs j < GC xs j+k) g
   lia
 ·have A:x < j:=by
   obtain⟨k,l,e⟩:=E2.mp G
   have g:k < xs.size:=by simp at l;lia
   have B:k < GC xs j:=by simp at l;lia
   have o:xs[k]=x:=by simpa using e
   have:=a.lo k g B
   lia
  rcases Ax.mp m with e | m
  ·subst e;exact A
  ·obtain⟨k,l,e⟩:=E2.mp m
   have g:GC xs j+k < xs.size:=by simp at l;lia
   have o:xs[GC xs j+k]=y:=by simpa using e
   have C:=a.hi _ g (by lia)
   lia
theorem TX{t:Et}{j:Nat}(h:t.slot j=.empty∨t.slot j=.dummy):t.place[GC t.place j]?≠some j:=by
 intro e;unfold slot at h;simp only[e,beq_self_eq_true,if_true]at h
 rcases h with h | h <;> cases h
theorem Q3:∀(fuel:Nat) (p:Probe),(∀d,p.dummy=some d->t.slot d=.dummy) ->
  iO t s h fuel p=some (.empty j o)->t.slot j=.empty/\∀d,o=some d->t.slot d=.dummy
 | 0,p,_,e=>by simp[iO]at e
 | fuel+1,p,m,e=>by
  have g:∀q:Probe,(t.advance q).dummy=q.dummy:=λq=>by
   unfold advance;split <;> rfl
  unfold iO at e;split at e
  ·rename_i l
   cases e;exact⟨l,m⟩
  ·rename_i l
   exact Q3 fuel _ (λd q=>by rw[g]at q;cases q;exact l) e
  ·rename_i i l
   split at e
   ·cases e
   ·exact Q3 fuel _ (λd q=>by rw[g]at q;exact m d q) e
theorem bz{t:Et}{h:Int}{j:Nat}{b:Bool}(e:t.freeSlot h=some (j,b)):t.place[GC t.place j]?≠some j:=by
 unfold freeSlot at e;split at e
 ·rename_i s g l
  cases e;obtain⟨m,o⟩:=Q3 _ _ (λd q=>by cases q) l
  cases g with
  | none=>exact TX (.inl m)
  | some d=>exact TX (.inr (o d rfl))
 ·cases e
theorem dj(n:Nat):Up (Array.range n):=by unfold Up;rw[Array.toList_range];exact Xg
theorem JN(t:Et)(n:Nat):Up (t.standIn n).place:=dj n
theorem UR{t:Et}(u:Up t.place)(n:Nat):Up (t.orStandIn n).place:=by
 unfold orStandIn;split
 ·exact u
 ·exact JN t n
theorem So(t:Et)(n:Nat):(t.orStandIn n).led=t.led:=by
 unfold orStandIn;split <;> rfl
end PySem.SetTable
namespace PySem
open SetTable
theorem bg{t:Et}(u:Up t.place)(es:Array (Int×AG))(h:Int)(x:AG):Up (layNew t es h x).2.1.place/\(layNew t es h x).2.1.led=t.led:=by
 unfold layNew;split
 ·rename_i j b e
  exact⟨UR (au u (bz e)) _,So _ _⟩
 ·exact⟨JN _ _,rfl⟩
theorem kL{mask finger moves}{led plain}{m}{t}{o}(e:laid mask finger moves led plain m=some (t,o)):Up t.place/\t.led=led:=by
 unfold laid at e
 cases s:layClean mask m with
 | none=>rw[s]at e;cases e
 | some ow=>
  rw[s]at e;cases e;refine⟨?_,rfl⟩;unfold Up;simp only[cu];refine qt _ (λa B h b hb C l=>?_) Xg
  have g:∀(k c:Nat),(ZQ (λx:Nat×Nat=>x.1) (ZQ (λx=>(k,x)) (ow.getD k none)))=some c->c=k:=λk c q=>by
   cases A:ow.getD k none with
   | none=>rw[A]at q;cases q
   | some _=>rw[A]at q;cases q;rfl
  rw[g _ _ hb,g _ _ l];exact h
theorem WX(u:Up t.place)(es:Array (Int×AG))(n:Nat):Up (OA t es n).2.1.place/\(OA t es n).2.1.led=t.led:=by
 unfold OA;split
 ·rename_i g o e
  dsimp only;split
  ·exact kL e
  ·exact⟨JN _ _,rfl⟩
 ·exact⟨JN _ _,rfl⟩
theorem Mu{g:Type}:∀(l:List g) (i:Nat) (h:i < l.length),DD (l[i] :: l.eraseIdx i) l
 | [],i,h=>zX h (lO _)
 | a :: l,0,_=>.rfl
 | a :: l,i+1,h=>(aj _ _ _).trans ((Mu l i (Nat.lt_of_succ_lt_succ h)).cons a)
theorem Zv{l:Type}(next:Nat->Nat):∀(fuel k:Nat) (left:List l) (out:Array l),left.length=fuel->DD (SE next fuel k left out).toList (out.toList++left)
 | 0,k,left,out,h=>by
  have:left=[]:=HA h;subst this;simp[SE]
 | fuel+1,k,left,out,h=>by
  unfold SE;have g:next k % left.length < left.length:=Nat.mod_lt _ (by lia);rw[An g];refine(Zv next fuel (k+1) _ _ (by rw[TC g];lia)).trans ?_;rw[Ea,Bj];refine F8 _ ?_;exact Mu _ _ g
theorem bO{g:Type}(next:Nat->Nat)(xs:Array g):DD (Op next xs).toList xs.toList:=by
 have:=Zv next xs.size 0 xs.toList #[] (by simp);simpa[Op]using this
open PySem.Sem (wp)
open SetTable
def iv:AG->Option Int
 | .int n _=>some n
 | _=>none
def KL(prog:BJ)(w:Bs)(h:Bu)(a:AR)(l:ZLi):Prop:=
 ∃o g m t,h.get? a=some o/\o.ExactSet/\o.data=.set g m t/\ElemsOf (G1 prog w) g.toList/\t.fits g.size=true/\Up t.place/\t.led=(!(w.params.followText "set-order"))/\DD (g.toList.map λe=>iv e.2) (l.map some)
section
theorem KL.at'(x:KL prog w h a ns)(e:∀o,h.get? a=some o->h'.get? a=some o):KL prog w h' a ns:=let ⟨o,g,l,t,m,r⟩:=x;⟨o,g,l,t,e _ m,r⟩
theorem Qr{h}{a}{led}(g:led=(!(w.params.followText "set-order"))) (l:h.get? a=some { cls:=.type "set",dict:=none,data:=.set #[] 0 (.fresh 0 0 led) }):KL prog w h a []:=
 ⟨_,#[],0,_,l,⟨rfl,rfl,rfl⟩,rfl,λe m=>by simp at m,by rfl,TF,g,.nil⟩
theorem Qq{h:Bu}{a:AR}{o:Obj}{es:Array (Int×AG)}{ep:Nat}{t:Et}(ho:h.get? a=some o)(hex:o.ExactSet)(l:o.data=.set es ep t)
  {g:Array (Int×AG)} {t':Et} {ns:ZLi} (s:ElemsOf (G1 prog w) g.toList) (A:t'.fits g.size=true) (B:Up t'.place) (C:t'.led=(!(w.params.followText "set-order"))) (E:DD (g.toList.map λe=>iv e.2) (ns.map some)) :
  (h.update a (OC g t')).get? a=some { o with data:=.set g (ep+1) t' }/\KL prog w (h.update a (OC g t')) a ns:=by
 have m:(h.update a (OC g t')).get? a=some { o with data:=.set g (ep+1) t' }:=by
  have:=Ba (OC g t') ho (by rw[putSet_of g t' l];rfl);rw[putSet_of g t' l]at this;exact this
 exact⟨m,_,g,ep+1,t',m,hex,rfl,s,A,B,C,E⟩
theorem TY{g:Bool->Sem Unit}(hg:∀(b:Bool) (m:AK) (N:Unit->AK->Prop),N () m->AZ (AU prog w) A (g b) N E m)
  {a:AR} {o:Obj} {es:Array (Int×AG)} {ep:Nat} {t:Et} (ho:s.heap.get? a=some o) (hex:o.ExactSet) (O:o.data=.set es ep t)
  {es1:Array (Int×AG)} {l:Et} {P:ZLi} (Q:ElemsOf (G1 prog w) es1.toList) (S:es1.size < Gf) (G:l.fits es1.size=true) (T:Up l.place) (U:l.led=(!(w.params.followText "set-order")))
  (X:DD (es1.toList.map λe=>iv e.2) (P.map some)) {vH:Bool} {R:Option Bool->AK->Prop}
  (h:∀h',Cr a s.heap h'->KL prog w h' a P->R (some true) { s with heap:=h' }) :
  AZ (AU prog w) A (do
    storeSet a es1 l
    if (!vH&&l.tooFull)=true then do
      g (OA l es1 (EY es1.size)).2.2
      storeSet a (OA l es1 (EY es1.size)).1 (OA l es1 (EY es1.size)).2.1
      pure (some true)
     else pure (some true)) R E s:=by
 refine AA (qG ho O ?_ (SF S));obtain⟨Y,H⟩:=Qq ho hex O Q G T U X;have Z:=Ce s.heap a (OC es1 l);split
 ·have B:=relayAll_perm l es1 (EY es1.size)
  have I:=relayAll_fits l es1 (EY es1.size);have C:=WX T es1 (EY es1.size);generalize hRl:OA l es1 (EY es1.size)=Rl at B I C ⊢;obtain⟨es2,t3,J⟩:=Rl;dsimp only at B I C ⊢
  have L:es2.size=es1.size:=by rw[<-Az,B.length_eq,Az]
  refine AA (hg _ _ _ ?_);refine AA (qG Y rfl ?_ (SF (by rw[L];exact S)));obtain⟨_,G'⟩:=Qq Y hex rfl (Q.perm B) I C.1 (C.2.trans U) ((B.map _).trans X);exact AC (h _ (Z.trans (Ce _ a _)) G')
 ·exact AC (h _ Z H)
theorem eR{a}{g}{n}{tk}{Q}(hS:KL prog w s.heap a g)(wo:g.length+1 < Gf)
  (h:∀h' b,Cr a s.heap h'->KL prog w h' a (mI g n)->Q b { s with heap:=h' }) :
  AZ (AU prog w) A (setAddHashed a (.int n tk) ((G1 prog w).hash n)) Q E s:=by
 obtain⟨o,l,ep,t,I,hex,J,T,X,hu,U,N⟩:=hS
 have hn:l.size=g.length:=by have:=N.length_eq;simpa using this
 have hb:l.size < Gf:=by lia
 have vP:(G1 prog w).is n (.int n tk)=true:=mK _ _ _ _;have Y:(Go n tk).scannable=true:=rfl;unfold setAddHashed setAddHashedIn;refine Bq (AA (DL I J X ?_));dsimp only;rw[byScan_of Y hb T];unfold setAddByScan;refine AA ?_;refine AA (HI ?_);refine AA (wpAny_setScan_of vP I J X T ?_)
 cases hr:List.findIdx? (λe=>(G1 prog w).is n e.2) l.toList with
 | some j=>
  obtain⟨hj,Z,_⟩:=OE.mp hr
  have G:g.any (·==n)=true:=by
   obtain⟨tj,e⟩:=cf Z;have:some n∈g.map some:=N.mem_iff.mp (B3.mpr ⟨l.toList[j],Jw hj,by rw[e];rfl⟩);obtain⟨m,G,e⟩:=B3.mp this;cases e;exact G0.mpr ⟨n,G,by simp⟩
  refine AC (AC ?_)
  have e:s={ s with heap:=s.heap }:=by cases s;rfl
  have:=h s.heap false (UG a s.heap) (by unfold mI;rw[qX G];exact⟨o,l,ep,t,I,hex,J,T,X,hu,U,N⟩);rw[e];exact this
 | none=>
  have G:¬g.any (·==n)=true:=by
   intro G;obtain⟨m,hmm,e⟩:=G0.mp G
   have e:m=n:=by simpa using e
   subst e;obtain⟨x,hx,e⟩:=B3.mp (N.mem_iff.mpr (B3.mpr ⟨m,hmm,rfl⟩));have h1:=List.findIdx?_eq_none_iff.mp hr x hx
   have h2:(G1 prog w).is m x.2=true:=by
    obtain⟨x1,x2⟩:=x
    cases x2 <;> simp[iv]at e
    subst e;exact mK _ _ _ _
   rw[h2]at h1;cases h1
  have hgw:∀(b:Bool) {s₁:AK} {O:Unit->AK->Prop},O () s₁->AZ (AU prog w) A (match b with | true=>rule "set.scan.the-table-gave-way" | false=>pure ()) O E s₁:=
   λb s₁ O B=>by cases b <;> first | exact AC B | exact HI B
  have H:=layNew_perm t l ((G1 prog w).hash n) (.int n tk);have P:=layNew_fits t l ((G1 prog w).hash n) (.int n tk);have C:=bg hu l ((G1 prog w).hash n) (.int n tk);generalize hL:layNew t l ((G1 prog w).hash n) (.int n tk)=L at H P C ⊢;obtain⟨es1,t1,vH,gave⟩:=L;dsimp only at H P C ⊢;rw[Ea]at H;have wm:=(T.push vP Y).perm H
  have zp:DD (es1.toList.map λe=>iv e.2) ((g++[n]).map some):=by
   refine(H.map _).trans ?_;rw[DG,DG];exact N.append_right _
  have zq:es1.size < Gf:=by rw[<-Az,H.length_eq,Ai,Az,hn];simpa using wo
  refine AA (hgw _ ?_)
  have zr:∀h',Cr a s.heap h'->KL prog w h' a (g++[n])->Q true { s with heap:=h' }:=λh' R S=>h h' true R (by unfold mI;rw[qY G];exact S)
  split
  ·refine AA ?_
   rw[hashByValue_scannable 8 Y];refine AC ?_;refine TY ?_ I hex J wm zq ?_ ?_ ?_ zp ?_
   ·intro b s₁ O B;cases b <;> first | exact AC B | exact HI B
   ·split
    ·exact P
    ·exact Et.fits_plain_off P
   ·split
    ·exact C.1
    ·exact C.1
   ·split
    ·exact C.2.trans U
    ·exact C.2.trans U
   ·intro h' R S;dsimp only;exact AC (zr h' R S)
  ·refine AA (AC ?_)
   refine TY ?_ I hex J wm zq P C.1 (C.2.trans U) zp ?_
   ·intro b s₁ O B;cases b <;> first | exact AC B | exact HI B
   ·intro h' R S;dsimp only;exact AC (zr h' R S)
theorem TZ{R}{I}{C wr}{G}{n}{P}{St}(W:WalksS prog w A.in1 I C wr G n P St)(S:AR)(E:S∉C)
  (val:Nat->Int) (O:∀i v,P i v->∃t,v=.int (val i) t) (hb:n+1 < Gf) :
  ∀(k i:Nat) (s:AK),n - i=k->i<=n->St i s->KL prog w s.heap S (firstMet val i) ->
   (∀s',Moved (S :: wr) G s s'->KL prog w s'.heap S (firstMet val n)->R (.ok (.ret .none)) s') ->
   FB (AU prog w) A (.builtin "set.update.loop" ⟨[.ref S,.ref I],[]⟩) R s:=by
 have g:S∉wr:=λh=>E (W.sub _ h)
 have H:∀b∈wr,b∈S :: wr:=λb hb=>Ab _ hb
 intro k
 induction k with
 | zero=>
  intro i s Q T m B hR
  have U:i=n:=by lia
  subst U;refine B0 ZW ?_;rw[Bh KZ _];refine AA (W.done s _ _ m λs' l=>?_);exact AC (hR s' (l.mono H) (B.at' λo e=>l.heap S _ g e))
 | succ k X=>
  intro i s Q T m B hR
  have J:i < n:=by omega
  refine B0 ZW ?_;rw[Bh KZ _];refine AA (W.item i s _ _ J m λv s' Y Z l=>?_);obtain⟨t,rfl⟩:=O i v Y
  have vb:=B.at' λo e=>l.heap S _ g e
  refine AA (Bq ?_);unfold setAdd;refine Bq ?_;refine AA ((G1 prog w).pyHash (mK _ _ _ _) ?_)
  have wo:(firstMet val i).length+1 < Gf:=by have:=mL val i;lia
  refine eR vb wo λh' bb L N=>?_
  rw[<-firstMet_succ]at N;refine AC ⟨DB KZ _,X (i+1) _ (by lia) J (W.frame _ s' _ _ Z (EJ _) λb hb o e=>?_) N λwG Ω ε=>?_⟩
  ·rw[L.2 b (λh:b=S=>E (by rw[<-h];exact hb))];exact e
  ·refine hR wG (Moved.trans W.gtrans ((l.mono H).then_heap (EJ _) λb o hb e=>?_) Ω) ε
   rw[L.2 b (λh:b=S=>hb (by rw[h];exact Am))];exact e
theorem L9(a:AG) 
  (h:Q₁ (.ref s.heap.objs.size) { s with heap:=s.heap.push { cls:=.type "set",dict:=none,data:=.set #[] 0 (.fresh 0 0 (!(w.params.followText "set-order"))) } }) :
  FB (AU prog w) A (.call (.builtin "set.__new__") ⟨[.type "set",a],[]⟩) (qI Q₁ E) s:=by
 refine IK ?_;refine AA (FK (F.newCall_set_1 a) (AC ⟨DB qW _,B0 F.entry_set_new ?_⟩));rw[Bh qW _];unfold Builtin.«set.__new__» ij;have l:=sub_set_self;obtain⟨m,g,d,tk,os⟩:=s
 wp_walk
 refine Fb (AC ?_);refine AA (wpAny_alloc (AC ?_));exact AC h
theorem cJ(Z:A.handled=none)(hl:s.heap.IsTuple l items)(hi:R6 items.toList G)(hb:items.size+1 < Gf)
  (h:∀(h':Bu) (tk:Nat),KL prog w h' s.heap.objs.size (Fg (λi=>G.getD i 0) items.size) ->
   (∀b o,b < s.heap.objs.size->s.heap.get? b=some o->h'.get? b=some o)->Q (.ref s.heap.objs.size) { s with heap:=h',toks:=tk }):AZ (AU prog w) A (call (.type "set") [.ref l]) Q E s:=by
 obtain⟨c,tl,zt⟩:=CG.mro;have xA:=CG.made;have uX:=CG.sub;refine JE (IK ?_);show AZ _ _ (callAny (.type "set") _) _ _ _;refine AC ⟨N7 _ (by decide +kernel),B0 QW ?_⟩;rw[M7 (M9 "set" [.ref l] []) rfl];have h1:=CG.notType;have h2:=CG.canCreate;have hct:=mS (.ref l);(repeat(any_goals (first | assumption | wp_step)))
 refine DY (L9 (.ref l) (E:=E) (Q₁:=λobj g=>∃led:Bool,led=(!(w.params.followText "set-order"))/\obj=.ref s.heap.objs.size/\g={ s with heap:=s.heap.push { cls:=.type "set",dict:=none,data:=.set #[] 0 (.fresh 0 0 led) } }) ⟨_,rfl,rfl,rfl⟩) λr g I=>?_
 cases r with
 | error e=>exact I
 | ok fl=>
  cases fl with
  | ret obj=>
   obtain⟨led,y7,rfl,rfl⟩:=I;have O:(s.heap.push { cls:=.type "set",dict:=none,data:=.set #[] 0 (.fresh 0 0 led) }).get? s.heap.objs.size=some { cls:=.type "set",dict:=none,data:=.set #[] 0 (.fresh 0 0 led) }:=AJ _ rfl;have hT:iU { s with heap:=s.heap.push { cls:=.type "set",dict:=none,data:=.set #[] 0 (.fresh 0 0 led) } } (.ref s.heap.objs.size) "set":=⟨_,O,rfl⟩;have hli:=CG.init.lookup;have hbi:=CG.init.bind (.ref s.heap.objs.size);(repeat(any_goals (first | assumption | wp_step)))
   refine DY (FM (R:=qI (λr m=>r=.none/\∃h' tk,m={ s with heap:=h',toks:=tk } /\
     KL prog w h' s.heap.objs.size (Fg (λi=>G.getD i 0) items.size) /\
     (∀b o,b < s.heap.objs.size->s.heap.get? b=some o->h'.get? b=some o)) E) CG.init.plain mT (qi hT ?_)) λC m J=>?_
   ·obtain⟨ol,P,S,T,U⟩:=hl
    obtain⟨η,wy,zu,vU⟩:=ol;simp only at S U;subst S;subst U;have y8:(s.heap.push { cls:=.type "set",dict:=none,data:=.set #[] 0 (.fresh 0 0 led) }).get? l=some { cls:=.type "tuple",dict:=wy,data:=.seq items T,slots:=vU }:=AB _ P
    have θ:Oq (.type "tuple") (.type "set")=pure false:=by rw[FL];kernel_rfl
    have μ:Oq (.type "tuple") (.type "frozenset")=pure false:=by rw[FL];kernel_rfl
    have uM:(Cn "tuple"==Cn "dict")=false:=by decide
    have X:(s.heap.push { cls:=.type "set",dict:=none,data:=.set #[] 0 (.fresh 0 0 led) }).IsTuple l items:=⟨_,y8,rfl,T,rfl⟩;unfold Builtin.«set.__init__» noKeywords Ka;generalize L:MF=PI
    wp_walk
    subst L;refine Dj X (AA (N9 ?_));have Y:=AS P
    have ν:A.in1.in1.in1.handled=none:=by simp[Z]
    have y9:l≠(s.heap.push { cls:=.type "set",dict:=none,data:=.set #[] 0 (.fresh 0 0 led) }).objs.size:=by
     rw[A9];exact Ae (CD Y)
    have wW:s.heap.objs.size∉[(s.heap.push { cls:=.type "set",dict:=none,data:=.set #[] 0 (.fresh 0 0 led) }).objs.size,l]:=by
     rw[A9];simp only[Ax,A1,DR,or_false,not_or];exact⟨Ae (Bx _),DO Y⟩
    have vT:∀(i:Nat) (v:AG),items[i]?=some v->∃t,v=.int ((λi=>G.getD i 0) i) t:=λi v hv=>
     KA hi i v (by rw[Cz];exact hv)
    refine TZ ((Xu ν _ l y9 items).toS) s.heap.objs.size wW (λi=>G.getD i 0) vT hb (items.size - 0) 0 _ (by lia) (Bk _)
     ⟨⟨_,AJ _ rfl,rfl,rfl⟩,(X.push _)⟩ ?hS0 ?hR
    case hS0=>
     have ya:((s.heap.push { cls:=.type "set",dict:=none,data:=.set #[] 0 (.fresh 0 0 led) }).push { cls:=.type "tuple_iterator",data:=.fields #[.ref l,.int 0 0] }).get? s.heap.objs.size
       = some { cls:=.type "set",dict:=none,data:=.set #[] 0 (.fresh 0 0 led) }:=AB _ O
     exact Qr y7 ya
    case hR=>
     intro s' H N;obtain⟨h',g',d',zy,W'⟩:=s';have eg:=H.gens;have ed:=H.drawn;have eo:=H.os;subst eg;subst ed;subst eo;refine AC ?_;refine AC ⟨rfl,h',zy,rfl,N,λb o hb e=>?_⟩;have yD:=Ae hb
     have ξ:b≠(s.heap.push { cls:=.type "set",dict:=none,data:=.set #[] 0 (.fresh 0 0 led) }).objs.size:=by
      rw[A9];exact Ae (CD hb)
     exact H.heap b o (by simp only[Ax,A1,DR,or_false,not_or];exact⟨yD,ξ⟩) (AB _ (AB _ e))
   ·cases C with
    | error e=>exact J
    | ok B=>
     cases B with
     | ret r=>
      obtain⟨rfl,h',tk,rfl,N,vk⟩:=J;(repeat(any_goals (first | assumption | wp_step)));exact h _ _ N vk
     | _=>exact J.elim
  | _=>exact I.elim
theorem cK(Z:A.handled=none)(hl:s.heap.IsList l items)(hi:R6 items.toList G)(hb:items.size+1 < Gf)
  (h:∀(h':Bu) (tk:Nat),KL prog w h' s.heap.objs.size (Fg (λi=>G.getD i 0) items.size) ->
   (∀b o,b < s.heap.objs.size->s.heap.get? b=some o->h'.get? b=some o)->Q (.ref s.heap.objs.size) { s with heap:=h',toks:=tk }):AZ (AU prog w) A (call (.type "set") [.ref l]) Q E s:=by
 obtain⟨c,tl,zt⟩:=CG.mro;have xA:=CG.made;have uX:=CG.sub;refine JE (IK ?_);show AZ _ _ (callAny (.type "set") _) _ _ _;refine AC ⟨N7 _ (by decide +kernel),B0 QW ?_⟩;rw[M7 (M9 "set" [.ref l] []) rfl];have h1:=CG.notType;have h2:=CG.canCreate;have hct:=mS (.ref l);(repeat(any_goals (first | assumption | wp_step)))
 refine DY (L9 (.ref l) (E:=E) (Q₁:=λobj g=>∃led:Bool,led=(!(w.params.followText "set-order"))/\obj=.ref s.heap.objs.size/\g={ s with heap:=s.heap.push { cls:=.type "set",dict:=none,data:=.set #[] 0 (.fresh 0 0 led) } }) ⟨_,rfl,rfl,rfl⟩) λr g I=>?_
 cases r with
 | error e=>exact I
 | ok fl=>
  cases fl with
  | ret obj=>
   obtain⟨led,y7,rfl,rfl⟩:=I;have O:(s.heap.push { cls:=.type "set",dict:=none,data:=.set #[] 0 (.fresh 0 0 led) }).get? s.heap.objs.size=some { cls:=.type "set",dict:=none,data:=.set #[] 0 (.fresh 0 0 led) }:=AJ _ rfl;have hT:iU { s with heap:=s.heap.push { cls:=.type "set",dict:=none,data:=.set #[] 0 (.fresh 0 0 led) } } (.ref s.heap.objs.size) "set":=⟨_,O,rfl⟩;have hli:=CG.init.lookup;have hbi:=CG.init.bind (.ref s.heap.objs.size);(repeat(any_goals (first | assumption | wp_step)))
   refine DY (FM (R:=qI (λr m=>r=.none/\∃h' tk,m={ s with heap:=h',toks:=tk } /\
     KL prog w h' s.heap.objs.size (Fg (λi=>G.getD i 0) items.size) /\
     (∀b o,b < s.heap.objs.size->s.heap.get? b=some o->h'.get? b=some o)) E) CG.init.plain mT (qi hT ?_)) λC m J=>?_
   ·obtain⟨ol,P,S,T,U⟩:=hl
    obtain⟨η,wy,zu,vU⟩:=ol;simp only at S U;subst S;subst U;have y8:(s.heap.push { cls:=.type "set",dict:=none,data:=.set #[] 0 (.fresh 0 0 led) }).get? l=some { cls:=.type "list",dict:=wy,data:=.seq items T,slots:=vU }:=AB _ P
    have θ:Oq (.type "list") (.type "set")=pure false:=by rw[FL];kernel_rfl
    have μ:Oq (.type "list") (.type "frozenset")=pure false:=by rw[FL];kernel_rfl
    have uM:(Cn "list"==Cn "dict")=false:=by decide
    have X:(s.heap.push { cls:=.type "set",dict:=none,data:=.set #[] 0 (.fresh 0 0 led) }).IsList l items:=⟨_,y8,rfl,T,rfl⟩;unfold Builtin.«set.__init__» noKeywords Ka;generalize L:MF=PI
    wp_walk
    subst L;refine D2 X (AA (N9 ?_));have Y:=AS P
    have ν:A.in1.in1.in1.handled=none:=by simp[Z]
    have y9:l≠(s.heap.push { cls:=.type "set",dict:=none,data:=.set #[] 0 (.fresh 0 0 led) }).objs.size:=by
     rw[A9];exact Ae (CD Y)
    have wW:s.heap.objs.size∉[(s.heap.push { cls:=.type "set",dict:=none,data:=.set #[] 0 (.fresh 0 0 led) }).objs.size,l]:=by
     rw[A9];simp only[Ax,A1,DR,or_false,not_or];exact⟨Ae (Bx _),DO Y⟩
    have vT:∀(i:Nat) (v:AG),items[i]?=some v->∃t,v=.int ((λi=>G.getD i 0) i) t:=λi v hv=>
     KA hi i v (by rw[Cz];exact hv)
    refine TZ ((af ν _ l y9 items).toS) s.heap.objs.size wW (λi=>G.getD i 0) vT hb (items.size - 0) 0 _ (by lia) (Bk _)
     ⟨⟨_,AJ _ rfl,rfl,rfl⟩,(X.push _)⟩ ?hS0 ?hR
    case hS0=>
     have ya:((s.heap.push { cls:=.type "set",dict:=none,data:=.set #[] 0 (.fresh 0 0 led) }).push { cls:=.type "list_iterator",data:=.fields #[.ref l,.int 0 0] }).get? s.heap.objs.size
       = some { cls:=.type "set",dict:=none,data:=.set #[] 0 (.fresh 0 0 led) }:=AB _ O
     exact Qr y7 ya
    case hR=>
     intro s' H N;obtain⟨h',g',d',zy,W'⟩:=s';have eg:=H.gens;have ed:=H.drawn;have eo:=H.os;subst eg;subst ed;subst eo;refine AC ?_;refine AC ⟨rfl,h',zy,rfl,N,λb o hb e=>?_⟩;have yD:=Ae hb
     have ξ:b≠(s.heap.push { cls:=.type "set",dict:=none,data:=.set #[] 0 (.fresh 0 0 led) }).objs.size:=by
      rw[A9];exact Ae (CD hb)
     exact H.heap b o (by simp only[Ax,A1,DR,or_false,not_or];exact⟨yD,ξ⟩) (AB _ (AB _ e))
   ·cases C with
    | error e=>exact J
    | ok B=>
     cases B with
     | ret r=>
      obtain⟨rfl,h',tk,rfl,N,vk⟩:=J;(repeat(any_goals (first | assumption | wp_step)));exact h _ _ N vk
     | _=>exact J.elim
  | _=>exact I.elim
end
theorem Tc:Manifest.owners.lookup (String.ofList ['r','o','t','a','r','e','t','i','_','t','e','s'].reverse)=some Manifest.sig_set_iterator:=by kernel_rfl
theorem CY:Slot "set_iterator" "__next__" "set_iterator.__next__" :=
 .of (owner:="set_iterator") (n:="__next__") (by rw[tt,iD];kernel_rfl) (by decide +kernel) (by decide +kernel) (by decide +kernel)
  (by first | exact .inl (by decide +kernel) | exact .inr (by decide +kernel)) (by rw[FL];kernel_rfl)
theorem Lv:Slot "set_iterator" "__iter__" "set_iterator.__iter__" :=
 .of (owner:="set_iterator") (n:="__iter__") (by rw[tt,iD];kernel_rfl) (by decide +kernel) (by decide +kernel) (by decide +kernel)
  (by first | exact .inl (by decide +kernel) | exact .inr (by decide +kernel)) (by rw[FL];kernel_rfl)
theorem F5:iP table "set_iterator.__next__" = some Builtin.«set_iterator.__next__»:=entryFor_of_tree (by kernel_rfl)
theorem Rf:iP table "set_iterator.__iter__" = some Builtin.«dict_keyiterator.__iter__»:=entryFor_alias (id':="dict_keyiterator.__iter__") (by kernel_rfl) rfl (by decide +kernel) (by kernel_rfl)
theorem Rg:iP table "set.__iter__" = some Builtin.«frozenset.__iter__»:=entryFor_alias (id':="frozenset.__iter__") (by kernel_rfl) rfl (by decide +kernel) (by kernel_rfl)
theorem Gn(a:AG):dG "set_iterator.__next__" ⟨[a],[]⟩:=by
 unfold dG;rw[aZ (n:=['_','_','t','x','e','n','_','_']) (by kernel_rfl) Tc];kernel_rfl
theorem Sw(a:AG):dG "set_iterator.__iter__" ⟨[a],[]⟩:=by
 unfold dG;rw[aZ (n:=['_','_','r','e','t','i','_','_']) (by kernel_rfl) Tc];kernel_rfl
def Oo(h:Bu)(a:AR)(es:Array (Int×AG))(ep:Nat)(t:Et):Prop:=∃o,h.get? a=some o/\o.ExactSet/\o.data=.set es ep t/\t.fits es.size=true
def SIt(h:Bu)(it:AR)(f:AG)(i:Nat)(a:AR)(n ep:Nat):Prop:=h.get? it=some { cls:=.type "set_iterator",dict:=none,data:=.fields #[f,.int i 0,.ref a,.int n 0,.int ep 0],slots:=#[] }
theorem Oo.at'(x:Oo h a es ep t)(e:∀o,h.get? a=some o->h'.get? a=some o):Oo h' a es ep t:=let ⟨o,g,r⟩:=x;⟨o,e _ g,r⟩
section
variable{prog:BJ}{w:Bs}{A:BX}{E:AG->AK->Prop}{s:AK}{a it:AR}{es:Array (Int×AG)}{ep i:Nat}{t:Et}
theorem SIt.ty(x:SIt s.heap it f i a n ep):s.TypeIs (.ref it) "set_iterator":=⟨_,x,rfl⟩
def Nxt(prog:BJ)(w:Bs)(a:AR)(es:Array (Int×AG))(ep:Nat)(t:Et)(sl i:Nat)(r:Option (AG×Nat)):Prop:=
 ∀(A:BX) (E:AG->AK->Prop) (s:AK) (Q:Option (AG×Nat)->AK->Prop),Oo s.heap a es ep t->Q r s->AZ (AU prog w) A (setNext a sl i ep) Q E s
theorem Wn(hb:w.params.followText "set-order" = true):Nxt prog w a es ep t 0 i (((Op (w.params.setOrder a ep) es)[i]?).map λe=>(e.2,0)):=by
 intro A E s Q B C;obtain⟨o,g,hex,l,m⟩:=B;unfold setNext;refine AA (DL g l m ?_);unfold Xo;refine AA (AA (Fb (AC ?_)));rw[show(AU prog w).w.params.followText "set-order" = true from hb];simp only[if_true,bne_self_eq_false,C3,if_false];unfold setWalk Xo;refine AA ?_;refine AA (DL g l m ?_);refine AA (AA (Fb (AC ?_)));rw[show(AU prog w).w.params.followText "set-order" = true from hb];refine AA (Fb (AC ?_));exact AC C
theorem Wo(hb:w.params.followText "set-order" = false) (m:t.led=true) (g:t.plain=true∨es.size<=1) (sl:Nat) :
  Nxt prog w a es ep t sl i (match es[GC t.place sl]?,t.place[GC t.place sl]? with | some (_,x),some j=>some (x,j+1) | _,_=>none):=by
 intro A E s Q B C;obtain⟨o,G,hex,H,I⟩:=B;unfold setNext;refine AA (DL G H I ?_);unfold Xo;refine AA (AA (Fb (AC ?_)));rw[show(AU prog w).w.params.followText "set-order" = false from hb]
 have l:(!t.plain&&decide (es.size > 1))=false:=by
  rcases g with g | g
  ·rw[g];rfl
  ·rw[show decide (es.size > 1)=false from wY (by omega),Bool.and_false]
 refine(show AZ _ _ (if (!t.plain&&decide (es.size > 1))=true then _ else _) _ _ s from ?_);rw[l];refine AA (show AZ _ _ (if (!t.led&&!es.isEmpty)=true then _ else _) _ _ s from ?_);rw[m];exact AC (AC C)
theorem eJ{sl m:Nat}{x:AG}{Q:Option AG->AK->Prop}(g:SIt s.heap it (.int sl 0) i a es.size ep)(B:Oo s.heap a es ep t)(C:Nxt prog w a es ep t sl i (some (x,m)))
  (G:∀h',SIt h' it (.int m 0) (i+1) a es.size ep->Cr it s.heap h'->Q (some x) { s with heap:=h' }):AZ (AU prog w) A (Fk (.ref it)) Q E s:=by
 obtain⟨o,H,hex,I,J⟩:=id B;unfold Fk;refine AA (DA (BN g.ty CY (BM CY g.ty F5 ?_ (Gn _))));unfold Builtin.«set_iterator.__next__» Xn;refine AA (AC ?_);refine AA (EK g rfl ?_);refine AA (Fj H I J ?_);rw[qY (by simp)];refine AA (C _ _ _ _ B ?_);refine AA (JD g (by simp) λP L N=>?_);refine AA (JD L (by simp) λR O l=>?_);refine AC ⟨_,rfl,AC (G _ ?_ (N.trans l))⟩;unfold SIt;rw[O];simp[Dl]
theorem jI{sl:Nat}{Q:Option AG->AK->Prop}(m:A.handled=none)(g:SIt s.heap it (.int sl 0) i a es.size ep)(l:Oo s.heap a es ep t)(B:Nxt prog w a es ep t sl i none)
  (C:∀h',Ik it s.heap h'->Q none { s with heap:=h' }):AZ (AU prog w) A (Fk (.ref it)) Q E s:=by
 obtain⟨o,G,hex,H,I⟩:=id l;unfold Fk;refine AA (DA (BN g.ty CY (BM CY g.ty F5 ?_ (Gn _))));unfold Builtin.«set_iterator.__next__» Xn;refine AA (AC ?_);refine AA (EK g rfl ?_);refine AA (Fj G H I ?_);rw[qY (by simp)];refine AA (B _ _ _ _ l ?_);refine AA (Di g rfl (by simp) (AA ?_));refine AA (A4 (AA (FK (by first | rfl | (simp only[OB];rfl)) (A4 ?_ (by size_fits)))) (by size_fits));refine AA (P2 ?_);rw[show A.in1.handled=none from m];refine AA (AC (Ve ?_));refine AA (Fa ⟨_,AJ _ rfl,rfl⟩ JG (AC ?_));exact C _ (((Ce ..).extBut.push _).push _)
end
section
theorem SU(l:n≠0)(h:∀d',Q (M.w.draws g (s.drawn.get g) % n) { s with drawn:=d' }):AZ M A (choose g n) Q E s:=λ_ _ _=>⟨l,h _⟩
theorem Tv{o:Type}:∀(n:Nat) (xs:List o) (s:AK) (Q:List o->AK->Prop),xs.length=n->(∀m d',DD m xs->Q m { s with drawn:=d' })->AZ (AU prog w) A (qh n xs) Q E s
 | 0,xs,s,Q,g,h=>by
  have:xs=[]:=HA g;subst this;unfold qh;exact AC (h [] s.drawn .nil)
 | n+1,[],s,Q,g,h=>by cases g
 | n+1,x :: xs,s,Q,g,h=>by
  unfold qh;refine AA (SU (by simp) λd1=>?_);have l:(AU prog w).w.draws N4 (s.drawn.get N4) % (x :: xs).length < (x :: xs).length:=Nat.mod_lt _ (by simp);generalize (AU prog w).w.draws N4 (s.drawn.get N4) % (x :: xs).length=i at l;rw[An l];refine AA (Tv n _ _ _ (by rw[TC l];lia) λm d' B=>?_);exact AC (h _ d' ((B.cons _).trans (Mu _ _ l)))
def TP(h:Bu)(T:AR)(g:List Nat):Prop:=∃o c,h.get? T=some o/\o.data=.seq (g.map λ(i:Nat)=>Go i 0).toArray c
theorem TP.at'(x:TP h T ps)(e:∀o,h.get? T=some o->h'.get? T=some o):TP h' T ps:=let ⟨o,c,g,r⟩:=x;⟨o,c,e _ g,r⟩
theorem bA(g:SIt s.heap it (.ref T) i a es.size ep)(G:Oo s.heap a es ep t)(H:TP s.heap T l)(I:l[i]?=some p)(J:es[p]?=some e)
  (L:∀h',SIt h' it (.ref T) (i+1) a es.size ep->Cr it s.heap h'->Q (some e.2) { s with heap:=h' }):AZ (AU prog w) A (Fk (.ref it)) Q E s:=by
 obtain⟨o,m,hex,B,C⟩:=id G;obtain⟨U,c,N,O⟩:=H;unfold Fk;refine AA (DA (BN g.ty CY (BM CY g.ty F5 ?_ (Gn _))));unfold Builtin.«set_iterator.__next__» Xn;refine AA (AC ?_);refine AA (EK g rfl ?_);refine AA (Fj m B C ?_);rw[qY (by simp)];refine AA (FJ N O ?_);dsimp only
 have P:(l.map λ(i:Nat)=>Go i 0).toArray[(Int.toNat (i:Int))]?=some (.int p 0):=by
  rw[CZ];simp[I]
 rw[P];unfold setNextDrawn;refine AA (AA (DL m B C ?_));dsimp only;rw[qY (by simp),CZ,J];refine AC ?_;refine AA (JD g (by simp) λX R S=>?_);refine AC ⟨_,rfl,AC (L _ ?_ S)⟩;unfold SIt;rw[R];simp[Dl]
theorem eK(B:A.handled=none)(g:SIt s.heap it (.ref T) i a es.size ep)(C:Oo s.heap a es ep t)(G:TP s.heap T l)(m:l[i]?=none)
  (H:∀h',Ik it s.heap h'->Q none { s with heap:=h' }):AZ (AU prog w) A (Fk (.ref it)) Q E s:=by
 obtain⟨o,I,hex,J,L⟩:=id C;obtain⟨U,c,N,O⟩:=G;unfold Fk;refine AA (DA (BN g.ty CY (BM CY g.ty F5 ?_ (Gn _))));unfold Builtin.«set_iterator.__next__» Xn;refine AA (AC ?_);refine AA (EK g rfl ?_);refine AA (Fj I J L ?_);rw[qY (by simp)];refine AA (FJ N O ?_);dsimp only
 have P:(l.map λ(i:Nat)=>Go i 0).toArray[(Int.toNat (i:Int))]?=none:=by
  rw[CZ];simp at m ⊢;exact m
 rw[P];refine AA (JD g (by simp) λX R S=>?_);refine AA (Di R rfl (by simp) (AA ?_));refine AA (A4 (AA (FK (by first | rfl | (simp only[OB];rfl)) (A4 ?_ (by size_fits)))) (by size_fits));refine AA (P2 ?_);rw[show A.in1.handled=none from B];refine AA (AC (Ve ?_));refine AA (Fa ⟨_,AJ _ rfl,rfl⟩ JG (AC ?_));exact H _ (((S.trans (Ce ..)).extBut.push _).push _)
theorem WK(g:SIt s.heap it f i a n ep)(h:Q (.ref it) s):AZ (AU prog w) A (MF (.ref it)) Q E s:=by
 refine R9 g.ty Lv (BM Lv g.ty Rf ?_ (Sw _));exact AC ⟨_,rfl, "set_iterator",_,g.ty,CY.lookup,h⟩
theorem V3(G:A.handled=none)(H:a≠it)(sl:Nat->Nat)(ord:List AG)(B:ord.length=es.size)
  (I:∀i x,ord[i]?=some x->Nxt prog w a es ep t (sl i) i (some (x,sl (i+1)))) (J:Nxt prog w a es ep t (sl es.size) es.size none) :
  iT prog w A it [it,a] [it] es.size (λi v=>ord[i]?=some v) (λi h=>SIt h it (.int (sl i) 0) i a es.size ep/\Oo h a es ep t) where
 sub:=λx g=>by simp at g;simp[g]
 frame:=λ_ _ _ st keep=>⟨keep it (by simp) _ st.1,st.2.at' λo e=>keep a (by simp) o e⟩
 item:=λi s Q E O st l=>by
  have g:ord[i]?=some ord[i]:=An (by omega)
  exact eJ st.1 st.2 (I i _ g) λm L C=>l _ m s.toks g ⟨L,st.2.at' λo e=>C.extBut a o H e⟩ λb o hb e=>C.extBut b o (λh=>hb (by simp[h])) e
 done:=λs Q E st l=>jI G st.1 st.2 J λm N=>l m s.toks λb o hb e=>N b o (λh=>hb (by simp[h])) e
 self:=λ_ _ _ _ st l=>WK st.1 l
theorem ap(O:A.handled=none)(P:a≠it)(R:T≠it)(g:List Nat)(m:DD g (CV es.size)) :
  iT prog w A it [it,a,T] [it] es.size (λi v=>(g.filterMap λp=>(es[p]?).map (·.2))[i]?=some v) (λi h=>SIt h it (.ref T) i a es.size ep/\Oo h a es ep t/\TP h T g) where
 sub:=λx J=>by simp at J;simp[J]
 frame:=λ_ _ _ st keep=>⟨keep it (by simp) _ st.1,st.2.1.at' λo e=>keep a (by simp) o e,st.2.2.at' λo e=>keep T (by simp) o e⟩
 item:=λi s Q E hi st B=>by
  have S:g.length=es.size:=by have:=m.length_eq;simpa using this
  have L:∀p∈g,p < es.size:=λp h=>by simpa using m.mem_iff.mp h
  have C:g[i]?=some (g[i]'(by lia)):=An (by lia);have N:=L _ (Jw (by lia:i < g.length));have U:=B1 N
  have G:∀(l:List Nat),(∀p∈l,p < es.size)->(l.filterMap λp=>(es[p]?).map (·.2))=l.map λp=>(es.getD p (0,.none)).2:=λl=>by
   induction l with
   | nil=>intro _;rfl
   | cons p l X=>
    intro h;have m:=h p Am;rw[List.filterMap_cons_some (b:=(es[p]).2) (by simp[m]),X λq Y=>h q (Ab _ Y)];simp[NF,m]
  refine bA st.1 st.2.1 st.2.2 C U λH Z I=>B _ H s.toks ?_ ⟨Z,st.2.1.at' λo e=>I.extBut a o P e,st.2.2.at' λo e=>I.extBut T o R e⟩ λb o hb e=>I.extBut b o (λh=>hb (by simp[h])) e
  rw[G g L,Ak,C];simp[NF,N]
 done:=λs Q E st B=>by
  have S:g.length=es.size:=by have:=m.length_eq;simpa using this
  exact eK O st.1 st.2.1 st.2.2 (BZ (by lia)) λH wV=>B H s.toks λb o hb e=>wV b o (λh=>hb (by simp[h])) e
 self:=λ_ _ _ _ st B=>WK st.1 B
theorem Qb(g:Oo s.heap a es ep t)(l:Q (!(w.params.followText "set-order")&&(!t.plain&&decide (es.size > 1))) s):AZ (AU prog w) A (setDrawn a) Q E s:=by
 obtain⟨o,m,hex,B,C⟩:=g;unfold setDrawn Xo;refine AA (DL m B C ?_);refine AA (AA (Fb (AC ?_)));exact AC l
def YL(t:Et):Nat->Nat
 | 0=>0
 | i+1=>t.place.getD i 0+1
theorem Rn(g:Up t.place):∀{i:Nat},i<=t.place.size->GC t.place (YL t i)=i
 | 0,_=>Y7 g
 | i+1,h=>by
  have:t.place.getD i 0=t.place[i]'(by lia):=by simp[NF,show i < t.place.size by lia]
  show GC t.place (t.place.getD i 0+1)=i+1;rw[this];exact Y8 g _
theorem eO(L:A.handled=none)(G:Oo s.heap a es ep t)(U:Up t.place)(hl:t.led=(!(w.params.followText "set-order"))) (hz:es.size<=sizeLine)
  (N:∀(h':Bu) (d':_) (I:AR) (X:List AR) (St:Nat->Bu->Prop) (ord:List AG),DD ord (es.toList.map (·.2))->(∀b o,s.heap.get? b=some o->h'.get? b=some o) ->
   (∀b∈X,b=a∨s.heap.objs.size<=b)->s.heap.objs.size<=I->iT prog w A I X [I] es.size (λi v=>ord[i]?=some v) St->St 0 h'->Q (.ref I) { s with heap:=h',drawn:=d' }) :
  AZ (AU prog w) A (MF (.ref a)) Q E s:=by
 obtain⟨o,H,hex,O,m⟩:=id G;have Y:s.TypeIs (.ref a) "set":=⟨o,H,hex.1⟩;have P:=AS H
 have hps:t.place.size=es.size:=by
  unfold Et.fits at m;simp at m;exact m.1
 refine R9 Y qV (BM qV Y Rg ?_ (F.args_set_iter_1 _));unfold Builtin.«frozenset.__iter__» ig Xn ik ii;refine AA (AC ?_);refine AA (AA (Fj H O m (AC ?_)));refine AA (Qb G ?_)
 by_cases hb:(!(w.params.followText "set-order")&&(!t.plain&&decide (es.size > 1)))=true
 ·rw[qX hb]
  refine AA (Tv es.size (CV es.size) s _ (by simp) λR d' B=>?_)
  have J:R.length=es.size:=by have:=B.length_eq;simpa using this
  unfold newTuple;refine AA (A4 ?_ (show _<=sizeLine by simp[J];exact hz));unfold setEpoch;refine AA (AA (DL (AB _ H) O m (AC ?_)));unfold qg;refine AA (A4 (AC ⟨_,rfl, "set_iterator",_,⟨_,AJ _ rfl,rfl⟩,CY.lookup,?_⟩) (by size_fits));refine N _ d' _ _ _ (R.filterMap λp=>(es[p]?).map (·.2)) ?_ (λb o e=>AB _ (AB _ e)) ?_ ?_ (ap L (a:=a) (T:=s.heap.objs.size) (t:=t) (ep:=ep) ?_ ?_ R B) ⟨?_,?_,?_⟩
  ·refine(B.filterMap _).trans ?_
   have:(CV es.size).filterMap (λp=>(es[p]?).map (·.2))=es.toList.map (·.2):=by
    have e:=filterMap_getElem?_range es;rw[<-e,cu]
   rw[this]
  ·intro b hb
   simp only[Ax,DR,or_false,A9]at hb
   rcases hb with rfl | rfl | rfl
   ·right;lia
   ·left;rfl
   ·right;lia
  ·rw[A9];exact EJ _
  ·rw[A9];exact Ae (CD P)
  ·rw[A9];exact Ae (Bx _)
  ·exact AJ _ rfl
  ·exact G.at' λo e=>AB _ (AB _ e)
  ·exact⟨_,_,AB _ (AJ _ rfl),rfl⟩
 ·rw[qY hb]
  refine AA (AC ?_);unfold setEpoch;refine AA (AA (DL H O m (AC ?_)));unfold qg;refine AA (A4 (AC ⟨_,rfl, "set_iterator",_,⟨_,AJ _ rfl,rfl⟩,CY.lookup,?_⟩) (by size_fits))
  have Z:∀b∈[s.heap.objs.size,a],b=a∨s.heap.objs.size<=b:=λb hb=>by
   simp only[Ax,DR,or_false]at hb
   rcases hb with rfl | rfl
   ·right;exact AN _
   ·left;rfl
  cases C:w.params.followText "set-order" with
  | true=>
   have B:=bO (w.params.setOrder a ep) es
   have S:(Op (w.params.setOrder a ep) es).size=es.size:=by have:=B.length_eq;simpa using this
   refine N _ s.drawn _ _ _ ((Op (w.params.setOrder a ep) es).toList.map (·.2)) (B.map _) (λb o e=>AB _ e) Z (AN _)
    (V3 L (Ae P) (λ_=>0) _ (by simp[S]) (λi x g=>?_) ?_) ⟨AJ _ rfl,G.at' λo e=>AB _ e⟩
   ·have:=Wn (prog:=prog) (a:=a) (es:=es) (ep:=ep) (i:=i) (t:=t) C
    rw[Ak,Cz]at g
    cases hq:(Op (w.params.setOrder a ep) es)[i]? with
    | none=>rw[hq]at g;cases g
    | some e=>
     rw[hq]at g this;cases g;exact this
   ·have:=Wn (prog:=prog) (a:=a) (es:=es) (ep:=ep) (i:=es.size) (t:=t) C
    rw[EC (by lia)]at this;exact this
  | false=>
   have yb:t.led=true:=by rw[hl,C];rfl
   have J:t.plain=true∨es.size<=1:=by
    rw[C]at hb
    cases hh:t.plain with
    | true=>exact .inl rfl
    | false=>rw[hh]at hb;simp at hb;exact .inr hb
   refine N _ s.drawn _ _ _ (es.toList.map (·.2)) .rfl (λb o e=>AB _ e) Z (AN _)
    (V3 L (Ae P) (YL t) _ (by simp) (λi x g=>?_) ?_) ⟨AJ _ rfl,G.at' λo e=>AB _ e⟩
   ·have:=Wo (prog:=prog) (a:=a) (ep:=ep) (i:=i) C yb J (YL t i)
    rw[Ak,Cz]at g
    have hi:i < es.size:=by
     rcases Nat.lt_or_ge i es.size with h | h
     ·exact h
     ·rw[EC h]at g;cases g
    have l:GC t.place (YL t i)=i:=Rn U (by lia);rw[l,B1 hi,B1 (by lia:i < t.place.size)]at this;rw[B1 hi]at g;cases g
    have e2:t.place.getD i 0=t.place[i]'(by lia):=by simp[NF,show i < t.place.size by lia]
    show Nxt prog w a es ep t (YL t i) i (some (_,t.place.getD i 0+1));rw[e2];exact this
   ·have:=Wo (prog:=prog) (a:=a) (ep:=ep) (i:=es.size) C yb J (YL t es.size)
    have l:GC t.place (YL t es.size)=es.size:=Rn U (by lia);rw[l,EC (AN _)]at this;exact this
end
section
theorem gB(l:s.TypeIs (.ref a) "set") (h:Q false s):AZ (AU prog w) A (NE (.ref a)) Q E s:=by
 unfold NE;refine AA (tq l PySem.F.slot_set_len.lookup ?_);generalize g:("set.__len__" : String)=id0
 wp_delta
 rw[show splitId id0=some ("set", "__len__")from by subst g;decide +kernel];subst g;refine AA (Fa (b:=true) l (by rw[FL];kernel_rfl) ?_);refine Vt (λm=>zX m (by decide)) (λ_=>?_);refine Vt (λ_=>?_) (λm=>zX (by decide +kernel) m);refine AA (MC l ?_);exact AC h
theorem YO(hh:A.handled=none)(Q:Oo s.heap a es ep t)(hu:Up t.place)(hl:t.led=(!(w.params.followText "set-order"))) (Z:es.size<=sizeLine)
  (S:AR) (J:S≠a) (res:AG) (B:Nat) (hL:s.heap.get? S=some { cls:=.type "list",data:=.seq #[] B })
  (hR:∀h' tk d' (C:Array AG) G (ord:List AG),DD ord (es.toList.map (·.2))->(∀b o,b≠S->s.heap.get? b=some o->h'.get? b=some o)->h'.get? S=some { cls:=.type "list",dict:=none,data:=.seq C G,slots:=#[] } ->
   C.toList=ord->R (.ok (.ret res)) { s with heap:=h',toks:=tk,drawn:=d' }) :
  AZ (AU prog w) A.in1 (Gi (.ref S) (.ref a) res)
   (λfin s'=>match fin with | .done f=>R (.ok f) s' | .again G=>G.quiet=true/\FB (AU prog w) A G R s') (λe s'=>R (.error e) s') s:=by
 have hT:s.TypeIs (.ref a) "set":=let ⟨o,T,hex,_⟩:=Q;⟨o,T,hex.1⟩
 have U:=AS hL;unfold Gi;refine AA (MC hT ?_)
 have h1:Ox (.ref S) (.ref a)=false:=by simp[Ox,J]
 simp only[h1,show(Cn "set"==Cn "list")=false by decide,show(Cn "set"==Cn "tuple")=false by decide,Vp,C3,if_false];refine AA (eO hh Q hu hl Z λh1 d1 I fp St ord hp H J' hI W st=>?_)
 have wW:S∉fp:=λh=>by
  rcases J' S h with e | e
  ·exact J e
  ·exact zX U (Bd.mpr e)
 have L:∀(h:Bu) (g tk:Nat),St 0 h->(∀b o,b≠S->s.heap.get? b=some o->h.get? b=some o) ->
   h.get? S=some { cls:=.type "list",data:=.seq #[] g }->FB (AU prog w) A (.builtin "list.extend.loop" ⟨[.ref S,.ref I,res],[]⟩) R { s with heap:=h,toks:=tk,drawn:=d1 }:=by
  intro h g tk vM H N
  refine codeAny_extend_loopS W.toS Z S wW res es.size 0 _ #[] g rfl (Bk _) vM N (qS.nil _) λs' C G hm vb X=>?_
  rw[Moved.eq_with hm];refine hR s'.heap s'.toks d1 C G ord hp (λb o hb e=>hm.heap b o (λl=>?_) (H b o hb e)) vb ?_
  ·rcases Ax.mp l with e' | l
   ·exact hb e'
   ·exact zX (AS e) (by rw[A1.mp l];exact Bd.mpr hI)
  ·have wx:ord.length=es.size:=by have:=hp.length_eq;simpa using this
   apply Eg
   intro j
   by_cases Y:j < es.size
   ·have P:j < C.size:=by rw[X.1];exact Y
    have:=X.2 j C[j] (by simp[P]);rw[this];simp[P]
   ·have P:¬j < C.size:=by rw[X.1];exact Y
    simp[P,wx,Y]
 have N:=H S _ hL;refine AA (Bq (gB (let ⟨o,T,hex,_⟩:=Q;⟨o,H _ _ T,hex.1⟩) ?_));refine Vt (λ_=>?_) (λ_=>AC ⟨DB R5 _,L _ B _ st (λb o _ e=>H b o e) N⟩);refine AA (HI ?_);refine AA ?_;refine AA (II N rfl ?_);have m:=Ba (Ct (·.push B2)) N rfl;refine II m rfl ?_;have E:=Ba (Ct (·.pop)) m rfl;refine AC ⟨DB R5 _,L _ _ _ ?_ (λb o hb e=>?_) E⟩
 ·refine W.frame 0 _ _ st λb hb o e=>?_
  have O:b≠S:=λh=>wW (h▸hb)
  exact(As _ _ (Bo O)).trans ((As _ _ (Bo O)).trans e)
 ·exact(As _ _ (Bo hb)).trans ((As _ _ (Bo hb)).trans (H b o e))
theorem WN(U:A.handled=none)(X:KL prog w s.heap a J)(hn:J.length<=sizeLine)
  (h:∀(h':Bu) (tk:Nat) d' (m:List AG),(∀b o,s.heap.get? b=some o->h'.get? b=some o)->DD (m.map iv) (J.map some)->R m { s with heap:=h',toks:=tk,drawn:=d' }) :
  AZ (AU prog w) A (dF (.ref a)) R E s:=by
 obtain⟨o,L,ep,t,Q,hex,Y,y3,Z,hu,N,I⟩:=X;have uf:=AS Q
 have hz:L.size<=sizeLine:=by have:=I.length_eq;simp at this;omega
 unfold dF;refine AA (N9 (B0 entry_proto_collect' ?_));rw[Bh PySem.F.plain_proto_collect _];refine AA (A4 ?_);refine AC ⟨DB S9 _,B0 entry_list_iadd' ?_⟩;rw[Bh S9 _];have yc:(s.heap.push { cls:=.type "list",data:=.seq ([]:List AG).toArray }).get? s.heap.objs.size=some { cls:=.type "list",data:=.seq #[] }:=AJ _ rfl
 have O:=YO (prog:=prog) (s:={ s with heap:=s.heap.push { cls:=.type "list",data:=.seq ([]:List AG).toArray } })
  (R:=λ(q:mP) (P:AK)=>∃(h':Bu) (tk:Nat) (d':_) (g:Array AG) (B:Nat),q=.ok (.ret (.ref s.heap.objs.size))/\P={ s with heap:=h',toks:=tk,drawn:=d' } /\
   (∀b o,s.heap.get? b=some o->h'.get? b=some o)/\h'.get? s.heap.objs.size=some { cls:=.type "list",dict:=none,data:=.seq g B,slots:=#[] }/\DD g.toList (L.toList.map (·.2)))
  U ⟨o,AB _ Q,hex,Y,Z⟩ hu N hz s.heap.objs.size (DO uf) (.ref s.heap.objs.size) 0 yc
  (λh' tk d' g B ord I C G H=>⟨h',tk,d',g,B,rfl,rfl,λb o e=>C b o (Ae (AS e)) (AB _ e),G,H▸I⟩)
 have fin:∀{l:List AG},DD l (L.toList.map (·.2))->DD (l.map iv) (J.map some):=λN=>(N.map iv).trans (by rw[Cq];exact I)
 refine Ci O (λψ P x=>?_) λe P x=>?_
 ·cases ψ with
  | done f=>
   obtain⟨h',tk,d',g,B,e,rfl,C,G,H⟩:=x;cases e;refine AA (Xm G ?_);exact AC (h h' tk d' _ C (fin H))
  | again S=>
   refine⟨x.1,DY x.2 λq T y=>?_⟩;obtain⟨h',tk,d',g,B,rfl,rfl,C,G,H⟩:=y;refine AA (Xm G ?_);exact AC (h h' tk d' _ C (fin H))
 ·obtain⟨_,_,_,_,_,e',_⟩:=x
  cases e'
end
end PySem
namespace L2
open Srt (ltL)
theorem O4{B C:Type}{R:B->C->Prop}{E g:List C}(p:E.Perm g):∀{l1:List B},FO R l1 E->∃G,FO R G g/\G.Perm l1:=by
 induction p with
 | nil=>intro l1 h;cases h;exact⟨[],.nil,.refl _⟩
 | cons x _ H=>
  intro l1 h
  cases h with
  | cons r t=>
   obtain⟨I,m,o⟩:=H t;exact⟨_ :: I,.cons r m,o.cons _⟩
 | swap x y l=>
  intro l1 h
  cases h with
  | cons r t=>
   cases t with
   | cons J t=>exact⟨_ :: _ :: _,.cons J (.cons r t),aj _ _ _⟩
 | trans _ _ s A=>
  intro l1 h;obtain⟨a,m,o⟩:=s h;obtain⟨b,L,N⟩:=A m;exact⟨b,L,N.trans o⟩
theorem JZ{l m s:Type}{R:l->m->Prop}{f:l->s}{g:m->s}:∀{o:List l} {A:List m},FO R o A->(∀a∈o,∀b,R a b->g b=f a)->A.map g=o.map f
 | _,_,.nil,_=>rfl
 | _,_,.cons r t,h=>by rw[A2,A2,h _ Am _ r,JZ t λa B=>h a (Ab _ B)]
theorem Q5{l g:Type}{R:l->g->Prop}:∀{m:List l} {o:List g} {b:g},FO R m o->b∈o->∃a∈m,R a b
 | _,_,_,.nil,h=>nomatch h
 | _,_,b,.cons r t,h=>by
  rcases Ax.mp h with h | h
  ·subst h;exact⟨_,Am,r⟩
  ·obtain⟨a,s,e⟩:=Q5 t h
   exact⟨a,Ab _ s,e⟩
noncomputable def Jf:V->Int
 | .int n=>n
 | _=>0
def Ya(H:Hp):AG->ZLi
 | .int n _=>[n]
 | .ref b=>match H b with
  | some (.tup g)=>g.map Jf
  | _=>[]
 | _=>[]
theorem LJ(r:ZLi):(r.map V.int).map Jf=r:=by
 rw[Cq];exact(DK λa _=>rfl).trans (List.map_id' r)
def tY(K:AE)(H:Hp)(p:AR)(G:List V->Prop):Prop:=
 (∃l,(SqL K H p l∨SqT K H p l)/\G l)∨(∃g,H p=some (.dK g)/\G (g.map λx=>kV x.1)) ∨
  ∃g,H p=some (.dT g)/\∀bs:List AR,FO (λ(k:List Key×V) b=>H b=some (.tup (k.1.map kV))) g bs->G (bs.map V.ref)
def R4(H:Hp)(f:V->ZLi)(vs:List V):Prop:=(∀v∈vs,∃n,v=.int n/\f v=[n])∨∀v∈vs,∃b,v=.ref b/\H b=some (.tup ((f v).map V.int))/\f v≠[]
def rg(K:AE):List V->Hp->VK->Prop:=λm H Q=>∃p,m=[.ref p]/\tY K H p λg=>∃f:V->ZLi,g.length < 64/\R4 H f g /\
 ∀out,out.Perm g->out.Pairwise (λx y=>ltL (f y) (f x)=false)->∀l,H l=none->Q (.ref l) (upd H l (.lst out))
theorem R4.rel(h:R4 H f vs):∀v∈vs,∀u,RelV v u->Ya H u=f v:=λv g u r=>by
 rcases h with h | h
 ·obtain⟨n,rfl,e⟩:=h v g
  obtain⟨t,rfl⟩:=r;exact e.symm
 ·obtain⟨b,rfl,e,_⟩:=h v g
  cases r;show(match H b with | some (.tup l)=>l.map Jf | _=>[])=_;rw[e];exact LJ _
theorem WH(hc:X.calm=true)(I:Inv X ζ σ H s)(h:tY X.K H p G) :
  ∃vs P,G vs/\BL vs P/\P.length<=sizeLine/\∀(R:List AG->AK->Prop) (E:AG->AK->Prop),(∀(g:Bu) (tk:Nat),(∀b o,s.heap.get? b=some o->g.get? b=some o)->R P { s with heap:=g,toks:=tk })->AZ (AU X.prog X.w) X.A.in1 (dF (.ref p)) R E s:=by
 have hh:=I.ok.hd hc
 rcases h with⟨vs,sq,g⟩ | ⟨B,e,g⟩ | ⟨B,e,g⟩
 ·rcases sq with sq | sq
  ·obtain⟨P,Y,pl,J⟩:=I.list sq
   refine⟨vs,P,g,Y,by rw[<-Y.length];exact J,λR E k=>collect_list pl.isList (k _ s.toks λb o e=>?_) (by rw[<-Y.length];exact J)⟩;rw[M6 _ _ _ _ (Ae (AS e))];exact AB _ e
  ·obtain⟨P,Y,⟨o,ho,vD,n,hd⟩,J⟩:=I.tuple sq
   have Z:P.length<=sizeLine:=by rw[<-Y.length];exact J
   exact⟨vs,P,g,Y,Z,λR E k=>wpAny_collect_seq p (.inr rfl) ho vD hd (λh' kp=>by simpa using k h' s.toks kp) (by simpa using Z)⟩
 ·obtain⟨J,sm,us,kv,o,L,ep,g1,g2,g3,g5,g6,_⟩:=(I.hok p _ e)
  have C:L.size=B.length:=by
   have a1:=g6.length;have a2:=EL kv;rw[Az]at a1
   lia
  have hv:BL (B.map λx=>kV x.1) (L.toList.map (·.key)):=by
   have S:∀{l:List Ow} {us:List (Key×AG)} {B:List (Key×V)},Pairs (Dx X.prog X.w) l us->KV B us->BL (B.map λx=>kV x.1) (l.map (·.key)):=by
    intro l us B hp
    induction hp generalizing B with
    | nil=>intro h;cases h;exact .nil
    | cons q1 q2 _ ih=>
     intro h
     cases h with
     | cons r t=>
      refine .cons ?_ (ih t);dsimp only;rw[r.1]
      rcases C5 q1 with⟨i,t,e1,T⟩ | ⟨x,t,e1,T⟩
      ·rw[e1,T];exact⟨t,rfl⟩
      ·rw[e1,T];exact⟨t,rfl⟩
   exact S g6 kv
  refine⟨_,L.toList.map (·.key),g,hv,by rw[AT,Az,C];exact J,λR E k=>?_⟩
  refine Xc (Srt.Zr sm) hh ⟨o,g1,g2,g3⟩ (by rw[C];exact J) λg' tk m kp U=>?_
  have:m.toList=L.toList.map (·.key):=by
   apply Eg
   intro j
   by_cases N:j < L.size
   ·have O:j < m.size:=by rw[U.1];exact N
    obtain⟨_,T⟩:=U.2 j m[j] (by simp[O]);simp[N,O,T]
   ·have O:¬j < m.size:=by rw[U.1];exact N
    simp[N,O]
  rw[this];exact k g' tk kp
 ·obtain⟨J,sm,Q,rr,o,L,ep,g1,g2,g3,g4,_⟩:=(I.hok p _ e)
  have C:L.size=B.length:=by
   have a1:=congrArg Ln g4;have a2:=EL rr;rw[Az,AT]at a1
   lia
  have hb:FO (λ(k:List Key×V) b=>H b=some (.tup (k.1.map kV))) B (Q.map (·.2.1)):=by
   have S:∀{B:List (List Key×V)} {Q:List (List Key×AR×AG)},FO (λ(p:List Key×V) (q:List Key×AR×AG)=>p.1=q.1/\H q.2.1=some (.tup (p.1.map kV))/\RelV p.2 q.2.2) B Q->FO (λ(k:List Key×V) b=>H b=some (.tup (k.1.map kV))) B (Q.map (·.2.1)):=by
    intro B Q h
    induction h with
    | nil=>exact .nil
    | cons r _ ih=>exact .cons r.2.1 ih
   exact S rr
  have hk:L.toList.map (·.key)=(Q.map (·.2.1)).map A7:=by
   rw[g4,Cq,Cq];rfl
  have hv:∀l:List AR,BL (l.map V.ref) (l.map A7):=λl=>by
   induction l with
   | nil=>exact .nil
   | cons a l ih=>exact .cons rfl ih
  refine⟨_,(Q.map (·.2.1)).map A7,g _ hb,hv _,by rw[AT,AT,<-EL rr];exact J,λR E k=>?_⟩
  refine Xc (Srt.Zr sm) hh ⟨o,g1,g2,g3⟩ (by rw[C];exact J) λg' tk m kp U=>?_
  have:m.toList=(Q.map (·.2.1)).map A7:=by
   rw[<-hk]
   apply Eg
   intro j
   by_cases N:j < L.size
   ·have O:j < m.size:=by rw[U.1];exact N
    obtain⟨_,T⟩:=U.2 j m[j] (by simp[O]);simp[N,O,T]
   ·have O:¬j < m.size:=by rw[U.1];exact N
    simp[N,O]
  rw[this];exact k g' tk kp
theorem O3{X:Cx}{s:AK}{H:Hp}{f:V->ZLi}{vs:List V}{g:List AG}(I:∀b xs,H b=some (.tup xs)->∃is:List AG,BL xs is/\cy s.heap b is.toArray)(h:R4 H f vs)(G:BL vs g)(J:2<=g.length){A:BX}:Srt.R3 X.prog X.w A s g (Ya H):=by
 rcases id h with O | P
 ·have:∃ns,IntsAre g ns:=by
   have C:∀{vs:List V} {g:List AG},BL vs g->(∀v∈vs,∃n,v=.int n/\f v=[n])->∃ns,IntsAre g ns:=by
    intro vs g r
    induction r with
    | nil=>exact λ_=>⟨[],.nil⟩
    | cons r _ R=>
     intro l
     obtain⟨ns,B⟩:=R λv S=>l v (Ab _ S)
     obtain⟨n,rfl,_⟩:=l _ Am;obtain⟨t,rfl⟩:=r;exact⟨n :: ns,.cons n t B⟩
   exact C G O
  obtain⟨ns,B⟩:=this;obtain⟨T,U,Y⟩:=Srt.a9 B J;refine⟨T,U,λx y L N Q E q=>Y x y L N Q E ?_⟩;obtain⟨n,t,Z⟩:=B.all _ (Srt.FU L).1;obtain⟨m,u,e2⟩:=B.all _ (Srt.FU N).1
  have e:Srt.ltK Srt.fH x y=Srt.ltK (Ya H) x y:=by
   unfold Srt.ltK Srt.fH;rw[Z,e2];rfl
  rw[e];exact q
 ·refine Srt.a7 (λu hu=>?_) (by intro e;subst e;simp at J)
  obtain⟨v,l,r⟩:=Q5 G hu;rw[h.rel v l u r];obtain⟨b,rfl,e,ne⟩:=P v l;cases r;refine⟨⟨b,?_⟩,ne⟩;obtain⟨is,r,o,ho,vD,n,hd⟩:=I b _ e;exact⟨is.toArray,rfl,⟨o,ho,vD,n,hd⟩,by simpa using intsAre_of r⟩
theorem cI{X}(U:X.calm=true):HE X (.builtin "sorted") (rg X.K):=by
 intro Y s Z H P us Q I r h;obtain⟨p,rfl,G⟩:=h;obtain⟨u,rfl,rx⟩:=vals1 r;cases rx;obtain⟨vs,C,⟨f,Χ,l,q⟩,E,J,L⟩:=WH U I G;refine TH kind_sorted plain_sorted entry_sorted (args_sorted1 _) ?_;unfold Builtin.«sorted»;refine AA (m:=checkCount "sorted" 1 1 _) (AC (AA (L _ _ λg tk kp=>?_)));refine AA (P1 ?_ J);have N:Inv X Y Z H { s with heap:=g,toks:=tk }:=I.kept kp;have O:(g.push (DX "list" C.toArray 0)).get? g.objs.size=some (DX "list" C.toArray 0):=AJ _ rfl;refine AA (Bq (BM slot_list_sort ⟨_,O,rfl⟩ t0 (Srt.Pw (f:=Ya H) O J (by rw[<-E.length];exact Χ) (λh2 s' keep=>?_) λout po so=>⟨_,rfl,AC ⟨_,rfl,?_⟩⟩) (args_list_sort _)))
 ·refine O3 (λb P e=>?_) l E h2
  obtain⟨_,is,r,o,S,vD,n,hd⟩:=(show C8 X.prog X.w H g b (.tup P)from N.hok b _ e);exact⟨is,r,o,keep b o (Ae (AS S)) (AB _ S),vD,n,hd⟩
 ·obtain⟨A,T,pv⟩:=O4 po.symm E
  have ω:A.Pairwise (λx y=>ltL (f y) (f x)=false):=by
   have e:out.toList.map (Ya H)=A.map f:=JZ T λa ha b rb=>l.rel a (pv.mem_iff.mp ha) b rb
   have:=(Cp (f:=Ya H) (R:=λx y=>ltL y x=false)).mpr so;rw[e]at this;exact Cp.mp this
  obtain⟨k,hk⟩:=sortedHeap_at (out:=out) O
  have B:A.length<=sizeLine:=by rw[pv.length_eq,E.length];exact J
  have I2:=N.laid (a:=g.objs.size) (o:=.lst A) (t':=tk) (h':=MD (g.push (DX "list" C.toArray 0)) g.objs.size C out)
   (λb u z=>by
    have lt:b < g.objs.size:=AS z;rw[sortedHeap_old (Ae lt) (by rw[size_push'];exact CD lt)]
    exact AB _ z) (AN _) ⟨B,out.toList,k,T,hk⟩
  exact⟨.ref g.objs.size,_,I2,rfl,q A pv ω _ (N.hok.fresh (AN _))⟩
def bp{g:Type}(le:g->g->Bool)(x:g):List g->List g
 | []=>[x]
 | y :: l=>if le x y=true then x :: y :: l else y :: bp le x l
def eC{g:Type}(le:g->g->Bool):List g->List g
 | []=>[]
 | x :: l=>bp le x (eC le l)
theorem Oc{g:Type}(le:g->g->Bool)(x:g):∀l:List g,(bp le x l).Perm (x :: l)
 | []=>.refl _
 | y :: l=>by
  unfold bp;split
  ·exact .refl _
  ·exact((Oc le x l).cons y).trans (.swap x y l)
theorem OK{g:Type}(le:g->g->Bool):∀l:List g,(eC le l).Perm l
 | []=>.refl _
 | x :: l=>(Oc le x _).trans ((OK le l).cons x)
theorem US{o:Type}{le:o->o->Bool}(A:∀a b c,le a b=true->le b c=true->le a c=true)(B:∀a b,(le a b||le b a)=true):∀l:List o,(eC le l).Pairwise (λa b=>le a b=true)
 | []=>.nil
 | x :: l=>by
  have s:∀m:List o,m.Pairwise (λa b=>le a b=true)->(bp le x m).Pairwise (λa b=>le a b=true):=λm=>by
   induction m with
   | nil=>intro _;exact Jv _ _
   | cons y m C=>
    intro h;unfold bp;split
    ·rename_i c
     refine SM (λz g=>?_) h
     rcases Ax.mp g with rfl | g
     ·exact c
     ·exact A _ _ _ c (UC h g)
    ·rename_i c
     refine SM (λz g=>?_) (C (N6.mp h).2)
     rcases Ax.mp ((Oc le x m).mem_iff.mp g)with rfl | g
     ·have:=B z y
      rw[R8]at this;exact this.resolve_left c
     ·exact UC h g
  exact s _ (US A B l)
def Lu(g:ZLi):ZLi:=eC (λa b=>decide (a<=b)) g
theorem Qn(ns:ZLi):(Lu ns).Perm ns:=OK _ ns
theorem WI(g:ZLi):(Lu g).Pairwise (·<=·):=by
 have:=US (le:=λa b:Int=>decide (a<=b)) (by intro a b c l m;simp at l m ⊢;lia) (by intro a b;simp;lia) g
 exact this.imp λh=>by simpa using h
def Zj(g:List ZLi):List ZLi:=eC (λa b=>!ltL b a) g
theorem YK(rs:List ZLi):(Zj rs).Perm rs:=OK _ rs
theorem eG(g:List ZLi):(Zj g).Pairwise (λa b=>ltL b a=false):=by
 have:=US (le:=λa b:ZLi=>!ltL b a) (by intro a b c l m;simp at l m ⊢;exact Srt.U0 _ _ _ l m) (by
  intro a b
  cases e:ltL b a with
  | false=>simp
  | true=>simp[Srt.RF _ _ e]) g
 exact this.imp λh=>by simpa using h
theorem a8{l l':List ZLi}(p:l.Perm l')(h:l.Pairwise (λa b=>ltL b a=false))(h':l'.Pairwise (λa b=>ltL b a=false)):l=l':=
 p.eq_of_pairwise (λa b _ _ g m=>Srt.Z9 a b m g) h h'
noncomputable def Yt:Key->D
 | .inl i=>.int i
 | .inr x=>.str x
def Yv(d:D)(S:Sto):Option (List D):=match d with
 | .fro g=>some g
 | .tup g=>some g
 | .ref n=>match S[n]? with
  | some (.lst g)=>some g
  | some (.dK l)=>some (l.map λx=>Yt x.1)
  | some (.dT l)=>some (l.map λx=>.tup (x.1.map Yt))
  | _=>none
 | _=>none
def re(r:ZLi):D:=.tup (r.map D.int)
def Zn:List D->Option (List ZLi)
 | []=>some []
 | .tup g :: r=>match Iq g,Zn r with
  | some (n :: l),some m=>some ((n :: l) :: m)
  | _,_=>none
 | _ :: _=>none
def TW(ds:List D):Option (List D):=if ds.length < 64 then(match Iq ds with
 | some g=>some ((Lu g).map D.int)
 | none=>match Zn ds with
  | some l=>some ((Zj l).map re)
  | none=>none)else none
theorem TV{ds es:List D}(h:TW ds=some es):ds.length < 64:=by
 unfold TW at h;split at h
 ·assumption
 ·cases h
def Nd(m:ME):ME:=λe S=>(m e S).bind λd g=>match Yv d g with
 | some l=>match TW l with
  | some o=>.ok (.ref g.length) (g++[.lst o])
  | none=>.bad
 | none=>.bad
section
theorem aA(x y:Int):ltL [y] [x]=decide (y < x):=by
 show(if y=x then false else decide (y < x))=_;split
 ·rename_i e;simp[e]
 ·rfl
def Sg(H:Hp):V->ZLi
 | .int n=>[n]
 | .ref b=>match H b with
  | some (.tup g)=>g.map Jf
  | _=>[]
 | _=>[]
theorem WU{K}{ρ}{H}:∀{ds:List D} {l:List ZLi} {vs:List V},Zn ds=some l->Ao K ρ H ds vs->vs.map (Sg H)=l/\∀v∈vs,∃b,v=.ref b/\H b=some (.tup ((Sg H v).map V.int))/\Sg H v≠[]
 | [],_,_,h,.nil=>by cases h;exact⟨rfl,λv g=>nomatch g⟩
 | .tup E :: ds,l,_,h,.cons r t=>by
  unfold Zn at h;split at h
  ·rename_i n ns G m o
   cases h;obtain⟨s,A⟩:=WU o t
   cases r with
   | @tup _ b I hb B=>
    have:=Gu m;subst this;have:=B.ints;subst this
    have e:Sg H (.ref b)=n :: ns:=by
     show(match H b with | some (.tup C)=>C.map Jf | _=>[])=_;rw[hb];exact LJ _
    refine⟨by rw[A2,e,s],λv g=>?_⟩
    rcases Ax.mp g with g | g
    ·subst g
     refine⟨b,rfl,?_,?_⟩
     ·rw[e];exact hb
     ·rw[e];exact List.cons_ne_nil _ _
    ·exact A v g
  ·cases h
 | .non :: _,_,_,h,_=>by cases h
 | .bl _ :: _,_,_,h,_=>by cases h
 | .int _ :: _,_,_,h,_=>by cases h
 | .str _ :: _,_,_,h,_=>by cases h
 | .fro _ :: _,_,_,h,_=>by cases h
 | .ref _ :: _,_,_,h,_=>by cases h
 | .exc _ :: _,_,_,h,_=>by cases h
theorem WZ{K}{ρ}{H}:∀{vs:List V},(∀v∈vs,∃b,v=.ref b/\H b=some (.tup ((Sg H v).map V.int))/\Sg H v≠[])->Ao K ρ H ((vs.map (Sg H)).map re) vs
 | [],_=>.nil
 | v :: vs,h=>by
  obtain⟨b,e,hb,_⟩:=h v Am;refine .cons ?_ (WZ λu g=>h u (Ab _ g));subst e;exact .tup hb (Ao.of_ints _)
theorem eE{K:AE}{ρ:List AR}{H:Hp}{ds es:List D}{vs:List V}(h:TW ds=some es)(r:Ao K ρ H ds vs) :
  ∃f:V->ZLi,R4 H f vs/\∀out,out.Perm vs->out.Pairwise (λx y=>ltL (f y) (f x)=false)->Ao K ρ H es out:=by
 have B:=TV h;unfold TW at h;rw[qX B]at h;split at h
 ·rename_i ns C
  cases h;have:=Gu C;subst this;have:=r.ints;subst this;refine⟨λv=>[Jf v],.inl λv g=>?_,λout l m=>?_⟩
  ·obtain⟨n,_,rfl⟩:=B3.mp g
   exact⟨n,rfl,rfl⟩
  ·have E:out=(out.map Jf).map V.int:=by
    rw[Cq]
    conv=>lhs;rw[<-qq out]
    refine DK λv g=>?_
    obtain⟨n,_,rfl⟩:=B3.mp (l.mem_iff.mp g);rfl
   have o:out.map Jf=Lu ns:=by
    have G:(out.map Jf).Perm (Lu ns):=by
     have:=l.map Jf;rw[LJ]at this;exact this.trans (Qn ns).symm
    refine G.eq_of_pairwise (λa b _ _ I J=>lQ I J) ?_ (WI ns);rw[Cp]
    refine m.imp λ{x y} s=>?_
    rw[aA]at s;simp at s;exact s
   rw[E,o];exact Ao.of_ints _
 ·split at h
  ·rename_i rs L
   cases h;obtain⟨N,A⟩:=WU L r;refine⟨Sg H,.inr A,λout l m=>?_⟩
   have o:out.map (Sg H)=Zj rs:=by
    refine a8 ?_ (Cp.mpr m) (eG rs);have:=l.map (Sg H);rw[N]at this;exact this.trans (YK rs).symm
   rw[<-o]
   exact WZ λv g=>A v (l.mem_iff.mp g)
  ·cases h
theorem RJ{K}{ρ}{H}:∀g:List Key,Ao K ρ H (g.map Yt) (g.map kV)
 | []=>.nil
 | .inl i :: g=>.cons (.int i) (RJ g)
 | .inr x :: g=>.cons (.str x) (RJ g)
theorem Ng{K}{ρ}{H}:∀{g:List (Key×D)} {l:List (Key×V)},KVR K ρ H g l->Ao K ρ H (g.map λx=>Yt x.1) (l.map λx=>kV x.1)
 | _,_,.nil=>.nil
 | (k,_) :: _,(m,_) :: _,.cons r t=>by
  have e:=r.1;subst e
  cases k with
  | inl i=>exact .cons (.int i) (Ng t)
  | inr x=>exact .cons (.str x) (Ng t)
theorem RI{K}{ρ}{H}:∀{g:List (List Key×D)} {l:List (List Key×V)} {bs:List AR},KVR K ρ H g l->FO (λ(k:List Key×V) b=>H b=some (.tup (k.1.map kV))) l bs->Ao K ρ H (g.map λx=>.tup (x.1.map Yt)) (bs.map V.ref)
 | _,_,_,.nil,.nil=>.nil
 | (k,_) :: _,(s,_) :: _,_,.cons r t,.cons m o=>by
  have e:=r.1;subst e;exact .cons (.tup m (RJ k)) (RI t o)
theorem LM(Y:X.calm=true)(Z:Gl X "sorted") (A:X.mg "sorted" = none) (h:GE X E e m) (P:AO [e] X.env=(false,BQ e X.env) :: AO [] X.env:=by rfl):GE X E (.Call (.Name "sorted" p) [e] [] pos) (Nd m):=
 (Im (cI Y) Z A uC (De h E5 P) (by decide) (by decide) P rfl).imp<|by
 rintro σ H Q ⟨ρ,l,S,hl,hs,A⟩
 refine⟨ρ,l,S,hl,hs,A.seq λd S1 A G I x l1 R r1=>?_⟩
 cases g:Yv d S1 with
 | none=>rw[g]at A;exact A.elim
 | some T=>
  rw[g]at A;dsimp only at A
  cases J:TW T with
  | none=>rw[J]at A;exact A.elim
  | some U=>
   rw[J]at A
   have fin:∀s:List V,Ao X.K G I U s->∀q,I q=none->Q (.ref q) (upd I q (.lst s)):=λs B q g=>by
    have le:Le X.K G I (G++[q]) (upd I q (.lst s)):=Le.alloc g;obtain⟨s4,l4,xX⟩:=R.alloc (ho:=.lst s) (o:=.lst U) g ⟨_,BV,B.mono le⟩;exact A _ _ _ (l1.trans l4) s4 (.ref xX)
   have out:∀s,Ao X.K G I T s->∃f:V->ZLi,s.length < 64/\R4 I f s/\∀out,out.Perm s->out.Pairwise (λx y=>ltL (f y) (f x)=false)->∀l,I l=none->Q (.ref l) (upd I l (.lst out)):=λs B=>by
    obtain⟨f,k1,k2⟩:=eE J B;exact⟨f,by rw[<-B.length];exact TV J,k1,λout po so=>fin out (k2 out po so)⟩
   cases r1 with
   | fro L N=>cases g;exact⟨_,rfl,.inl ⟨_,.inl L.sq,out _ N⟩⟩
   | tup L N=>cases g;exact⟨_,rfl,.inl ⟨_,.inr (.inl (.inl L)),out _ N⟩⟩
   | @ref n a hn=>
    obtain⟨o,ho,O⟩:=R.there hn;unfold Yv at g;simp only[ho]at g
    cases o with
    | lst ys=>cases g;obtain⟨s,e,B⟩:=O;exact⟨_,rfl,.inl ⟨s,.inl (.inl (.inl e)),out _ B⟩⟩
    | dK sN=>cases g;obtain⟨s,e,B⟩:=O;exact⟨_,rfl,.inr (.inl ⟨s,e,out _ (Ng B)⟩)⟩
    | dT sN=>cases g;obtain⟨s,e,B⟩:=O;exact⟨_,rfl,.inr (.inr ⟨s,e,λbs hb=>out _ (RI B hb)⟩)⟩
    | ins C fs=>cases g
    | fK _=>cases g
    | fT _=>cases g
    | mem _=>cases g
   | _=>cases g
end
theorem oo{K}{t}(h:∀A∈["NoneType", "bool", "int", "str", "tuple", "list", "dict"],Dy K (.type A) (.type t)=lv t A):∀A b,isB t A=some b->Dy K (.type A) (.type t)=some b:=λA b e=>by
 unfold isB at e;split at e
 ·rename_i g
  rw[h A (by simpa using g)];exact e
 ·cases e
theorem fq{K}:∀A b,isB "list" A=some b->Dy K (.type A) (.type "list")=some b:=oo λA h=>by
 simp only[Ax,DR,or_false]at h
 rcases h with rfl | rfl | rfl | rfl | rfl | rfl | rfl <;> kernel_rfl
def eD(K:AE):Sp:=λl H Q _=>∃(a:AR) (g:ZLi),l=[.ref a]/\Sz K H a (g.map V.int)/\g.length<=63/\∀m,Q (.bl true) m
theorem fY{P}{w}{K}{l}{base}{k}{m}{fd}{f}(F:Bm P w K l base (CXG P w) k m fd ["script"] (spM K 1 f))
  (h:∀g:ZLi,g.length<=63->∃s,f [.fro (g.map D.int)] []=.ok (.bl true) s):Bm P w K l base (CXG P w) k m fd ["script"] (eD K):=F.imp<|by
 rintro L H Q E ⟨a,g,e,A,B,q⟩
 subst e;obtain⟨s,e⟩:=h g B;refine⟨[],[.fro (g.map D.int)],[],rfl,.cons (.fro A (Ao.of_ints g)) .nil,⟨rfl,λi j a C=>by simp at C,λn o a G=>by simp at G⟩,?_⟩;rw[e]
 exact λI J x _ _ r=>by cases r;exact q J
theorem pO{K:AE}{H:Hp}{a:AR}{g:ZLi}(l:lI H)(m:SqL K H a (g.map V.int)):Sz K H a (g.map V.int):=by
 rcases m with(h | h) | h
 ·rcases l a with z | ⟨o,s,z⟩ <;> rw[z]at h <;> cases h
 ·exact .inl h
 ·exact .inr h
theorem Mv{K}{C}{v}{b}(h:Lj K C v=some b):(Gg K C).isSome=true:=by
 obtain⟨g,a,_⟩:=UB.mp h;rw[a];rfl
theorem pf(h:CXG P w [] H s (λ_ _ _=>False) e s'):False:=by
 obtain⟨_,_,_,_,_,_,_,_,_,z⟩:=h;exact z
theorem gu(I:Nat->Lo->Sto->List D->Prop)(A:∀i e S l,I i e S l->v S=some xs)
  (step:∀i d e S l,xs[i]?=some d->I i e S l->l.length < sizeLine/\∃e1 S1,g d e S=.ok e1 S1/\∃b o,c e1 S1=.ok b o/\((b=true/\∃y s,m e1 o=.ok y s/\I (i+1) e1 s (l++[y]))∨(b=false/\I (i+1) e1 o l))) :
  ∀(k i:Nat) (e:Lo) (S:Sto) (l:List D),I i e S l->i<=xs.length->xs.length<=i+k->∃r B,HD v g c m k i e S l=.ok r B/\∃G,I xs.length G B r:=by
 intro k
 induction k with
 | zero=>
  intro i e S l h H J
  have:i=xs.length:=by lia
  subst this;refine⟨l,S,?_,e,h⟩;unfold HD;rw[A _ e S l h];simp
 | succ k C=>
  intro i e S l h H J;unfold HD;rw[A _ e S l h];dsimp only
  by_cases L:i < xs.length
  ·have E:xs[i]?=some xs[i]:=by simp[L]
   rw[E];dsimp only;obtain⟨N,e1,S1,O,b,o,P,t⟩:=step i _ e S l E h;rw[qX N,O];dsimp only[okR,Res.bind];rw[P];dsimp only[okR,Res.bind]
   rcases t with⟨rfl,y,s,Q,t⟩ | ⟨rfl,t⟩
   ·rw[qX rfl,Q]
    exact C (i+1) e1 s _ t (by lia) (by lia)
   ·rw[qY Af]
    exact C (i+1) e1 o l t (by lia) (by lia)
  ·have:i=xs.length:=by lia
   subst this;rw[show xs[xs.length]?=none by simp];exact⟨l,S,rfl,e,h⟩
theorem ku(I:Nat->Lo->Sto->List D->Prop)(s:I 0 e S [])(A:∀i e S l,I i e S l->v S=some xs)
  (step:∀i d e S l,xs[i]?=some d->I i e S l->l.length < sizeLine/\∃e1 S1,g d e S=.ok e1 S1/\∃b o,c e1 S1=.ok b o/\((b=true/\∃y B,m e1 o=.ok y B/\I (i+1) e1 B (l++[y]))∨(b=false/\I (i+1) e1 o l))) :
  ∃r C,HD v g c m (EQ v S) 0 e S []=.ok r C/\∃E,I xs.length E C r:=by
 have G:EQ v S=xs.length:=by unfold EQ;rw[A 0 e S [] s]
 rw[G];exact gu I A step _ _ _ _ _ s (Bk _) (by lia)
theorem si(h:-1000000<=j):-(2 ^ 62)<=j:=Int.le_trans (by decide) h
theorem tJ{j:Int}(h:j<=1000000):j < 2 ^ 62:=Int.lt_of_le_of_lt h (by decide)
theorem gd(h:0 < j)(g:j<=1000000):Tr (.int i) (.int j) S=.ok (.int (i / j)) S:=by
 show(if lK i j then _ else _)=_;rw[qX ⟨h,by lia⟩]
theorem Z4(h:0 < j):Wr (.int i) (.int j) S=.ok (.int (i % j)) S:=by
 show(if 0 < j then _ else _)=_;rw[qX h]
theorem L7(g:l e S=.ok x S1)(hb:m e S1=.ok y o)(s:f x y o=.ok d S3):m2 f l m e S=.ok d S3:=by
 unfold m2;rw[g];dsimp only[Res.bind];rw[hb];dsimp only[Res.bind];rw[s];rfl
theorem OM(h:m e S=.ok d S1):Bp i m e S=.ok (.nx (e.set i (some d))) S1:=by
 unfold Bp bG;rw[h];rfl
theorem Uj(h:m e S=.ok d S1):By m e S=.ok (.rt d) S1:=by
 unfold By;rw[h];rfl
theorem kg(h:m e S=.ok d S1):ER m e S=.ok (.nx e) S1:=by
 unfold ER;rw[h];rfl
theorem W1(h:t e S=.ok c S1):sIf t a b e S=if c=true then a e S1 else b e S1:=by
 unfold sIf;rw[h];rfl
theorem pP(h:m e S=.ok v S1):ED m g b e S=Od v g b (EQ v S1) 0 e S1:=by
 unfold ED;rw[h];rfl
theorem aS(h:m e S=.ok ds S1)(g:ds.length=n):BE n f m e S=f ds S1:=by
 unfold BE;rw[h];dsimp only[Res.bind];rw[qX g]
theorem JP(h:a e S=.ok (.nx e1) S1):Aq a b e S=b e1 S1:=by unfold Aq;rw[h];rfl
theorem nL(h:a e S=.ok (.rt d) S1):Aq a b e S=.ok (.rt d) S1:=by unfold Aq;rw[h];rfl
theorem Uh(h:g (JO n ds) S=.ok (.rt d) S1):CO n g ds S=.ok d S1:=by unfold CO;rw[h];rfl
theorem nQ(h:g (JO n ds) S=.ok (.nx e) S1):CO n g ds S=.ok .non S1:=by unfold CO;rw[h];rfl
def Keeps(S g:Sto):Prop:=S.length<=g.length/\∀j,j < S.length->g[j]?=S[j]?
theorem Keeps.refl(S:Sto):Keeps S S:=⟨AN _,λ_ _=>rfl⟩
theorem Keeps.trans(a:Keeps S S1)(b:Keeps S1 S2):Keeps S S2:=⟨Ap a.1 b.1,λj h=>(b.2 j (Aa h a.1)).trans (a.2 j h)⟩
theorem Keeps.app(S:Sto)(G:Sto):Keeps S (S++G):=⟨by simp,λj h=>AM h⟩
theorem Keeps.set(a:Keeps S S1)(h:S.length<=m)(o:Ob):Keeps S (S1.set m o):=⟨by simpa using a.1,λj g=>by rw[BI (by lia)];exact a.2 j g⟩
theorem Keeps.at{S S1:Sto}(a:Keeps S S1){j:Nat}{o:Ob}(h:S[j]?=some o):S1[j]?=some o:=by
 rw[a.2 j (AH.mp h).1];exact h
theorem p7(l:mo e S=.ok (.ref n) S1)(m:S1[n]?=some (.lst xs))(o:s e S1=.ok y g)(A:g[n]?=some (.lst xs2))(B:xs2.length < sizeLine) :
  Ld mo s e S=.ok .non (g.set n (.lst (xs2++[y]))):=by
 unfold Ld;rw[l];dsimp only[Res.bind];rw[m];rw[o];dsimp only[Res.bind];rw[A];dsimp only;rw[qX B]
theorem OH(h:S[n]?=some (.lst xs)):Kb (.ref n) S=some xs:=by
 unfold Kb Kc;dsimp only;rw[h]
theorem W2(h:m e S=.ok (.ref n) S1)(g:S1[n]?=some (.lst xs)):EV m e S=.ok (Kb (.ref n)) S1:=by
 unfold EV;rw[h];dsimp only[Res.bind];rw[OH g]
theorem fP(h:g e S=.ok ds S1):Dz g e S=.ok (.ref S1.length) (S1++[.lst ds]):=by
 unfold Dz;rw[h];rfl
theorem Jr(S:Sto)(o:Ob):(S++[o])[S.length]?=some o:=by simp
theorem Qs(h:S[n]?=some (.lst ds)):HN (.ref n) S=some ds:=by
 unfold HN;dsimp only;rw[h]
theorem fX(h:m e S=.ok d S1)(g:HN d S1=some ds):HG m e S=.ok (.int ds.length) S1:=by
 unfold HG;rw[h];dsimp only[Res.bind];rw[g]
theorem UU(l:m e S=.ok v S1)(ho:mo e S1=.ok (.ref n) g)(o:g[n]?=some (.ins C fs))(s:fs.length < 1000) :
  Ft C f mo m e S=.ok (.nx e) (g.set n (.ins C (bM f v fs))):=by
 unfold Ft;rw[l];dsimp only[Res.lift];rw[ho];dsimp only[Res.lift];rw[o];dsimp only;rw[qX ⟨rfl,s⟩]
theorem pR(h:m e S=.ok (.ref n) S1)(g:S1[n]?=some (.ins C fs))(l:fs.lookup f=some v):CU C f m e S=.ok v S1:=by
 unfold CU;rw[h];dsimp only[Res.bind];rw[g];dsimp only;rw[qX rfl,l]
theorem kK(h:g e S=.ok ds S1)(l:ds.length+1=n)(m:f (.ref S1.length :: ds) (S1++[.ins C []])=.ok .non S2):O6 C n f g e S=.ok (.ref S1.length) S2:=by
 unfold O6;rw[h];dsimp only[Res.bind];rw[qX l,m]
theorem Jp(h:m e S=.ok d S1)(g:r e S1=.ok ds S2):AL m r e S=.ok (d :: ds) S2:=by
 unfold AL;rw[h];dsimp only[Res.bind];rw[g]
theorem kt(h:l e S=.ok v S1):El n l g c m e S=HD v g c m (EQ v S1) 0 (BF n none++e) S1 []:=by
 unfold El;rw[h];rfl
theorem qE(h:m e S=.ok (.bl b) S1):mB m e S=.ok b S1:=by
 unfold mB;rw[h];rfl
theorem m8(h:g e S=.ok ds S1)(l:ds.length<=1000):Gb g e S=.ok (.tup ds) S1:=by
 unfold Gb;rw[h];dsimp only[Res.bind];rw[qX (Ap l (by decide))]
theorem sx(h:m e S=.ok d S1)(l:tyD d S1=some T)(hb:g T=some b):mIs g tabC m e S=.ok (.bl b) S1:=by
 unfold mIs;rw[h];dsimp only[Res.bind]
 cases d with
 | exc C=>cases l
 | _=>dsimp only;rw[l];dsimp only;rw[hb]
theorem Wx(h:S[n]?=some (.lst ds)):OZ (.ref n) S=some ds:=by
 unfold OZ;dsimp only;rw[h]
section
variable{X:Cx}{E:EW}{e:Expr}
def sg:ME:=λ_ _=>.bad
theorem pM:GE X E e sg:=λ_ _ _ _ _ _ ⟨_,_,_,_,_,g⟩=>g.elim
end
end L2
namespace PySem
open PySem.Sem (wp)
theorem Kq(l:AR)(items:Array AG)(n:Nat)(C:Option AR)(sl:Array (Option AG)) :
  Meets (Builtin.«enumerate.__new__» ⟨[.type "enumerate",.ref l],[]⟩) (λ_ R s=>s.heap.get? l=some { cls:=.type "tuple",dict:=C,data:=.seq items n,slots:=sl } /\
   R (.ok (.ret (.ref (s.heap.push { cls:=.type "tuple_iterator",data:=.fields #[.ref l,.int 0 0] }).objs.size)))
    { s with heap:=(s.heap.push { cls:=.type "tuple_iterator",data:=.fields #[.ref l,.int 0 0] }).push { cls:=.type "enumerate",data:=.fields #[.none,.bool false,.ref s.heap.objs.size,Dl 0,.none,.none] } }):=
 .of_wp λB w A R s h=>by
  obtain⟨E,g,d,tk,os⟩:=s;obtain⟨m,h⟩:=h;have G:=sub_enumerate;have o:Bu.IsTuple (mO ⟨E,g,d,tk,os⟩) l items:=⟨_,m,rfl,n,rfl⟩
  wp_walk using B6 m
  refine tm λst=>AC ?_
  split
  ·rename_i c _ _ _ _ _
   cases(c==Cn "enumerate")
   ·wp_walk using B6 m,Dj o
    exact⟨_,rfl,h⟩
   ·wp_walk using B6 m,Dj o
    exact⟨_,rfl,h⟩
  ·wp_walk using B6 m,Dj o
   exact⟨_,rfl,h⟩
section
variable{w:Bs}{A:BX}{E:AG->AK->Prop}{s:AK}
theorem K7(H:s.heap.IsTuple l g)
  (h:∀h',JI h' (s.heap.objs.size+1) s.heap.objs.size 0 .none->h'.IsTupleIter s.heap.objs.size l 0->h'.objs.size=s.heap.objs.size+2 ->
   (∀b o,s.heap.get? b=some o->h'.get? b=some o)->Q (.ref (s.heap.objs.size+1)) { s with heap:=h' }) :
  AZ (AU prog w) A (call (.type "enumerate") [.ref l]) Q E s:=by
 obtain⟨⟨c,I,J,sl⟩,L,m,n,B⟩:=H
 replace m:c=.type "tuple":=m
 replace B:J=.seq g n:=B
 subst m B
 refine callType_new ie (by decide) (F.typeCall_enumerate_1 _) (F.newCall_enumerate_1 _) (λobj=>dS obj _) cz
  (Kq l g n I sl) ⟨L,?_⟩
 have C:(s.heap.push { cls:=.type "tuple_iterator",data:=.fields #[.ref l,.int 0 0] }).objs.size=s.heap.objs.size+1:=A9 ..;rw[C]
 have G:JI ((s.heap.push { cls:=.type "tuple_iterator",data:=.fields #[.ref l,.int 0 0] }).push
   { cls:=.type "enumerate",data:=.fields #[.none,.bool false,.ref s.heap.objs.size,Dl 0,.none,.none] }) (s.heap.objs.size+1) s.heap.objs.size 0 .none:=by
  have:=AJ (s.heap.push { cls:=.type "tuple_iterator",data:=.fields #[.ref l,.int 0 0] })
   (o:={ cls:=.type "enumerate",data:=.fields #[.none,.bool false,.ref s.heap.objs.size,Dl 0,.none,.none] }) rfl
  rw[C]at this;exact this
 refine⟨⟨_,G,rfl⟩,h _ G ⟨_,AB _ (AJ _ rfl),rfl,rfl⟩ (by rw[A9,C]) λb o x=>AB _ (AB _ x)⟩
theorem NZ{it t}{i}{g}{x}{Q}(l:s.heap.IsTupleIter it t i)
  (C:s.heap.IsTuple t g) (G:g[i]?=some x)
  (H:∀h',h'.IsTupleIter it t (i+1)->Cr it s.heap h'->Q x { s with heap:=h' }) :
  AZ (AU prog w) A (D6 (.ref it)) Q E s:=by
 obtain⟨o,B,I,m⟩:=id l;obtain⟨N,J,_,O,L⟩:=C;unfold D6
 refine AA (BN l.typeIs FF
  (BM FF l.typeIs Vo ?_ (UH _)))
 show AZ _ _ (field (.ref it) 0 >>= _) _ _ s;refine AA (C2 B m rfl ?_);show AZ _ _ (if (A7 t==B2)=true then _ else _) _ _ s;rw[qY (show ¬((A7 t==B2)=true)from Af)];refine AA (C2 B m rfl ?_);refine AA (FJ J L ?_);simp only[CZ,G];refine AA (Di B m (by simp) (AC ⟨x,rfl,AC (H _ ?_ (Ce ..))⟩))
 exact⟨_,Ba _ B (Ef (CK m _)),(JC ..).trans I,by
  rw[CK m];simp[Dl]⟩
theorem Io{it t}{i}{g}{Q}(C:A.handled=none)
  (l:s.heap.IsTupleIter it t i) (G:s.heap.IsTuple t g) (H:g[i]?=none)
  (I:∀h' e,Ik it s.heap h'->(∃o,h'.get? e=some o/\o.cls=.type "StopIteration")->E (.ref e) { s with heap:=h' }) :
  AZ (AU prog w) A (D6 (.ref it)) Q E s:=by
 obtain⟨o,m,N,B⟩:=id l;obtain⟨O,J,_,P,L⟩:=G;unfold D6
 refine AA (BN l.typeIs FF
  (BM FF l.typeIs Vo ?_ (UH _)))
 show AZ _ _ (field (.ref it) 0 >>= _) _ _ s;refine AA (C2 m B rfl ?_);show AZ _ _ (if (A7 t==B2)=true then _ else _) _ _ s;rw[qY (show ¬((A7 t==B2)=true)from Af)];refine AA (C2 m B rfl ?_);refine AA (FJ J L ?_);simp only[CZ,H];refine AA (HI (AA (Di m B (by simp) ?_)));refine AA ?_;refine AA (A4 ?_ (by size_fits));refine AA (FK (by first | rfl | (simp only[OB];rfl)) ?_);refine A4 ?_ (by size_fits);refine AA (P2 ?_)
 first | rw[show A.in1.handled=none from C] | rw[C]
 refine AA (AC (Ve ?_));exact I _ _ (((Ce ..).extBut.push _).push _) ⟨_,AJ _ rfl,rfl⟩
theorem XW(H:A.handled=none)(it l:AR)(I:l≠it)(g:Array AG) :
  Draws prog w A it [it,l] g.size (λi v=>g[i]?=some v) (λi h=>h.IsTupleIter it l i/\h.IsTuple l g) where
 live:=λ_ _ st=>let ⟨o,m,_⟩:=st.1;⟨o,m⟩
 frame:=λ_ _ _ st B=>⟨st.1.at λo e=>B it (by simp) o e,let ⟨o,m,r⟩:=st.2;⟨o,B l (by simp) o m,r⟩⟩
 item:=λi s Q E C st J=>by
  refine NZ st.1 st.2 (x:=g[i]) (by simp[C]) λL N G=>?_
  exact J _ L s.toks (by simp[C]) ⟨N,st.2.extBut G.extBut I⟩ G
 done:=λs Q E st O=>Io H st.1 st.2 (by simp) O
theorem Lc{e it l:AR}{i:Nat}{g:Array AG}{old:AG}{Q:Option AG->AK->Prop}(G:A.handled=none)
  (B:JI s.heap e it i old) (m:s.heap.IsTupleIter it l i) (H:s.heap.IsTuple l g) (I:g[i]?=none)
  (J:∀h',Ik it s.heap h'->Q none { s with heap:=h' }):AZ (AU prog w) A (Fk (.ref e)) Q E s:=by
 have C:s.TypeIs (.ref e) "enumerate":=⟨_,B,rfl⟩;unfold Fk
 refine AA (DA (BN C HB
  (BM HB C ak ?_ (ZX _))))
 show AZ _ _ (field (.ref e) 2 >>= _) _ _ _;refine AA (C2 B rfl rfl ?_);refine AA (Io G m H I λh' x L N=>?_);obtain⟨o,O,P⟩:=N;refine AA (Fa ⟨o,O,P⟩ JG ?_);exact AC (J _ L)
end
end PySem
namespace L2
theorem Inv.turned2(I:Inv X C L H s)(k:∀b u,b≠e->b≠it->s.heap.get? b=some u->h'.get? b=some u)
  (l:M1 X C H e) (A:M1 X C H it) (G:s.heap.objs.size<=a) (new:C8 X.prog X.w (upd H a o) h' a o):Inv X C L (upd H a o) { s with heap:=h',toks:=t' }:=by
 have B:=I.hok.fresh G
 have J:∀b u,H b=some u->b≠e/\b≠it:=λb u q=>⟨λz=>(by rw[z,l.1]at q;cases q),λz=>(by rw[z,A.1]at q;cases q)⟩
 have out:∀b:AR,b∉[e,it]->b≠e/\b≠it:=λb hb=>⟨λz=>hb (by simp[z]),λz=>hb (by simp[z])⟩
 refine I.step (g':=s.gens) (d':=s.drawn) (λb hb=>?_) (λb o _ _ g q _=>k b o (out b g).1 (out b g).2 q) (λb o _ _ g q _=>⟨o.slots,k b o (out b g).1 (out b g).2 q⟩) (λb o _ q n=>?_)
  (λb o g q=>⟨o,k b o (out b g).1 (out b g).2 q⟩) (λb N q=>by rw[BC (Bl q B)];exact q) (λb o u q=>by rw[BC (Bl q B)];exact q) (λb S q=>⟨#[],by rw[BC (Bl q B),q];simp⟩) (λm O=>?_) (λb u q=>?_) I.bare
 ·have E:b=e∨b=it:=by simpa using hb
  rcases E with z | z
  ·subst z;exact⟨l.2.2.2.1,l.2.1,l.2.2.2.2.1,l.2.2.2.2.2⟩
  ·subst z;exact⟨A.2.2.2.1,A.2.1,A.2.2.2.2.1,A.2.2.2.2.2⟩
 ·rw[BC (Ae (Aa (AS q) G))];exact n
 ·obtain⟨o,P,Q,R,r⟩:=O
  exact⟨o,P,Q,k _ o (Bo l.2.1) (Bo A.2.1) R,r⟩
 ·by_cases hb:b=a
  ·subst hb;rw[BV]at q;cases q;exact new
  ·rw[BC hb]at q
   refine(I.hok b u q).stay (λc v g r=>?_) (λc r=>by rw[BC (Bl r B)];exact r) λc N r=>by rw[BC (Bl r B)];exact r
   have:c≠e/\c≠it:=by
    rcases g with z | z
    ·rw[z];exact J b u q
    ·exact J c _ z
   exact k c v this.1 this.2 r
def Ite(sq:Hp->List V->Prop):It:=
 ⟨λi H=>∃g x,sq H g/\g[i]?=some x,λi H y l=>∃p x,H p=none/\y=.ref p/\l=upd H p (.tup [.int i,x])/\∀g,sq H g->g[i]?=some x,λi H=>∃g,sq H g/\g.length<=i⟩
section
variable{P:BJ}{w:Bs}{K:AE}{elts:List Expr}{x1:Nat}{pos:Pos}
theorem Og{X:Cx}{m:List (AR×Obj)}{G:St}{H:Hp}{s:AK}{E:AG->AK->Prop}{sq:Hp->List V->Prop}{e it:AR}{i:Nat}{x:V}{u:AG}{tk:Nat}{h':Bu}{tn:Nat->Bu->Prop}
  (I:Inv X m G H s) (uM:e≠it) (J:∀b∈[e,it],M1 X m H b) (le:e < s.heap.objs.size) (S:it < s.heap.objs.size) (T:RelV x u) (U:∀xs,sq H xs->xs[i]?=some x)
  (ho:IsEnumOut h' e it ((i:Int)+1) u s.heap.objs.size) (L:h'.get? s.heap.objs.size=some { cls:=.type "tuple",data:=.seq #[.int i tk,u] }) (Y:∀b o,b≠e->b≠it->s.heap.get? b=some o->h'.get? b=some o)
  (Z:∀l,Cr e h' l->(∃old,JI l e it ((i+1:Nat):Int) old)->tn (i+1) l) :
  AZ (AU X.prog X.w) X.A (M3 (.Tuple elts x1 pos) (.ref e) (.ref s.heap.objs.size)) (λ_ N=>∃y B,Inv X m G B N/\RelV y (.ref s.heap.objs.size)/\(Ite sq).yld i H y B/\tn (i+1) N.heap/\∀b∈[e,it],B b=none) E { s with heap:=h',toks:=tk+1 }:=by
 have g:=J e (by simp);have O:=J it (by simp);have Q:=Ae le;have ni:=Ae S
 have new:C8 X.prog X.w (upd H s.heap.objs.size (.tup [.int i,x])) h' s.heap.objs.size (.tup [.int i,x]):=
  ⟨⟨Ap (show 2<=1000 by decide) (by decide),_,L,rfl⟩,[.int i tk,u],.cons ⟨tk,rfl⟩ (.cons T .nil),_,L,rfl,_,rfl⟩
 have I1:=I.turned2 (t':=tk+1) Y g O (AN _) new
 refine wpAny_letOwnedTupleGo_enum ho λl vx uW=>?_
 have R:=uW;have I2:=I1.turned (t':=tk+1) (h':=l) (λb o hb q=>(R.2 b hb).trans q) (by rw[BC Q];exact g.1) g.2.1 g.2.2.2.1 g.2.2.2.2.1 g.2.2.2.2.2;refine⟨.ref s.heap.objs.size,_,I2,rfl,⟨s.heap.objs.size,x,I.hok.fresh (AN _),rfl,rfl,U⟩,Z l R ⟨u,by rw[Int.natCast_add,Int.natCast_one];exact vx⟩,λb hb=>?_⟩
 have C:b=e∨b=it:=by simpa using hb
 rcases C with z | z
 ·rw[z,BC Q];exact g.1
 ·rw[z,BC ni];exact O.1
theorem YE(a e it:AR)(A:e≠it):P0 P w K (.Tuple elts x1 pos) (Ite λH xs=>SqL K H a xs) [e,it] e (λi h=>(∃old,JI h e it i old)/\h.IsListIter it a i) where
 mem:=by simp
 obj:=λi h st b hb=>by
  have B:b=e∨b=it:=by simpa using hb
  rcases B with z | z
  ·subst z
   obtain⟨⟨old,g⟩,_⟩:=st
   exact⟨_,g,λv z=>by
    have S:=z
    cases S⟩
  ·subst z
   obtain⟨_,o,e,c,d⟩:=st;exact⟨o,e,λv z=>by rw[d]at z;cases z⟩
 keep:=λi h Q st k=>⟨st.1.imp λold g=>k e (by simp) _ g,st.2.at λo q=>k it (by simp) o q⟩
 item:=by
  intro X C hw G R i T s U H E I J st L;subst C hw G;obtain⟨xs,x,m,N⟩:=L;obtain⟨Y,O,p,Z⟩:=I.list m;obtain⟨u,hu,ru⟩:=O.get N;obtain⟨⟨old,g⟩,l⟩:=st
  have li:it < s.heap.objs.size:=by obtain⟨o,q,_⟩:=l;exact AS q
  refine wpAny_pyNext_enum_item g l p.isList (by simpa using hu) A λQ ho wz hT hsz hk=>?_
  exact⟨_,rfl,Og (tn:=λi h=>(∃old,JI h e it i old)/\h.IsListIter it a i) I A J (AS g) li ru (λys hy=>by rw[I.list_inj hy m];exact N) ho hT hk λh2 uW vx=>⟨vx,wz.at λo q=>(uW.2 it (Bo A)).trans q⟩⟩
 done:=by
  intro X C hw G R i T s U H E I J st L;subst C hw G;obtain⟨xs,m,N⟩:=L;obtain⟨Y,O,p,Z⟩:=I.list m;obtain⟨⟨old,g⟩,l⟩:=st;obtain⟨f0,f1,f2,f3,f4,f5⟩:=J it (by simp);have hl:=O.length
  exact wpAny_pyNext_enum_end (I.ok.hd R) g l p.isList (by simp;lia) λQ eb=>⟨rfl,I.turned (t':=s.toks) (λb o hb e=>eb b o hb e) f0 f1 f3 f4 f5⟩
 self:=λ_ _ _ _ _ st h=>by
  obtain⟨⟨old,g⟩,_⟩:=st;exact E9 g h
theorem YD(a e it:AR)(m:e≠it)(Z:a≠it)(ϒ:e≠a):P0 P w K (.Tuple elts x1 pos) (Ite λH xs=>SqT K H a xs) [e,it] e (λi h=>(∃old,JI h e it i old)/\h.IsTupleIter it a i) where
 mem:=by simp
 obj:=λi h st b hb=>by
  have G:b=e∨b=it:=by simpa using hb
  rcases G with z | z
  ·subst z
   obtain⟨⟨old,g⟩,_⟩:=st
   exact⟨_,g,λv z=>by
    have z':=z
    cases z'⟩
  ·subst z
   obtain⟨_,o,e,c,d⟩:=st;exact⟨o,e,λv z=>by rw[d]at z;cases z⟩
 keep:=λi h T st k=>⟨st.1.imp λold g=>k e (by simp) _ g,st.2.at λo q=>k it (by simp) o q⟩
 item:=by
  intro X J hw L N i ζ s σ H E I O st Q;subst J hw L;obtain⟨xs,x,B,R⟩:=Q;obtain⟨C,S,p,hz⟩:=I.tuple B;have p':=p;obtain⟨u,U,ru⟩:=S.get R
  have uf:i < C.toArray.size:=by
   have:=(AH.mp U).1;simpa using this
  obtain⟨⟨old,g⟩,l⟩:=st
  have li:it < s.heap.objs.size:=by obtain⟨o,q,_⟩:=l;exact AS q
  refine cX (XW (A:=X.A.in1) (I.ok.hd N) it a Z C.toArray) g ⟨l,p'⟩ uf m (by simp[m,ϒ]) λu' T tk ϓ ho wt hT hsz hk=>?_
  have:u'=u:=by
   have Y:C[i]?=some u':=by simpa using ϓ
   rw[U]at Y;cases Y;rfl
  subst this;exact⟨_,rfl,Og (tn:=λi h=>(∃old,JI h e it i old)/\h.IsTupleIter it a i) I m O (AS g) li ru (λys hy=>by rw[I.tuple_inj hy B];exact R) ho hT hk λh2 uW vx=>⟨vx,wt.1.at λo q=>(uW.2 it (Bo m)).trans q⟩⟩
 done:=by
  intro X J hw L N i ζ s σ H E I O st Q;subst J hw L;obtain⟨xs,B,R⟩:=Q;obtain⟨C,S,p,hz⟩:=I.tuple B;obtain⟨⟨old,g⟩,l⟩:=st;obtain⟨f0,f1,f2,f3,f4,f5⟩:=O it (by simp);have hl:=S.length
  exact Lc (I.ok.hd N) g l (p) (by simp;lia) λT eb=>⟨rfl,I.turned (t':=s.toks) (λb o hb e=>eb b o hb e) f0 f1 f3 f4 f5⟩
 self:=λ_ _ _ _ _ st h=>by
  obtain⟨⟨old,g⟩,_⟩:=st;exact E9 g h
end
section
variable{X:Cx}{E:EW}{e:Expr}{elts:List Expr}{x1:Nat}{p pos zC:Pos}{ta:TA}
def tI(K:AE)(ta:TA):TI:=λm H R=>ta m H λo l=>∃a,o=[.ref a]/\(((∃g,SqL K l a g)/\R (Ite λH g=>SqL K H a g) l)∨((∃g,SqT K l a g)/\R (Ite λH g=>SqT K H a g) l))
theorem jk(T:Gl X "enumerate") (U:X.mg "enumerate" = none) (Y:PA X [e] ta) (Z:AO [e] X.env=[(false,BQ e X.env)]:=by rfl):PI X (.Tuple elts x1 zC) (.Call (.Name "enumerate" p) [e] [] pos) (tI X.K ta):=by
 intro O s σ H R I h;refine Call_ (G5 I T U boot_enumerate (Bc (thn (Y pos O s σ H _ I h) λus g ⟨vs,B,l,r1,C⟩=>?_) Z rfl));obtain⟨a,rfl,C⟩:=C;obtain⟨u,rfl,ru⟩:=vals1 r1;cases ru
 have P:∀{h':Bu} (b:AR),b∈[g.heap.objs.size+1,g.heap.objs.size]->M1 X O B b:=λb hb=>by
  have G:b=g.heap.objs.size+1∨b=g.heap.objs.size:=by simpa using hb
  rcases G with z | z
  ·rw[z];exact l.fpOk (EJ _) (l.hok.fresh (EJ _))
  ·rw[z];exact l.fpOk (AN _) (l.hok.fresh (AN _))
 rcases C with⟨⟨xs,sq⟩,q⟩ | ⟨⟨xs,sq⟩,q⟩
 ·obtain⟨f',rv,J,hz⟩:=l.list sq
  refine call_enumerate_list J.isList λh' A m L N=>E9 A ?_
  exact⟨_,[g.heap.objs.size+1,g.heap.objs.size],_,_,B,rfl,l.kept (t':=g.toks) N,YE a _ _ (QU _),⟨⟨_,A⟩,m⟩,P (h':=h'),q⟩
 ·obtain⟨f',rv,J,hz⟩:=l.tuple sq
  have Q:=J
  have S:a < g.heap.objs.size:=by obtain⟨o,q,_⟩:=Q;exact AS q
  refine K7 Q λh' A m L N=>E9 A ?_
  exact⟨_,[g.heap.objs.size+1,g.heap.objs.size],_,_,B,rfl,l.kept (t':=g.toks) N,YD a _ _ (QU _) (Ae S) (DO (CD S)),⟨⟨_,A⟩,m⟩,P (h':=h'),q⟩
noncomputable def Y3(ds:List D):List D:=ds.zipIdx.map λx=>.tup [.int x.2,x.1]
def db(v:On):On:=λS=>(v S).map Y3
def RO(m:ME):MI:=λe S=>(m e S).bind λd g=>match Kb d g with
 | some _=>.ok (db (Kb d)) g
 | none=>.bad
theorem Re(ds:List D)(i:Nat):(Y3 ds)[i]?=(ds[i]?).map λd=>.tup [.int i,d]:=by
 unfold Y3;rw[Ak,ZU]
 cases ds[i]? <;> simp
theorem Oz{K}{ρ}{H}{J}{v}{sq}(O:Js K ρ H J v)(P:∀i H,J.go i H->∃xs x,sq H xs/\xs[i]?=some x)(Q:∀i H,J.stop i H->∃xs,sq H xs/\xs.length<=i)
  (R:∀i H x,(∀xs,sq H xs->xs[i]?=some x)->J.yld i H x H):Js K ρ H (Ite sq) (db v):=by
 intro C m S ds i l s o;unfold db at o
 cases G:v S with
 | none=>rw[G]at o;cases o
 | some g=>
  rw[G]at o;cases o;obtain⟨T,U⟩:=O C m S g i l s G;refine⟨λI=>?_,λd A=>?_⟩
  ·rw[Re]at I
   refine Q i m (T ?_)
   cases B:g[i]? with
   | none=>rfl
   | some d=>rw[B]at I;cases I
  ·rw[Re]at A
   cases B:g[i]? with
   | none=>rw[B]at A;cases A
   | some Y=>
    rw[B]at A;cases A;obtain⟨Z,b2⟩:=U Y B;refine⟨P i m Z,λy H' hy=>?_⟩;obtain⟨p,x,hp,rfl,rfl,hx⟩:=hy;obtain⟨L,l3,s3,r3⟩:=b2 x m (R i m x hx);obtain⟨s4,N⟩:=Fn s3 hp;exact⟨L,l3.trans N,s4,.tup BV (.cons (.int _) (.cons (r3.mono N) .nil))⟩
theorem QH(L:Gl X "enumerate") (g:X.mg "enumerate" = none) (h:GE X E e m) (C:AO [e] X.env=[(false,BQ e X.env)]:=by rfl):GI X E (.Tuple elts x1 zC) (.Call (.Name "enumerate" p) [e] [] pos) (RO m):=
 (jk L g (De h E5 C) C).imp<|by
 rintro σ H R ⟨N,l,S,O,P,g⟩
 refine⟨N,l,S,O,P,g.seq λd Q g o G x I B s=>?_⟩
 cases d with
 | tup T=>
  have U:=g
  cases s with
  | @tup _ a Y J Z=>
   exact⟨a,rfl,.inr ⟨⟨Y,.inl (.inl J)⟩,U o G _ I B (Oz (Qd J Z) (λi H z=>z) (λi H z=>z) λi H x z=>⟨rfl,z⟩)⟩⟩
 | _=>
  cases A:Kb _ Q with
  | none=>rw[A]at g;exact g.elim
  | some T=>
   rw[A]at g
   have:∃a,x=.ref a:=by
    cases s <;> first | exact⟨_,rfl⟩ | (cases A;done)
   obtain⟨a,rfl⟩:=this;obtain⟨xs,sq,_⟩:=NH B s A;exact⟨a,rfl,.inl ⟨⟨xs,sq⟩,g o G _ I B (Oz (MQ s) (λi H z=>z) (λi H z=>z) λi H x z=>⟨rfl,z⟩)⟩⟩
end
section
theorem Z3{s:AK}{o:Obj}{h':Bu}(g:∀b u,b∉[s.heap.objs.size]->(s.heap.push o).get? b=some u->h'.get? b=some u):∀b u,s.heap.get? b=some u->h'.get? b=some u:=λb u e=>
 g b u (λl=>zX (A1.mp l▸AS e) (CN _)) (AB _ e)
theorem mD{s:AK}{o:Obj}{l:AR}(m:l < s.heap.objs.size):∀b∈[s.heap.objs.size,l],b < (s.heap.push o).objs.size:=λb hb=>by
 rw[A9]
 have g:b=s.heap.objs.size∨b=l:=by simpa using hb
 rcases g with rfl | rfl
 ·exact Bx _
 ·exact CD m
end
theorem ZC{g:Type}{xs:List g}{j:Int}{x:g}(l:0<=j)(h:xs[j.toNat]?=some x):atI xs j=some x:=by
 have m:=(AH.mp h).1;unfold atI ixN;rw[qX (by omega),qX (by lia)];simpa using h
theorem pj{g:Type}(xs:List g){k:Nat}(h:k<=xs.length):Iz xs none (some (k:Int))=xs.take k:=by
 unfold Iz;rw[HT.Uf,HT.Q0,SK h];simp
theorem lE{P:AR->Prop}:∀C∈([]:List AR),P C:=λ_ h=>zX h DR
theorem all_cons{P:AR->Prop}{a:AR}{l:List AR}(h:P a)(t:∀C∈l,P C):∀C∈a :: l,P C:=λC g=>by
 rcases Ax.mp g with e | g
 ·rw[e];exact h
 ·exact t C g
theorem ss{g:Type}:∀{l:List g},l.length=1->∃x1,l=[x1]
 | [a],_=>⟨a,rfl⟩
theorem sr{m:Type}:∀{l:List m},l.length=2->∃x1 g,l=[x1,g]
 | y :: _,q=>by
  obtain⟨g,rfl⟩:=ss (G8 q);exact⟨y,g,rfl⟩
theorem len3{o:Type}:∀{l:List o},l.length=3->∃x1 g m,l=[x1,g,m]
 | y :: _,q=>by
  obtain⟨g,m,rfl⟩:=sr (G8 q);exact⟨y,g,m,rfl⟩
theorem sk{s:Type}:∀{l:List s},l.length=4->∃x1 g m o,l=[x1,g,m,o]
 | y :: _,q=>by
  obtain⟨g,m,o,rfl⟩:=len3 (G8 q);exact⟨y,g,m,o,rfl⟩
theorem len5{A:Type}:∀{l:List A},l.length=5->∃x1 g m o s,l=[x1,g,m,o,s]
 | y :: _,q=>by
  obtain⟨g,m,o,s,rfl⟩:=sk (G8 q);exact⟨y,g,m,o,s,rfl⟩
section
def Ug(i:Nat)(g:Int->Int->Int)(m:ME):MS:=λe S=>match e[i]? with
 | some (some (.int x))=>(m e S).lift e λd l=>match d with
  | .int y=>.ok (.nx (e.set i (some (.int (g x y))))) l
  | _=>.bad
 | _=>.bad
theorem pC(G:X.N.Nodup)(hi:X.N[i]?=some x)(I:Loc X.env.scope x)(J:PIp X op (ipI g))(L:GE X E e m)
  (O:X.fn x=true∨X.env.scope.names.lookup x=some .local:=by first | exact .inl rfl | exact .inr rfl | assumption):GS X E (.AugAssign (.Name x B) op e pos) (Ug i g m):=(ng G hi I L J O).imp<|by
 rintro D σ H ⟨P,l,S,s,Q,o⟩
 unfold Ug at o;split at o
 ·rename_i n R
  obtain⟨v,T,U⟩:=s.at' i _ R;cases U;refine⟨_,T,P,l,S,s,Q,o.lift s .refl λd S1 o A Y y C Z r1=>?_⟩
  cases d with
  | int y=>cases r1;exact⟨n,y,rfl,rfl,o A Y _ C Z ((s.mono C).set (.int _) i)⟩
  | _=>exact o.elim
 ·exact o.elim
end
section
noncomputable def Km(lo:Int)(n:Nat):List V:=(CV n).map λk:Nat=>V.int (lo+k)
theorem WW{lo}:∀{n:Nat} {g:List AG},g.length=n->(∀(k:Nat) v,g[k]?=some v->∃t,v=.int (lo+k) t)->BL (Km lo n) g
 | 0,g,l,_=>by
  have:g=[]:=HA l;subst this;exact .nil
 | n+1,g,l,h=>by
  cases g with
  | nil=>cases l
  | cons v r=>
   have m:=G8 l;obtain⟨t,e⟩:=h 0 v rfl
   have o:=WW (lo:=lo+1) m λk v s=>by
    obtain⟨t,e⟩:=h (k+1) v s;exact⟨t,by rw[e];congr 1;lia⟩
   have A:Km lo (n+1)=.int lo :: Km (lo+1) n:=by
    unfold Km;rw[Xf,A2,Cq]
    congr 1
    ·congr 1;lia
    ·apply DK
     intro k _;show V.int (lo+((k+1:Nat):Int))=V.int (lo+1+k)
     congr 1
     lia
   rw[A];refine .cons ⟨t,?_⟩ o;rw[e]
   congr 1
   lia
theorem jS{K}{ρ}{H}(lo:Int)(n:Nat):Ao K ρ H (Lw lo n) (Km lo n):=by
 unfold Lw Km
 induction CV n with
 | nil=>exact .nil
 | cons k r g=>exact .cons (.int _) g
end
end L2
namespace PySem
open PySem.Sem (wp)
open PyProof.Rows (IntsAre)
section
variable{E:AG->AK->Prop}
theorem VJ{R:mP->AK->Prop}{r:AR}{a b c:Int}{t u v:Tok}{n:Nat}(C:A.handled=none)(G:qT s.heap r a b c t u v)(H:Dc a b c=true)(I:BR a b c=n)(J:n<=2 ^ 24)
  (hR:∀(h':Bu) (tk:Nat) (g:Array AG) (B:Nat),(∀b o,s.heap.get? b=some o->h'.get? b=some o)->h'.get? s.heap.objs.size=some { cls:=.type "list",data:=.seq g B }->qS (λi v=>∃t,v=.int (a+i * c) t) g n->R (.ok (.ret (.ref s.heap.objs.size))) { s with heap:=h',toks:=tk }) :
  FB (AU prog w) A (.builtin "proto.collect" ⟨[.ref r],[]⟩) R s:=by
 refine B0 F.entry_proto_collect ?_;rw[Bh F.plain_proto_collect _];show AZ _ A.in1 (newList [] >>= λl=>again (.builtin "list.__iadd__" ⟨[l,.ref r],[]⟩)) _ _ s;refine AA (A4 (AC ⟨DB lT _,B0 F.entry_list_iadd ?_⟩));rw[Bh lT _];show AZ _ A.in1 (Gi (.ref s.heap.objs.size) (.ref r) (.ref s.heap.objs.size)) _ _ _;have m:(s.heap.push { cls:=.type "list",data:=.seq ([]:List AG).toArray }).get? s.heap.objs.size=some { cls:=.type "list",data:=.seq #[] 0 }:=AJ _ rfl
 exact wpAny_extend_range C (AB _ G) H I J s.heap.objs.size (.ref s.heap.objs.size) 0 m λh' tk g B L N O=>
  hR h' tk g B (λb o e=>L b o (Ae (AS e)) (AB _ e)) N O
theorem XF{Q:List AG->AK->Prop}{r:AR}{a b c:Int}{t u v:Tok}{n:Nat}(l:A.handled=none)(m:qT s.heap r a b c t u v)(B:Dc a b c=true)(C:BR a b c=n)(G:n<=2 ^ 24)
  (H:∀(h':Bu) (tk:Nat) (g:Array AG),(∀b o,s.heap.get? b=some o->h'.get? b=some o)->qS (λi v=>∃t,v=.int (a+i * c) t) g n->Q g.toList { s with heap:=h',toks:=tk }):AZ (AU prog w) A (dF (.ref r)) Q E s:=by
 unfold dF;refine AA (N9 (VJ l m B C G λh' tk g N I J L=>?_));exact AA (Xm J (AC (H h' tk g I L)))
theorem Rj{Q₁:AG->AK->Prop}{r:AR}{a b c:Int}{t u v:Tok}{n:Nat}(G:A.handled=none)(B:qT s.heap r a b c t u v)(H:Dc a b c=true)(I:BR a b c=n)(J:n<=2 ^ 24)(hsz:n<=sizeLine)
  (h:∀(h':Bu) (tk:Nat) (acc:Array AG),(∀b o,s.heap.get? b=some o->h'.get? b=some o)->qS (λi v=>∃t,v=.int (a+i * c) t) acc n->Q₁ (.ref h'.objs.size) { s with heap:=h'.push { cls:=.type "tuple",data:=.seq acc },toks:=tk }) :
  FB (AU prog w) A (.call (.builtin "tuple.__new__") ⟨[.type "tuple",.ref r],[]⟩) (qI Q₁ E) s:=by
 refine IK ?_;refine AA (FK (F.newCall_tuple_1 _) (AC ⟨DB lS _,B0 F.entry_tuple_new ?_⟩));rw[Bh lS _];have O:=sub_tuple_self;have g:=init_tuple_lookup;have L:=madeHere_tuple;have l:s.TypeIs (.ref r) "range":=⟨_,B,rfl⟩
 have m:A.in1.handled=none:=by simp[G]
 wp_walk using MC l,XF m B H I J
 intro h' tk acc N C;show AZ _ _ (Cu acc.toList.toArray >>= λv=>ret v) _ _ _;unfold Cu;refine AA (A4 ?_ (by show acc.toList.toArray.size<=sizeLine;simp only[Array.toArray_toList];rw[C.1];exact hsz));refine AC ?_
 have e:acc.toList.toArray=acc:=by simp
 rw[e];exact h h' tk acc N C
theorem Rm{Q:AG->AK->Prop}{r:AR}{a b c:Int}{t u v:Tok}{n:Nat}(B:A.handled=none)(C:qT s.heap r a b c t u v)(G:Dc a b c=true)(H:BR a b c=n)(I:n<=2 ^ 24)(hsz:n<=sizeLine)
  (J:∀(h':Bu) (tk:Nat) (m:Array AG),(∀b o,s.heap.get? b=some o->h'.get? b=some o)->qS (λi v=>∃t,v=.int (a+i * c) t) m n->Q (.ref h'.objs.size) { s with heap:=h'.push { cls:=.type "tuple",data:=.seq m },toks:=tk }) :
  AZ (AU prog w) A (call (.type "tuple") [.ref r]) Q E s:=by
 refine callType_codes (Q₁:=λobj g=>g.TypeIs obj "tuple"/\Q obj g) V0 (F.typeCall_tuple_1 _) iG
  (Rj B C G H I hsz λh' tk m L N=>⟨⟨_,AJ _ rfl,rfl⟩,J h' tk m L N⟩) λobj g l=>?_
 exact⟨l.1,dS obj _,object_init_meets V0.init.lookup V0.made (by decide) prog w A.in1 _ g ⟨l.1,rfl,l.2⟩⟩
end
end PySem
namespace L2
section
variable{X:Cx}{E:EW}{ml:ML}
theorem Kn{K}{ρ}{H}:∀{g:ZLi} {vs:List V},Ao K ρ H (g.map D.int) vs->vs=g.map V.int
 | [],_,.nil=>rfl
 | n :: g,_,.cons r t=>by
  cases r;rw[Kn t];rfl
theorem WB{C:List (AR×Obj)}{G:St}{H:Hp}{s:AK}{Q:VK}{i j:Int}{t u v:Tok}{tk:Nat}(P:X.calm=true)(I:Inv X C G H s)(l:-1000000<=i/\i<=1000000/\-1000000<=j/\j<=1000000)
  (q:∀q,H q=none->Q (.ref q) (upd H q (.tup (Km i (j - i).toNat)))) :
  AZ (AU X.prog X.w) X.A (call (.type "tuple") [.ref s.heap.objs.size]) (EP X C G Q) X.xe { s with heap:=s.heap.push { cls:=.type "range",data:=.fields #[.int i t,.int j u,.int 1 v] },toks:=tk }:=by
 obtain⟨l,R,S,T⟩:=l
 have U:BR i j 1=((j - i).toNat:Nat):=by rw[rangeSize_one];split <;> lia
 have m:(j - i).toNat<=2000000:=by lia
 refine Rm (I.ok.hd P) (Vz ..) (small_one (si l) (tJ R) (si S) (tJ T)) U (Ap m (by decide)) (Ap m (by decide)) λJ Y g L B=>?_
 have k:∀b o,s.heap.get? b=some o->(J.push { cls:=.type "tuple",data:=.seq g }).get? b=some o:=λb o e=>AB _ (L b o (AB _ e))
 have N:BL (Km i (j - i).toNat) g.toList:=WW (by have:=B.1;simpa using this) λk v Z=>by
  obtain⟨t,e⟩:=B.2 k v (by simpa using Z);exact⟨t,by rw[e];congr 1;lia⟩
 have O:s.heap.objs.size<=J.objs.size:=by
  have:=L s.heap.objs.size _ (AJ s.heap rfl);exact KU (AS this)
 refine⟨.ref _,upd H _ (.tup (Km i (j - i).toNat)),I.laid (t':=Y) k O ?_,rfl,q _ (I.hok.fresh O)⟩;refine⟨⟨?_,_,AJ _ rfl,rfl⟩,g.toList,N,_,AJ _ rfl,rfl,0,by simp⟩;rw[N.length,show g.toList.length=(j - i).toNat by have:=B.1;simpa using this];exact Ap m (by decide)
def lW(m:TA):TE:=λo H Q=>m o H λg l=>∃i j:Int,(g=[.int i,.int j]∨g=[.int j]/\i=0)/\(-1000000<=i/\i<=1000000/\-1000000<=j/\j<=1000000)/\∀q,l q=none->Q (.ref q) (upd l q (.tup (Km i (j - i).toNat)))
theorem fA(o:X.calm=true)(L:Gl X "tuple") (N:X.mg "tuple" = none) (O:Gl X "range") (m:X.mg "range" = none) (P:PA X [a] R)
  (S:AO [a] X.env=[(false,BQ a X.env)]:=by rfl)
  (A:AO [.Call (.Name "range" B) [a] [] g] X.env=(false,BQ (.Call (.Name "range" B) [a] [] g) X.env) :: AO [] X.env:=by rfl) :
  PE X (.Call (.Name "tuple" p) [.Call (.Name "range" B) [a] [] g] [] pos) (lW R):=by
 intro T s U H Q I Y;refine C9 (G5 I L N PQ ?_ (by decide) (by decide));refine Bc ?_ A rfl;rw[A];refine NC ?_;refine Call_ (G5 I O m Xs (Bc (thn (P g T s U H _ I Y) λus s1 ⟨vs,H1,C,G,Z⟩=>?_) S rfl));obtain⟨i,j,e,J,q⟩:=Z
 rcases e with e | ⟨e,rfl⟩
 ·subst e
  cases G with
  | cons r l=>
   cases l with
   | cons r' l=>
    cases l;obtain⟨t,rfl⟩:=r;obtain⟨t',rfl⟩:=r';exact call_range_2 (Ie (WB o C J q))
 ·subst e
  cases G with
  | cons r l=>
   cases l;obtain⟨t,rfl⟩:=r;exact call_range_1 (Ie (WB o C J q))
def rf(ds:List D)(S:Sto):Res D:=match ds with
 | [.int i,.int j]=>if -1000000<=i/\i<=1000000/\-1000000<=j/\j<=1000000 then .ok (.tup (Lw i (j - i).toNat)) S else .bad
 | [.int j]=>if -1000000<=j/\j<=1000000 then .ok (.tup (Lw 0 j.toNat)) S else .bad
 | _=>.bad
def fS(ml:ML):ME:=λe S=>(ml e S).bind rf
theorem du{es:List Expr}{A:St}{H:Hp}{Q:VK}(h:gE X.K E (fS ml) A H Q):lW (gA X.K E ml) A H Q:=by
 obtain⟨B,l,S,I,J,g⟩:=h;refine⟨B,l,S,I,J,g.seq λds L g N C xs O P G=>?_⟩
 have fin:∀(i j:Int),(Br X.K (λc=>E c A) B H (Res.ok (.tup (Lw i (j - i).toNat)) L) λd R=>∀m s x,Le X.K B H m s->Bz X.K m R s->Bf X.K m s d x->Q x s)->∀q,C q=none->Q (.ref q) (upd C q (.tup (Km i (j - i).toNat))):=λi j g q T=>by
  obtain⟨U,Y⟩:=Fn P T;exact g _ _ _ (O.trans Y) U (.tup BV (jS _ _))
 unfold rf at g;split at g
 ·rename_i i j
  split at g
  ·rename_i hb
   cases G with
   | cons r o=>
    cases o with
    | cons Z o=>
     cases o;cases r;cases Z;exact⟨i,j,.inl rfl,hb,fin i j g⟩
  ·exact g.elim
 ·rename_i j
  split at g
  ·rename_i hb
   cases G with
   | cons r o=>
    cases o;cases r;exact⟨0,j,.inr ⟨rfl,rfl⟩,⟨by lia,by lia,hb.1,hb.2⟩,fin 0 j (by rw[Int.sub_zero];exact g)⟩
  ·exact g.elim
 ·exact g.elim
theorem gN(o:X.calm=true)(s:Gl X "tuple") (A:X.mg "tuple" = none) (B:Gl X "range") (l:X.mg "range" = none) (C:GA X E [a] ml)
  (G:AO [a] X.env=[(false,BQ a X.env)]:=by rfl)
  (H:AO [.Call (.Name "range" m) [a] [] g] X.env=(false,BQ (.Call (.Name "range" m) [a] [] g) X.env) :: AO [] X.env:=by rfl) :
  GE X E (.Call (.Name "tuple" p) [.Call (.Name "range" m) [a] [] g] [] pos) (fS ml):=(fA o s A B l C G H).imp λ_ _ _ h=>du (es:=[]) h
end
end L2
namespace PySem
open PySem.Sem (wp)
section
variable{w:Bs}{A:BX}{E:AG->AK->Prop}{s:AK}
theorem Wm(C:mG (.type T) "__init__" = pure (some (.builtin "object.__init__"))) (G:Bind.madeBy (.type T)=pure (some newId)) (H:(some newId != some "object.__new__")=true) (l:(!rest.isEmpty||!m.isEmpty)=true) :
  Meets (Builtin.«object.__init__» ⟨self :: rest,m⟩) (λ_ R s=>s.TypeIs self T/\R (.ok (.ret .none)) s):=by
 refine Meets.of_wp λg w A R s o=>?_
 obtain⟨I,B⟩:=o;unfold Builtin.«object.__init__»;dsimp only;rw[qX l];(repeat(any_goals (first | assumption | wp_step)));exact⟨_,rfl,B⟩
theorem Y5(m:TypeCalled T newId "object.__init__") (O:(some newId != some "object.__new__")=true) (P:(!args.isEmpty||!B.isEmpty)=true)
  (U:checkTypeCall T ⟨args,B⟩=pure ()) (X:qj newId ⟨.type T :: args,B⟩=pure ()) (H:∀obj,dG "object.__init__" ⟨obj :: args,B⟩) (Y:iP table newId=some Bn) (g:Meets (Bn ⟨.type T :: args,B⟩) S)
  (h:S A.in1 (qI (λobj l=>l.TypeIs obj T/\Q obj l) E) s):AZ (AU prog w) A (call (.type T) args B) Q E s:=by
 obtain⟨c,tl,zt⟩:=m.mro;have xA:=m.made;have uX:=m.sub;refine JE (IK ?_);show AZ _ _ (callAny (.type T) _) _ _ _;refine AC ⟨N7 _ (by decide +kernel),B0 QW ?_⟩;rw[M7 (M9 T args B) (units_type_call_type T args B)];have h1:=m.notType;have h2:=m.canCreate;(repeat(any_goals (first | assumption | wp_step)))
 refine DY (FM m.plain Y (FK X (g prog w A.in1 _ s h))) λr l I=>?_
 cases r with
 | error e=>exact I
 | ok Z=>
  cases Z with
  | ret obj=>
   obtain⟨L,N⟩:=I;have hli:=m.init.lookup;have hbi:=m.init.bind obj;(repeat(any_goals (first | assumption | wp_step)))
   refine DY (FM (R:=qI (λr o=>r=.none/\Q obj o) E) m.init.plain iG (m.init.check _ _ _ _ _ _ _ _ L (H obj) (Wm m.init.lookup m.made O P prog w A.in1 _ l ⟨L,rfl,N⟩))) λG o J=>?_
   cases G with
   | error e=>exact J
   | ok C=>
    cases C with
    | ret r=>
     obtain⟨rfl,N⟩:=J;(repeat(any_goals (first | assumption | wp_step)))
    | _=>exact J.elim
  | _=>exact I.elim
end
end PySem
namespace L2
section
variable{E:EW}{e:Expr}{pos:Pos}
theorem Pz{M}{A}{E}{s}{g}{pos}{T}{e}{rest}{kws}{Q}
  (h:AZ M A (qK (CT pos (AO (e :: rest) g))) (λvs l=>AZ M A (evalAll ((FN pos (DH kws g)).map (·.2)))
   (λC m=>AZ M A (call (.type T) vs (((FN pos (DH kws g)).filterMap (·.1)).zip C)) Q E m) E l) E s)
  (G:CT pos (AO (e :: rest) g)=(false,BQ e g) :: CT pos (AO rest g)) (H:(CT pos (AO (e :: rest) g)).any (·.1)=false)
  (I:(FN pos (DH kws g)).all (·.1.isSome)=true) (B:(FN pos (DH kws g)).any (·.1.isNone)=false) :
  AZ M A (iR pos (.type T) [] (CT pos (AO (e :: rest) g)) (FN pos (DH kws g))) Q E s:=by
 have J:AZ M A (evalArgs (.type T) true (CT pos (AO (e :: rest) g)) (FN pos (DH kws g))) (λa l=>AZ M A (call (.type T) ([]++a.pos) a.kw) Q E l) E s:=by
  rw[G]at h ⊢;exact evalArgs_kwB I h
 unfold iR;refine AA (Bq (Ci J (λa l o=>AA (aW ?_)) λ_ _ x=>x));simp only[H,B,Vp];exact AA (AC (AA (Ci o (λr m L=>AA (Bq (wpAny_point (AC L)))) λ_ _ x=>x)))
end
section
def ltT(x y:D)(S:Sto):Res D:=match x,y with
 | .tup g,.tup l=>match Iq g,Iq l with
  | some i,some j=>.ok (.bl (HT.lexLt i j)) S
  | _,_=>.bad
 | _,_=>.bad
theorem oU(O:X.A.units+64 < Dm):OpR X (BH .Lt) (rD X.K ltT):=(oJ (by lia)).imp<|by
 rintro x y H Q ⟨B,S,d1,d2,d,P,C,l,m,g,k⟩
 unfold ltT at g;split at g
 ·split at g
  ·rename_i E G
   cases g;rw[Gu E]at l;rw[Gu G]at m
   cases l with
   | @tup _ I R o J=>
    cases m with
    | @tup _ L T s N=>
     rw[Kn J]at o;rw[Kn N]at s;exact⟨I,L,_,_,rfl,rfl,.inl (.inl o),.inl (.inl s),k B H _ .refl C (.bl _)⟩
  ·cases g
 ·cases g
end
def Itd(lo:Int)(n:Nat):It:=⟨λi _=>i < n,λi H x g=>g=H/\x=.int (lo - i),λi _=>n<=i⟩
theorem V9{P}{w}{K}{T}(it:AR)(lo:Int)(n:Nat):P0 P w K T (Itd lo n) [it] it (λi h=>ic h it (lo+(i:Nat) * -1) ((n:Int) - (i:Nat)) (-1)) where
 mem:=by simp
 obj:=λi h st b hb=>by
  have e:b=it:=by simpa using hb
  subst e
  exact⟨_,st,λv z=>by
   have U:=z
   cases U⟩
 keep:=λi h m st k=>k it (by simp) _ st
 item:=by
  intro X A hw B C i R s S H E I l st G;subst A hw B;obtain⟨J,L,f2,N,O,Q⟩:=l it (by simp);have W:=qO (prog:=X.prog) (w:=X.w) (I.ok.hd C) it lo (-1) n
  refine W.item i s _ _ G st λv m tk Y g Z=>?_
  obtain⟨t,rfl⟩:=Y;have I1:Inv X R S H { s with heap:=m,toks:=tk }:=I.turned (λb o hb e=>Z b o (by simpa using hb) e) J L N O Q;refine⟨_,rfl,Tq g rfl rfl (by decide) ⟨.int (lo - i),H,I1,⟨t,?_⟩,⟨rfl,rfl⟩,g,λb hb=>(l b hb).1⟩⟩
  congr 1
  lia
 done:=by
  intro X A hw B C i R s S H E I l st G;subst A hw B;obtain⟨J,L,f2,N,O,Q⟩:=l it (by simp)
  exact dA (I.ok.hd C) st (by have:n<=i:=G;lia) λm eb=>⟨rfl,I.turned (t':=s.toks) (λb o hb e=>eb b o hb e) J L N O Q⟩
 self:=λ_ _ _ _ _ st h=>dB st h
theorem WJ(i j:Int):BR i j (-1)=if i > j then i - j else 0:=by
 unfold BR;rw[qY (by decide),show(-(-1):Int)=1 by decide,qw]
 split <;> lia
theorem eI(g:-1000000<=i)(l:i<=1000000)(m:-1000000<=j)(o:j<=1000000):Dc i j (-1)=true:=by
 unfold Dc;rw[WJ];simp only[rC,Bv,R8,decide_eq_true_eq,beq_iff_eq,show ¬((-1:Int) > 0) by decide,if_false]
 split <;> lia
theorem jH(i j:Int):BR i j (-1)=(((i - j).toNat:Nat):Int):=by
 rw[WJ]
 split <;> lia
section
def tD(g:TA):TI:=λl H R=>g l H λm o=>∃i j:Int,m=[.int i,.int j,.int (-1)]/\(-1000000<=i/\i<=1000000/\-1000000<=j/\j<=1000000)/\R (Itd i (i - j).toNat) o
theorem bP(L:Gl X "range") (N:X.mg "range" = none) (O:PA X [a,b,c] P) (Q:AO [a,b,c] X.env=[(false,BQ a X.env),(false,BQ b X.env),(false,BQ c X.env)]:=by rfl) (C:AO [b,c] X.env=[(false,BQ b X.env),(false,BQ c X.env)]:=by rfl) :
  PI X tg (.Call (.Name "range" p) [a,b,c] [] pos) (tD P):=by
 intro E s G H R I h;refine Call_ (G5 I L N Xs (Bc (thn (O pos E s G H _ I h) λus g ⟨vs,J,S,T,U⟩=>?_) (by rw[Q,C]) (by rw[C];rfl)));obtain⟨i,j,e,⟨Y,Z,b3,b4⟩,q⟩:=U;subst e
 cases T with
 | cons r l=>
  cases l with
  | cons r' l=>
   cases l with
   | cons m l=>
    cases l;obtain⟨t,rfl⟩:=r;obtain⟨t',rfl⟩:=r';obtain⟨A,rfl⟩:=m;refine call_range_3 (by decide) ?_ (Ia (UA (by decide)));refine mE (Vz ..) (eI Y Z b3 b4) ?_
    have B:Inv X E G J { g with heap:=g.heap.push { cls:=.type "range",data:=.fields #[.int i t,.int j t',.int (-1) A] },toks:=g.toks }:=S.kept λb o e=>AB _ e
    refine⟨_,[(g.heap.push { cls:=.type "range",data:=.fields #[.int i t,.int j t',.int (-1) A] }).objs.size],_,_,J,rfl,B.kept (t':=g.toks) λb o e=>AB _ e,V9 _ i (i - j).toNat,?_,λb hb=>?_,q⟩
    ·have e1:i+((0:Nat):Int) * -1=i:=by lia
     have e2:(((i - j).toNat:Nat):Int) - ((0:Nat):Int)=BR i j (-1):=by rw[jH];lia
     rw[e1,e2];exact AJ _ rfl
    ·have e:b=(g.heap.push { cls:=.type "range",data:=.fields #[.int i t,.int j t',.int (-1) A] }).objs.size:=by simpa using hb
     subst e;exact B.fpOk (AN _) (B.hok.fresh (AN _))
def pZ(lo:Int)(n:Nat):List D:=(CV n).map λi:Nat=>D.int (lo - i)
def iRD(g:ML):MI:=λe S=>(g e S).bind λl m=>match l with
 | [.int i,.int j,.int k]=>if k = -1/\-1000000<=i/\i<=1000000/\-1000000<=j/\j<=1000000 then .ok (Lr (pZ i (i - j).toNat)) m else .bad
 | _=>.bad
theorem bv(J:Gl X "range") (g:X.mg "range" = none) (L:GA X E [a,b,c] N) (A:AO [a,b,c] X.env=[(false,BQ a X.env),(false,BQ b X.env),(false,BQ c X.env)]:=by rfl) (O:AO [b,c] X.env=[(false,BQ b X.env),(false,BQ c X.env)]:=by rfl) :
  GI X E tg (.Call (.Name "range" p) [a,b,c] [] pos) (iRD N):=(bP J g L A O).imp<|by
 rintro σ H R ⟨P,l,S,Q,A,g⟩
 refine⟨P,l,S,Q,A,g.seq λT S1 g B U xs Y Z r1=>?_⟩;split at g
 ·rename_i i j k
  split at g
  ·rename_i hb
   obtain⟨rfl,hb⟩:=hb
   cases r1 with
   | cons r o=>
    cases o with
    | cons r' o=>
     cases o with
     | cons C o=>
      cases o;cases r;cases r';cases C;refine⟨i,j,rfl,hb,g B U _ Y Z ?_⟩;intro G H2 S2 T k l2 s2 hv;cases hv
      have e:∀k:Nat,(pZ i (i - j).toNat)[k]?=if k < (i - j).toNat then some (.int (i - k))else none:=λk=>by
       unfold pZ;rw[Ak]
       by_cases m:k < (i - j).toNat
       ·rw[qX m,HJ m];rfl
       ·rw[qY m,BZ (by rw[dN];lia)];rfl
      rw[e];refine⟨λI=>?_,λd s=>?_⟩
      ·show(i - j).toNat<=k
       by_cases m:k < (i - j).toNat
       ·rw[qX m]at I;cases I
       ·lia
      ·by_cases m:k < (i - j).toNat
       ·rw[qX m]at s
        cases s;refine⟨m,λy H' ⟨e1,e2⟩=>?_⟩;subst e1 e2;exact⟨G,.refl,s2,.int _⟩
       ·rw[qY m]at s;cases s
  ·exact g.elim
 ·exact g.elim
end
theorem gb{P}{w}{K}{g}{base}{CX}{k n}{f}{fd}{l}:Bm P w K g base CX k f fd l (spM K n λ_ _=>.bad):=
 ⟨λ_ _ _ _ ⟨_,_,_,_,_,_,h⟩=>h.elim,λ_ _ _ _ _ _ _ _ _ _ _ _ _ ⟨_,_,_,_,_,_,h⟩=>h.elim⟩
section
instance(i j:Int):Decidable ((λ_ j:Int=>0<=j) i j):=inferInstanceAs (Decidable (0<=j))
abbrev WL:=intOp qD λi j=>.int (i * 2 ^ j.toNat)
abbrev jJ:=intOp (λ_ j=>0<=j) λi j=>.int (i / 2 ^ j.toNat)
abbrev XU:=intOp (λ_ _=>True) λi j=>.int (HK i j)
theorem Mp:OpR X (Cd .LShift) (rD X.K WL):=OW (λ_ _ _ _=>.int _) oG
theorem Yk:OpR X (Cd .RShift) (rD X.K jJ):=OW (λ_ _ _ _=>.int _) oF
theorem Mq:OpR X (Cd .BitAnd) (rD X.K XU):=LH (λ_ _ _ _=>.int _) oO
theorem aC:PIp X .BitOr (ipI λi j=>IN i j):=by
 intro A s B H x y v u Q I g l h;obtain⟨i,j,m,o,q⟩:=h;subst m;subst o;obtain⟨a,rfl⟩:=g;obtain⟨b,rfl⟩:=l;exact ior_int ⟨.int _,H,I.tok _,⟨_,rfl⟩,q⟩
theorem ot:PIp X .BitAnd (ipI λi j=>HK i j):=by
 intro A s B H x y v u Q I g l h;obtain⟨i,j,m,o,q⟩:=h;subst m;subst o;obtain⟨a,rfl⟩:=g;obtain⟨b,rfl⟩:=l;exact iand_int ⟨.int _,H,I.tok _,⟨_,rfl⟩,q⟩
theorem oq:PIp X .BitXor (ipI λi j=>dU i j):=by
 intro A s B H x y v u Q I g l h;obtain⟨i,j,m,o,q⟩:=h;subst m;subst o;obtain⟨a,rfl⟩:=g;obtain⟨b,rfl⟩:=l;exact ixor_int ⟨.int _,H,I.tok _,⟨_,rfl⟩,q⟩
end
def FH(C:AR)(m:Str)(n:Nat)(f:List D->Sto->Res D)(mo:ME)(o:ML):ME:=λe S=>(mo e S).bind λd g=>match d with
 | .ref k=>match g[k]? with
  | some (.ins s fs)=>if s=C/\fs.lookup m=none then(o e g).bind λl A=>if l.length+1=n then f (.ref k :: l) A else .bad else .bad
  | _=>.bad
 | _=>.bad
theorem KVR.none{K}{ρ}{H}(f:Str):∀{x:List (Str×D)} {y:List (Str×V)},KVR K ρ H x y->x.lookup f=none->y.lookup f=none
 | _,_,.nil,_=>rfl
 | (g,a) :: x,(o,b) :: y,.cons r t,h=>by
  obtain⟨m,s⟩:=r;subst m;rw[CQ]at h ⊢
  cases l:(f==g)with
  | true=>rw[l]at h;cases h
  | false=>rw[l]at h;exact KVR.none f t h
section
variable{X:Cx}{E:EW}{k n:Nat}{f C:AR}{m:Str}{mo:ME}{ml:ML}{g:List D->Sto->Res D}
theorem dw{t:TA}{O:St}{H:Hp}{Q:VK}(h:gE X.K E (FH C m n g mo ml) O H Q):lY C m (spM X.K n g) [] (ao E) (gE X.K E mo) (gA X.K E ml) O H Q:=by
 obtain⟨Y,l,S,P,Z,o⟩:=h;refine⟨Y,l,S,P,Z,o.seq λd R o B H1 x G T r1=>?_⟩
 cases d <;> first | exact o.elim | skip
 rename_i q;dsimp only at o
 cases A:R[q]? with
 | none=>rw[A]at o;exact o.elim
 | some ob=>
  rw[A]at o
  cases ob <;> first | exact o.elim | skip
  rename_i C' fs;dsimp only at o;split at o
  ·rename_i I
   obtain⟨I,Y'⟩:=I;rw[I]at A
   cases r1 with
   | ref U=>
    obtain⟨dx,wI,e1,e2⟩:=T.ob q _ _ A U;refine⟨_,dx,wI,rfl,e1,KVR.none m e2 Y',B,l,R,P.mono G,T,(o.later G).seq λds S2 o J H2 xs L s2 r2=>?_⟩;split at o
    ·rename_i s
     rw[Bt];exact⟨J,.ref q :: ds,S2,by simpa using s,.cons (.ref (L.pre _ _ U)) r2,s2,o.xk L λ_ _ k N H' z l' s' r'=>k N H' z (G.trans (L.trans l')) s' r'⟩
    ·exact o.elim
  ·exact o.elim
theorem ES{pl:Sem Bool}(ho:GE X E o mo)(c:Cls X.K C)(B:Li X.K C m f)(F:Bm X.prog X.w X.K X.mg X.base CX k f fd G (spM X.K n g))(I:Jt CX X (ao E))(J:GD k X.A)(hb:Binds X.K fd G [])(L:GA X E (e :: es) ml)
  (N:AO (e :: es) X.env=(false,BQ e X.env) :: AO es X.env:=by rfl) (O:(CT pos (AO es X.env)).any (·.1)=false:=by rfl)
  (P:BQ (.Call (.Attribute o m l) (e :: es) [] pos) X.env=(do
   let s <-BQ o X.env
   XZ l.atName
   let (f,fts) <-MH [s] (cZ s m pl)
   iR pos f fts (CT pos (AO (e :: es) X.env)) (FN pos (DH [] X.env))):=by rfl) :
  GE X E (.Call (.Attribute o m l) (e :: es) [] pos) (FH C m n g mo ml):=
 (jr ho c B F J hb .nil I L N O P).imp λR H Q h=>dw (t:=gA X.K E ml) h
end
section
def r0:V->List V->Hp->VK->Prop:=λx g H Q=>∃i,x=.int i/\g=[]/\Q (.int (TK i)) H
theorem kH:MtR X "int.bit_length" r0:=by
 intro m s o H x A v B Q I g l h;obtain⟨i,rfl,rfl,q⟩:=h;obtain⟨t,rfl⟩:=g;cases l;exact call_int_bit_length ⟨.int _,H,I.tok _,⟨_,rfl⟩,q⟩
def ls(m:ME):ME:=λe S=>(m e S).bind λd g=>match d with
 | .int i=>.ok (.int (TK i)) g
 | _=>.bad
theorem kd(ho:GE X E o mo)(A:Da o "bit_length" X.env (BQ o X.env)=BQ o X.env:=by rfl) (B:(g.endLine==C.line)=true:=by rfl) :
  GE X E (.Call (.Attribute o "bit_length" g) [] [] C) (ls mo):=(oA PySem.F.plainAttrs_int PySem.F.slot_int_bit_length PySem.F.type_int_bit_length kH ho A B).imp<|by
 rintro R H Q ⟨G,l,S,I,J,m⟩
 refine⟨G,l,S,I,J,m.seq λd T m s L v N O P=>?_⟩
 cases d <;> first | exact m.elim | skip
 cases P;exact⟨rfl,_,rfl,rfl,m s L _ N O (.int _)⟩
end
section
def rn(K:AE):V->V->Hp->VK->Prop:=λo i H Q=>∃p g k z,o=.ref p/\i=.int k/\0<=k/\H p=some (.lst g)/\g[k.toNat]?=some z/\Q z H
theorem gM:tf X (rn X.K):=by
 intro N s O H o i P iv Q I l m h;obtain⟨p,R,k,z,rfl,rfl,A,B,g,q⟩:=h;cases l;obtain⟨t,rfl⟩:=m;obtain⟨C,n,r,E,G⟩:=I.lst B
 obtain⟨u,J,L⟩:∃u,C[k.toNat]?=some u/\RelV z u:=r.get g
 have S:=(AH.mp g).1;have T:=Kr;exact getItem_listL ⟨_,E,rfl,n,rfl⟩ A (by omega) J ⟨z,H,I,L,q⟩
def lf(g:Int->Int->Int)(mo s A:ME):MS:=λe S=>(mo e S).lift e λd B=>(s e B).lift e λk l=>match atL d l,k with
 | some (_,C),.int i=>if 0<=i then(match C[i.toNat]? with
  | some (.int x)=>(A e l).lift e λy m=>match y,atL d m with
   | .int y,some (n,o)=>if i.toNat < o.length then .ok (.nx e) (m.set n (.lst (o.set i.toNat (.int (g x y)))))else .bad
   | _,_=>.bad
  | _=>.bad)else .bad
 | _,_=>.bad
theorem kR(ho:GE X E o mo)(hi:GE X E i mi)(he:GE X E e mv)(hp:PIp X op (ipI g))
  (ha:∀J iv new,augStore i J iv new=(do MH [new,J,iv] (qM J iv new);release [new,J,iv] [];pure .next):=by intros;rfl):GS X E (.AugAssign (.Subscript o i tpos) op e pos) (lf g mo mi mv):=
 (jf ho hi gM he hp eN ha).imp<|by
 rintro D σ H ⟨ρ,l,S,A,hs,m⟩
 refine⟨ρ,l,S,A,hs,m.lift A .refl λd S1 m L H1 x s s1 r1=>⟨L,l,S1,A.mono s,s1,(m.later s).lift (A.mono s) s λk S2 m N H2 y B T r2=>?_⟩⟩;have C:=r1.mono B;split at m
 ·rename_i n xs i hq
  split at m
  ·rename_i U
   obtain⟨rfl,h5,a,vs,rfl,hn,e1,rr⟩:=R1 T C hq;cases r2;split at m
   ·rename_i x hx
    obtain⟨z,hz,rz⟩:=rr.get hx;cases rz;refine⟨a,vs,i,.int x,rfl,rfl,U,e1,hz,N,l,S2,A.mono (s.trans B),T,(m.later B).lift (A.mono (s.trans B)) (s.trans B) λy S3 m O H3 w P Y r3=>?_⟩;split at m
    ·rename_i y n3 zs Q
     split at m
     ·rename_i uf
      cases r3;obtain⟨_,h6,a3,G,e4,Μ,Z,I⟩:=R1 Y (C.mono P) Q;cases e4;obtain⟨s4,l4⟩:=jX Y Μ Z (I.set (.int (g x y)) i.toNat)
      have R:ixN G.length i=some i.toNat:=by
       unfold ixN;rw[qX U,qX (by rw[<-I.length];omega)]
      exact⟨x,y,rfl,rfl,a,G,i,i.toNat,rfl,rfl,Z,R,m O _ _ ((s.trans B).trans (P.trans l4)) s4 (A.mono ((s.trans B).trans (P.trans l4)))⟩
     ·exact m.elim
    ·exact m.elim
   ·exact m.elim
  ·exact m.elim
 ·exact m.elim
end
def lc(l:List AR)(b h:MS):MS:=λe S=>(b e S).bind λf g=>match f with
 | .ex c m=>if c∈l then(h m g).bind λf2 o=>(match f2 with
  | .ex _ _=>.bad
  | f2=>.ok f2 o)else .bad
 | f=>.ok f g
section
theorem kQ(O:JA X)(hg:Gl X g)(A:X.mg g=some (.ref G))(zR:∀c∈cs,ZK X.K c G)
  (hb:∀zD E',GSs (X.w' zD E') E' body mb) (hh:∀zD N,GSs ((X.p zD).suite N) noE (b₀ :: suite) mh) (vf:(g==("__debug__" : Str))=false:=by decide) :
  GS (X.w' pn E) E (.Try body [.ExceptHandler (some (.Name g gp)) none (b₀ :: suite) hpos] [] [] pos) (lc cs mb mh):=by
 intro ζ s σ H D I ⟨ρ,l,S,hl,hs,yU⟩;have I0:=Inv.without (X:=X.p pn) I;have I1:=I0.pinIn;have O1:=O.p (pn++ζ)
 let ET:EW:=λC m L=>C∈cs/\∀N o u,L N=none->Vd o C->gS X.K noE mh D m (upd L N (.frz o u))
 have run:=hb (pn++ζ) ET [] s σ H D (I1.with _) ⟨ρ,l,S,hl,hs,yU.seq λf S1 A=>by
  cases f with
  | nx e'=>exact A
  | rt d=>exact A
  | bk d=>exact A
  | ct d=>exact A
  | ex c e1=>
   intro P L m l' s' r';dsimp only at A;split at A
   ·rename_i hc
    refine⟨hc,λN o u hn ho=>?_⟩;have le:Le X.K P L P (upd L N (.frz o u)):=Le.fresh hn;have s2:=(Fn (ho:=.frz o u) s' hn).1;refine⟨P,e1,S1,r'.mono le,s2,(Br.later A (l'.trans le)).seq λf2 S2 A=>?_⟩
    cases f2 with
    | nx e2=>exact λB Q σ2 R T U=>A B Q _ (l'.trans (le.trans R)) T U
    | bk e2=>exact λB Q σ2 R T U=>A B Q _ (l'.trans (le.trans R)) T U
    | ct e2=>exact λB Q σ2 R T U=>A B Q _ (l'.trans (le.trans R)) T U
    | rt d=>exact λB Q x2 R T U=>A B Q x2 (l'.trans (le.trans R)) T U
    | ex c' e2=>exact A.elim
   ·exact A.elim⟩
 refine wpAny_Try_except (Ci run (λf s1 q=>?_) λe s1 q=>?_)
 ·cases f with
  | next=>
   obtain⟨m,L,J,z⟩:=q;exact IJ ⟨m,L,(Inv.pinOut (X:=X.p pn) J.without).with _,z⟩
  | brk=>
   obtain⟨m,L,J,z⟩:=q;exact⟨m,L,(Inv.pinOut (X:=X.p pn) J.without).with _,z⟩
  | cont=>
   obtain⟨m,L,J,z⟩:=q;exact⟨m,L,(Inv.pinOut (X:=X.p pn) J.without).with _,z⟩
  | ret u=>
   obtain⟨v,m,L,J,r,z⟩:=q;exact⟨v,m,L,(Inv.pinOut (X:=X.p pn) J.without).with _,r,z⟩
 ·obtain⟨N,C,m,L,rfl,J,x,hC,w⟩:=q
  refine Uz (X:=X.p (pn++ζ)) J O1 J.ok.frames x (λo z=>z) λh1 J1 x1=>?_
  refine LN none J1 O1 x1 (by simp) λh2 J2 x2=>?_
  refine wpAny_handleBy_cons (codeAny_handlers_test ?_) (by intro z;cases z);have J2s:=J2.suite N;refine Nf J2s hg A ?_ vf;have x2':=x2;obtain⟨n1,n2,oe,vs,a0,g1,g2,⟨g0,g3⟩,_⟩:=x2';refine Ym (zR C hC) J2.kIn g1 g2 ?_;refine codeAny_handlers_suite ?_
  refine LN none J2 O1 x2 (by simp) λh3 J3 x3=>?_
  obtain⟨n1,n2,oe,vs,a0,g1,g2,⟨g0,g3⟩,_⟩:=x3;have J4:=J3.track n1 n2 g1 g3
  refine Ci (hh (pn++ζ) N [] _ _ _ D (J4.suite N) (w N oe _ n1 ⟨g2,g0,vs,g3⟩)) (λf s6 q=>?_) λ_ _ z=>z.elim
  have ok:=J.ok
  cases f with
  | next=>
   obtain⟨Y,Z,J6,z⟩:=q;exact⟨_,Z,(Inv.pinOut (X:=X.p pn) (J6.unsuite ok)).with _,z⟩
  | brk=>
   obtain⟨Y,Z,J6,z⟩:=q;exact⟨_,Z,(Inv.pinOut (X:=X.p pn) (J6.unsuite ok)).with _,z⟩
  | cont=>
   obtain⟨Y,Z,J6,z⟩:=q;exact⟨_,Z,(Inv.pinOut (X:=X.p pn) (J6.unsuite ok)).with _,z⟩
  | ret u=>
   obtain⟨v,Y,Z,J6,r,z⟩:=q;exact⟨v,_,Z,(Inv.pinOut (X:=X.p pn) (J6.unsuite ok)).with _,r,z⟩
end
open PySem.SeqAt
section
variable{P:BJ}{w:Bs}{K:AE}{mg:Str->Option AG}{base:Bu}
theorem Ch(g:N.Nodup:=by decide +kernel)(l:∀x∈ps,sc.names.lookup x=some .local∨sc.names.lookup x=some .cell:=by decide +kernel)(m:∀y∈sc.names,y.2≠.free:=by decide +kernel)(o:sc.kind=.function:=by rfl)(s:sc.isCoroutine=false:=by rfl)(A:sc.isGenerator=false:=by rfl)(B:N.take ps.length=ps:=by rfl):Aw N ps sc:=⟨o,s,A,g,B,l,m⟩
theorem A5{x l}{st}{f}{fd}{N o}{k n}(F:Fun K x l st f fd)(B:Aw N o (Ah st))(J:o.length=n){C}
  (L:∀(m:AG) (A:BX) (g:List Env) (s:AK) (H:Hp) (E:XK),GD k (A.deeper (MM l (Ah st) s.heap.objs.size f m))->JA (VD (CXG P w) P w K mg base N l (Ah st) f m A g s H E)->(A.deeper (MM l (Ah st) s.heap.objs.size f m)).units+64 < Dm->N.Nodup ->
   ∀pn G,GSs ((VD (CXG P w) P w K mg base N l (Ah st) f m A g s H E).w' pn G) G (F6 st) C) :
  Bm P w K mg base (CXG P w) (k+1) f fd o (spM K n (CO N.length C)):=pQ F B J λm A g s H E I=>L m A g s H E I ⟨rfl,rfl,rfl⟩ I.units B.nd
end
section
variable{X:Cx}{E:EW}{e:Expr}
theorem Bb(i:Nat)(g:X.N.Nodup)(hi:X.N[i]?=some x:=by rfl)(l:Loc X.env.scope x:=by first | exact Ia rfl | exact Hs rfl)(m:X.fn x=true∨X.env.scope.names.lookup x=some .local:=by first | exact .inl rfl | exact .inr rfl | assumption):GG X (.Name x pos) (tgN i):=kT (jo g hi l m)
theorem BO(i:Nat)(l:X.N.Nodup)(o:GE X E e m)(hi:X.N[i]?=some x:=by rfl)(s:Loc X.env.scope x:=by first | exact Ia rfl | exact Hs rfl)(A:Fc e (some (.Name x g)) pos.line X.env=pure false:=by rfl)
  (B:X.fn x=true∨X.env.scope.names.lookup x=some .local:=by first | exact .inl rfl | exact .inr rfl | assumption):GS X E (.Assign [.Name x g] e pos) (Bp i m):=pB l hi s o A B
theorem Tp(i:Nat)(o:X.N.Nodup)(s:PIp X op (ipI g))(A:GE X E e m)(hi:X.N[i]?=some x:=by rfl)(B:Loc X.env.scope x:=by first | exact Ia rfl | exact Hs rfl)
  (C:X.fn x=true∨X.env.scope.names.lookup x=some .local:=by first | exact .inl rfl | exact .inr rfl | assumption):GS X E (.AugAssign (.Name x l) op e pos) (Ug i g m):=pC o hi B s A C
end
end L2
namespace PySem
open PySem.Sem (wp)
def h9(prog:BJ)(w:Bs)(A:BX)(op:CmpOp)(P:Nat->AG->Prop)(m:Nat->Nat->Bool)(J:Bu->Prop):Prop:=
 ∀i j g l (s:AK) (Q E:AG->AK->Prop),J s.heap->P i g->P j l->Q (.bool (m i j)) s->AZ (AU prog w) A (iN op g l) Q E s
section
def XV(wr:List AR)(B:AR)(h h':Bu):Prop:=∀b o,b∉wr->b≠B->h.get? b=some o->h'.get? b=some o
theorem Yl(W:iT prog w A.in1 z fp wr n P Stz)(Y:∀h h',J h->XV wr B h h'->J h')(cm:h9 prog w A.in1 .Lt P G J)(Z:B∉fp)(m:Nat) :
  ∀(j:Nat) (s:AK) (x:AG) (c:Nat),j+1+m=n->J s.heap->Stz (j+1) s.heap->P (Hr G j) x->s.heap.get? B=some { cls:=.type "list",dict:=none,data:=.seq #[x,x] c,slots:=#[] } ->
   (∀v h' tk,P (Hr G (n - 1)) v->XV wr B s.heap h'->R (.ok (.ret v)) { s with heap:=h',toks:=tk })->FB (AU prog w) A (.builtin "min.loop" ⟨[.ref z,.none,.ref B],[]⟩) R s:=by
 have nw:B∉wr:=λh=>Z (W.sub _ h)
 have nm:(toString "min"++toString ".loop" : String) = "min.loop":=by decide
 induction m with
 | zero=>
  intro j s x c e hj st N H k;have e':=e;refine B0 SO ?_;rw[Bh EB _];refine(AA (FJ H rfl ?_));refine(AA (N8 (W.done s _ _ (e'▸st) λO tk E=>?_)));have I:=E B _ nw H;refine(AA (II I rfl (AA (Vf (AC ?_)))))
  exact k x _ tk (by rw[<-e'];exact N) λb o C l g=>(As _ _ (Bo l)).trans (E b o C g)
 | succ m ih=>
  intro j s x c e hj st N H k
  have lt:j+1 < n:=by lia
  refine B0 SO ?_;rw[Bh EB _];refine(AA (FJ H rfl ?_));refine(AA (N8 (W.item (j+1) s _ _ lt st λy O tk hy L E=>?_)));have I:=E B _ nw H
  have Q:=Y _ _ hj λb o C _ g=>E b o C g
  refine(show AZ _ A.in1 (tryCatch (MH [y,y] (iN .Lt y x >>= _)) _ >>= _) _ _ _ from AA (N8 (Bq (AA (cm (j+1) (Hr G j) y x _ _ _ Q hy N ?_)))));refine AA (Bq (Cc ?_));refine AA (Vf (AC ?_))
  cases hb:G (j+1) (Hr G j)with
  | true=>
   refine AA ?_;refine II I rfl (AA (Vf ?_));rw[nm]
   have up:XV wr B O (O.update B λo=>{ o with data:=.seq #[y,y] (c+1) }):=λb o _ l g=>(As _ _ (Bo l)).trans g
   refine AC ⟨DB EB _,ih (j+1) _ y _ (by lia) (Y _ _ Q λb o _ l g=>(As _ _ (Bo l)).trans g) (W.frame _ _ _ L λb q o g=>(As _ _ λh:B=b=>Z (by rw[h];exact q)).trans g) (by simp only[Hr,hb,if_true];exact hy) (Ba _ I rfl) λv S T U X=>?_⟩
   exact k v S T U λb o C l g=>X b o C l ((As _ _ (Bo l)).trans (E b o C g))
  | false=>
   refine AA (Vf ?_);rw[nm];refine AC ⟨DB EB _,ih (j+1) _ x c (by lia) Q L (by simp only[Hr,hb,C3,if_false];exact N) I λv S T U X=>?_⟩
   exact k v S T U λb o C l g=>X b o C l (E b o C g)
theorem RD
  (h:AZ (AU prog w) A.in1 (MF x) (λit g=>∃z fp wr n P Stz C J,it=.ref z/\iT prog w A.in1 z fp wr n P Stz/\Stz 0 g.heap/\(∀b∈fp,b < g.heap.objs.size)/\0 < n/\h9 prog w A.in1 .Lt P C J/\J g.heap/\(∀h h',J h->XV wr g.heap.objs.size h h'->J h') /\
   ∀v h' tk,P (Hr C (n - 1)) v->(∀b o,b∉wr->g.heap.get? b=some o->h'.get? b=some o)->Q v { g with heap:=h',toks:=tk }) E s):AZ (AU prog w) A (call (.builtin "min") [x]) Q E s:=by
 have L:(toString "min"++toString ".loop" : String) = "min.loop":=by decide
 refine call_function_tree F.kind_min F.plain_min F.entry_min (F.args_min1 _) ?_;refine(AA (FK (rfl) ?_));refine AA (AC (AA (Ci h (λit g G=>?_) λ_ _ e=>e)));obtain⟨z,fp,wr,n,P,Stz,C,J,rfl,W,st,S,T,U,X,N,k⟩:=G
 have H:g.heap.objs.size∉fp:=λq=>CN _ (S _ q)
 have Y:g.heap.objs.size∉wr:=λq=>H (W.sub _ q)
 refine AA (A4 ?_);rw[L];refine AC ⟨DB EB _,?_⟩;refine B0 SO ?_;rw[Bh EB _];refine(AA (FJ (AJ _ rfl) rfl ?_));refine(AA (N8 (W.item 0 _ _ _ T (W.frame _ _ _ st λb _ o e=>AB _ e) λy Z tk hy I O=>?_)));have R:=O _ _ Y (AJ _ rfl)
 have old:∀b o,b∉wr->g.heap.get? b=some o->b≠g.heap.objs.size/\Z.get? b=some o:=λb o l B=>⟨Ae (AS B),O b o l (AB _ B)⟩
 refine(show AZ _ A.in1 (updateSeq g.heap.objs.size (λ_=>#[y,y]) >>= _) _ _ _ from AA (II R rfl ?_));rw[L];refine AC ⟨DB EB _,Yl W N U H (n - 1) 0 _ y _ (by lia) (N _ _ X λb o l B m=>(As _ _ (Bo B)).trans (old b o l m).2) (W.frame _ _ _ I λb q o m=>(As _ _ λh:g.heap.objs.size=b=>H (by rw[h];exact q)).trans m) hy (Ba _ R rfl) λv G zE hv u0=>?_⟩
 exact k v G zE hv λb o l m=>u0 b o l (old b o l m).1 ((As _ _ (Bo (old b o l m).1)).trans (old b o l m).2)
end
end PySem
namespace L2
section
variable{X:Cx}{e:Expr}
def Zm:List D->Option (List ZLi)
 | []=>some []
 | .tup g :: l=>match Iq g,Zm l with
  | some r,some m=>some (r :: m)
  | _,_=>none
 | _ :: _=>none
theorem WV:∀{ds:List D} {g:List ZLi},Zm ds=some g->g.length=ds.length/\∀(i:Nat) d,ds[i]?=some d->d=.tup ((g.getD i []).map D.int)
 | [],g,h=>by cases h;exact⟨rfl,λi d h=>by simp at h⟩
 | d :: ds,g,h=>by
  cases d with
  | tup A=>
   unfold Zm at h;split at h
   ·rename_i r B o s
    cases h;obtain⟨l,a⟩:=WV s;refine⟨by simp[l],λi d m=>?_⟩
    cases i with
    | zero=>cases m;rw[Gu o];rfl
    | succ i=>exact a i d m
   ·cases h
  | _=>cases h
def kI(ds:List D)(S:Sto):Res D:=match Zm ds with
 | some g=>match ds[Hr (λi j=>HT.lexLt (g.getD i []) (g.getD j [])) (g.length - 1)]? with
  | some d=>.ok d S
  | none=>.bad
 | none=>.bad
def lj(K:AE):List V->Hp->VK->Prop:=λm H Q=>∃(a:AR) (g:List V) (l:List ZLi) (v:V),m=[.ref a]/\(SqL K H a g∨SqT K H a g)/\g.length=l.length/\(∀(i:Nat) u,g[i]?=some u->∃b,u=.ref b/\SqT K H b ((l.getD i []).map V.int))/\g[Hr (λi j=>HT.lexLt (l.getD i []) (l.getD j [])) (l.length - 1)]?=some v/\Q v H
theorem cL(hc:X.calm=true)(hu:X.A.units+64 < Dm):HE X (.builtin "min") (lj X.K):=by
 intro ζ s σ H xs us Q I r h;obtain⟨a,J,m,v,rfl,sq,hl,tp,hv,q⟩:=h;obtain⟨u,rfl,ru⟩:=vals1 r;cases ru;have hh:=I.ok.hd hc
 have at_:∀g:List AG,BL J g->∀(i:Nat) (x:AG),g[i]?=some x->∃b,x=.ref b/\∃L:List AG,s.heap.IsTuple b L.toArray/\IntsAre L (m.getD i []):=λg l i x B=>by
  obtain⟨y,hy,ry⟩:∃y,J[i]?=some y/\RelV y x:=by
   have N:i < g.toArray.size:=by rw[Ad];exact(AH.mp B).1
   obtain⟨y,C,E⟩:=BL.at_ l N
   have:g.toArray[i]=x:=by simpa using(AH.mp B).2
   exact⟨y,C,this▸E⟩
  obtain⟨b,rfl,sb⟩:=tp i y hy;cases ry;obtain⟨L,rt,pt,_⟩:=I.tuple sb;exact⟨b,rfl,L,pt,intsAre_of rt⟩
 have O:∀g:List AG,BL J g->0 < g.toArray.size:=λg l=>by
  have C:=(AH.mp hv).1;have E:=l.length;rw[Ad]
  lia
 have P:∀g:List AG,BL J g->h9 X.prog X.w X.A.in1 .Lt (λi v=>g.toArray[i]?=some v) (λi j=>HT.lexLt (m.getD i []) (m.getD j [])) (λG=>∀b o,s.heap.get? b=some o->G.get? b=some o):=λg l i j vi vj s' Q' E' hJ N hj hq=>by
  obtain⟨b,rfl,L,t1,n1⟩:=at_ g l i vi (by simpa using N);obtain⟨b',rfl,ts',t2,n2⟩:=at_ g l j vj (by simpa using hj);obtain⟨o,ho,r1⟩:=t1;obtain⟨U,uS,r2⟩:=t2;exact HT.RE ⟨o,hJ _ _ ho,r1⟩ ⟨U,hJ _ _ uS,r2⟩ (by simpa using n1) (by simpa using n2) (by rw[FY];lia) hq
 have stay:∀(U:Obj) (C E:Bu),(∀b o,s.heap.get? b=some o->C.get? b=some o)->XV [s.heap.objs.size] (s.heap.push U).objs.size C E->∀b o,s.heap.get? b=some o->E.get? b=some o:=λU C E q1 q2 b o e=>by
  have Y:=AS e;refine q2 b o (λZ=>?_) (λZ=>?_) (q1 b o e)
  ·exact zX (A1.mp Z▸Y) (CN _)
  ·rw[Z,A9]at Y
   exact zX (Nat.lt_of_succ_lt Y) (CN _)
 have fin:∀(g:List AG) (x:AG) (G:Bu) (tk:Nat),BL J g->g.toArray[Hr (λi j=>HT.lexLt (m.getD i []) (m.getD j [])) (g.toArray.size - 1)]?=some x->(∀b o,s.heap.get? b=some o->G.get? b=some o)->EP X ζ σ Q x { s with heap:=G,toks:=tk }:=λg x G tk l B R=>by
  rw[List.getElem?_toArray,Ad]at B
  have N:Hr (λi j=>HT.lexLt (m.getD i []) (m.getD j [])) (g.length - 1) < g.toArray.size:=by rw[Ad];exact(AH.mp B).1
  obtain⟨y,C,E⟩:=BL.at_ l N
  have e1:g.toArray[Hr (λi j=>HT.lexLt (m.getD i []) (m.getD j [])) (g.length - 1)]=x:=by simpa using(AH.mp B).2
  rw[e1]at E
  have e2:g.length=m.length:=by have:=l.length;lia
  rw[e2,hv]at C;cases C;exact⟨_,H,I.kept R,E,q⟩
 rcases sq with sq | sq
 ·obtain⟨g,l,S,hz⟩:=I.list sq
  have T:a < s.heap.objs.size:=by obtain⟨o,q,_⟩:=S.isList;exact AS q
  refine RD (D2 S.isList ?_);exact⟨_,_,_,_,_,_,_,_,rfl,af (A:=X.A.in1) hh _ a (Ae T) g.toArray,⟨⟨_,AJ _ rfl,rfl,rfl⟩,S.isList.push _⟩,mD T,O g l,P g l,λb o e=>AB _ e,stay _,λx G tk B R=>fin g x G tk l B (Z3 R)⟩
 ·obtain⟨g,l,S,hz⟩:=I.tuple sq
  have xa:=S
  have T:a < s.heap.objs.size:=by obtain⟨o,q,_⟩:=xa;exact AS q
  refine RD (Dj xa ?_);exact⟨_,_,_,_,_,_,_,_,rfl,Xu (A:=X.A.in1) hh _ a (Ae T) g.toArray,⟨⟨_,AJ _ rfl,rfl,rfl⟩,xa.push _⟩,mD T,O g l,P g l,λb o e=>AB _ e,stay _,λx G tk B R=>fin g x G tk l B (Z3 R)⟩
theorem jK:lH X.K (lj X.K) kI:=λo H S T q s d U Q A l sq g k=>by
 unfold kI at g;split at g
 ·rename_i B C
  obtain⟨E,G⟩:=WV C;split at g
  ·rename_i Y I
   cases g;obtain⟨v,J,L⟩:=l.get I;refine⟨q,s,B,v,rfl,sq,by rw[<-l.length,E],λi u N=>?_,J,k o H _ .refl A L⟩;obtain⟨x,O,P⟩:=l.get' N;have e:=G i x O;subst e
   cases P with
   | tup m R=>rw[Kn R]at m;exact⟨_,rfl,.inl (.inl m)⟩
  ·cases g
 ·cases g
theorem kX(g:X.A.units+64 < Dm)(l:X.calm=true)(o:Gl X "min") (s:X.mg "min" = none) (h:GE X E e m) (B:AO [e] X.env=(false,BQ e X.env) :: AO [] X.env:=by rfl):GE X E (.Call (.Name "min" p) [e] [] pos) (mQ kI (Yr m)):=
 U5 (cL l g) jK o s QT (gF h) (by decide) (by decide) B
end
open Srt
theorem Inv.drew(I:Inv X g l H s):Inv X g l H { s with drawn:=d' }:=⟨I.ok,I.os,I.bare,I.base,I.loc,I.cell,I.free,I.freeC,I.pin,I.hok,I.len⟩
def eQ(g:ZLi):ZLi:=Lu (firstMet (λi=>g.getD i 0) g.length)
theorem RN:∀{g:List AG} {l:ZLi},g.map iv=l.map some->BL (l.map V.int) g
 | [],[],_=>.nil
 | [],_ :: _,h=>by cases h
 | _ :: _,[],h=>by cases h
 | v :: g,n :: l,h=>by
  rw[A2,A2]at h
  injection h with m o
  cases v <;> simp[iv]at m
  subst m;exact .cons ⟨_,rfl⟩ (RN o)
theorem jq{g:List AG}{ns:ZLi}(h:DD (g.map iv) (ns.map some)):∃o:ZLi,o.Perm ns/\g.map iv=o.map some:=by
 refine⟨(g.map iv).filterMap id,?_,?_⟩
 ·have:=h.filterMap id
  have e:(ns.map some).filterMap id=ns:=by
   rw[cx];exact List.filterMap_some
  rwa [e]at this
 ·have m:∀l:List (Option Int),(∀x∈l,∃n,x=some n)->l=(l.filterMap id).map some:=by
   intro l
   induction l with
   | nil=>intro _;rfl
   | cons x l A=>
    intro s;obtain⟨n,rfl⟩:=s x Am;have e:(some n :: l).filterMap id=n :: l.filterMap id:=rfl;rw[e,A2,<-A λy B=>s y (Ab _ B)]
  exact m _ λx C=>by
   obtain⟨n,_,e⟩:=B3.mp (h.mem_iff.mp C);exact⟨n,e.symm⟩
theorem sorted_ints{out:List V}{l ns:ZLi}(m:out.Perm (l.map V.int))(o:l.Perm ns)(s:out.Pairwise (λx y=>ltL [Jf y] [Jf x]=false)):out=(Lu ns).map V.int:=by
 have A:out=(out.map Jf).map V.int:=by
  rw[Cq]
  conv=>lhs;rw[<-qq out]
  refine DK λv B=>?_
  obtain⟨n,_,rfl⟩:=B3.mp (m.mem_iff.mp B);rfl
 have C:out.map Jf=Lu ns:=by
  have E:(out.map Jf).Perm (Lu ns):=by
   have:=m.map Jf;rw[LJ]at this;exact(this.trans o).trans (Qn ns).symm
  refine E.eq_of_pairwise (λa b _ _ G H=>lQ G H) ?_ (WI ns);rw[Cp]
  refine s.imp λ{x y} g=>?_
  rw[aA]at g;simp at g;exact g
 rw[<-C];exact A
theorem VN{X}{J}{s}{L}{H}{a}{N}{Q}(hc:X.calm=true)(I:Inv X J L H s)(hS:KL X.prog X.w s.heap a N)(B:N.length<=sizeLine)
  (q:∀l,H l=none->Q (.ref l) (upd H l (.lst ((Lu N).map V.int)))):AZ (AU X.prog X.w) X.A (call (.builtin "sorted") [.ref a]) (EP X J L Q) X.xe s:=by
 refine TH kind_sorted plain_sorted entry_sorted (args_sorted1 _) ?_;unfold Builtin.«sorted»;refine AA (AC (AA (WN (I.ok.hd hc) hS B λg tk d' C kp hp=>?_)));obtain⟨ms,T,em⟩:=jq hp;have G:=RN em
 have B:C.length<=sizeLine:=by rw[<-G.length,AT,T.length_eq];exact B
 have m:R4 H (λv=>[Jf v]) (ms.map V.int):=.inl λv hv=>by
  obtain⟨n,_,rfl⟩:=B3.mp hv;exact⟨n,rfl,rfl⟩
 refine AA (P1 ?_ B);have O:Inv X J L H { s with heap:=g,toks:=tk,drawn:=d' }:=(I.kept (t':=tk) kp).drew;have P:(g.push (DX "list" C.toArray 0)).get? g.objs.size=some (DX "list" C.toArray 0):=AJ _ rfl;refine AA (Bq (BM slot_list_sort ⟨_,P,rfl⟩ t0 (Srt.Sm (f:=Ya H) P B (λh2 s' keep=>?_) λout po so=>⟨_,rfl,AC ⟨_,rfl,?_⟩⟩) (args_list_sort _)))
 ·refine O3 (λb xs e=>?_) m G h2
  obtain⟨_,is,r,o,U,vD,n,hd⟩:=(O.hok b _ e);exact⟨is,r,o,keep b o (Ae (AS U)) (AB _ U),vD,n,hd⟩
 ·obtain⟨S,Y,pv⟩:=O4 po.symm G
  have ω:S.Pairwise (λx y=>ltL [Jf y] [Jf x]=false):=by
   have e:=JZ Y λa ha b rb=>m.rel a (pv.mem_iff.mp ha) b rb
   have:=(Cp (R:=λx y=>ltL y x=false)).mpr so;rw[e]at this;exact Cp.mp this
  obtain⟨k,hk⟩:=sortedHeap_at P
  have E:S.length<=sizeLine:=by rw[pv.length_eq,G.length];exact B
  have Z:=O.laid (o:=.lst S) (t':=tk) (h':=MD (g.push (DX "list" C.toArray 0)) g.objs.size C out)
   (λb u z=>by
    have lt:=AS z;rw[sortedHeap_old (Ae lt) (by rw[size_push'];exact CD lt)]
    exact AB _ z) (AN _) ⟨E,out.toList,k,Y,hk⟩
  rw[sorted_ints pv T ω]at Z;exact⟨.ref g.objs.size,_,Z,rfl,q _ (O.hok.fresh (AN _))⟩
section
def dv(K:AE)(te:TE):TE:=λo H Q=>te o H λx g=>∃q m,x=.ref q/\(SqT K g q (Lm V.int m)∨SqL K g q (m.map V.int))/\m.length<=4000/\∀l,g l=none->Q (.ref l) (upd g l (.lst ((eQ m).map V.int)))
theorem Yd(O:X.calm=true)(hg:Gl X "sorted") (hm:X.mg "sorted" = none) (yf:Gl X "set") (P:X.mg "set" = none) (h:PE X e te)
  (he:AO [e] X.env=(false,BQ e X.env) :: AO [] X.env:=by rfl) (vx:AO [.Call (.Name "set" p2) [e] [] g] X.env=(false,BQ (.Call (.Name "set" p2) [e] [] g) X.env) :: AO [] X.env:=by rfl) :
  PE X (.Call (.Name "sorted" p) [.Call (.Name "set" p2) [e] [] g] [] pos) (dv X.K te):=by
 intro R s S H Q I hq;refine C9 (G5 I hg hm boot_sorted ?_ (by decide) (by decide));refine Ll ?_ vx rfl;rw[vx];refine NC ?_;refine C9 (G5 I yf P uD ?_ (by decide) (by decide));refine Bc (thn (De h E5 he g R s S H (λG C=>match G with | [x]=>∃q B,x=.ref q/\(SqT X.K C q (Lm V.int B)∨SqL X.K C q (B.map V.int))/\B.length<=4000/\∀l,C l=none->Q (.ref l) (upd C l (.lst ((eQ B).map V.int))) | _=>False) I hq) λus E ⟨G,C,T,U,Y⟩=>?_) he rfl
 match G,U,Y with
 | [x],U,Y=>
  obtain⟨q,B,rfl,sq,hl,k⟩:=Y;obtain⟨u,rfl,ru⟩:=vals1 U;cases ru
  have fin:∀(n:Nat),n=B.length->∀(J:Bu) (tk:Nat),KL X.prog X.w J E.heap.objs.size (firstMet (λi=>B.getD i 0) n) ->
    (∀b o,b < E.heap.objs.size->E.heap.get? b=some o->J.get? b=some o)->AZ (AU X.prog X.w) X.A (qK (CT pos (AO [] X.env))) (λG L=>AZ (AU X.prog X.w) X.A (call (.builtin "sorted") (.ref E.heap.objs.size :: G)) (EP X R S Q) X.xe L) X.xe { E with heap:=J,toks:=tk }:=λn hn J tk hS hk=>by
   refine Ie ?_;subst hn
   have I2:Inv X R S C { E with heap:=J,toks:=tk }:=T.kept λb o e=>hk b o (AS e) e
   exact VN O I2 hS (Ap (mL _ _) (Ap hl (SF (by decide)))) k
  rcases sq with sq | sq
  ·obtain⟨Z,N,pl,hz⟩:=T.tuple sq
   have m:=N.length;rw[AT]at m;exact cJ (I.ok.hd O) (pl) (by simpa using intsAre_of N) (by rw[Ad];unfold Gf;lia) (fin Z.toArray.size (by rw[Ad];lia))
  ·obtain⟨Z,N,pl,hz⟩:=T.list sq
   have m:=N.length;rw[AT]at m;exact cK (I.ok.hd O) pl.isList (by simpa using intsAre_of N) (by rw[Ad];unfold Gf;lia) (fin Z.toArray.size (by rw[Ad];lia))
def Wv(m:ME):ME:=λe S=>(m e S).bind λd g=>match HN d g with
 | some o=>match Iq o with
  | some l=>if l.length<=4000 then .ok (.ref g.length) (g++[.lst ((eQ l).map D.int)])else .bad
  | none=>.bad
 | none=>.bad
theorem Yz(R:X.calm=true)(T:Gl X "sorted") (g:X.mg "sorted" = none) (U:Gl X "set") (B:X.mg "set" = none) (h:GE X E e m)
  (Y:AO [e] X.env=(false,BQ e X.env) :: AO [] X.env:=by rfl) (Z:AO [.Call (.Name "set" J) [e] [] s] X.env=(false,BQ (.Call (.Name "set" J) [e] [] s) X.env) :: AO [] X.env:=by rfl) :
  GE X E (.Call (.Name "sorted" p) [.Call (.Name "set" J) [e] [] s] [] pos) (Wv m):=(Yd R T g U B h Y Z).imp<|by
 rintro σ H Q ⟨ρ,l,S,hl,hs,g⟩
 refine⟨ρ,l,S,hl,hs,g.seq λd S1 g A L x l1 N r1=>?_⟩
 cases C:HN d S1 with
 | none=>rw[C]at g;exact g.elim
 | some ds=>
  rw[C]at g;dsimp only at g
  cases G:Iq ds with
  | none=>rw[G]at g;exact g.elim
  | some I=>
   rw[G]at g;dsimp only at g;split at g
   ·rename_i hn
    obtain⟨q,xs,rfl,O,sq⟩:=NI N r1 C;rw[Gu G]at O;rw[Kn O]at sq;refine⟨q,I,rfl,sq.symm,hn,λl P=>?_⟩;have le:Le X.K A L (A++[l]) (upd L l (.lst ((eQ I).map V.int))):=Le.alloc P;obtain⟨s4,l4,xX⟩:=N.alloc (o:=.lst ((eQ I).map D.int)) P ⟨_,BV,Ao.of_ints _⟩;exact g _ _ _ (l1.trans l4) s4 (.ref xX)
   ·exact g.elim
end
section
def Sx:D->D->Sto->Res D
 | .str a,.str b,S=>if a.length+b.length<=sizeLine then .ok (.str (a++b)) S else .bad
 | _,_,_=>.bad
theorem Je:OpR X (Cd .Add) (rD X.K Sx):=by
 intro G s J H x y v u Q I l m h;obtain⟨o,S,a,b,d,L,A,B,C,g,k⟩:=h;unfold Sx at g;split at g
 ·rename_i a b S
  split at g
  ·rename_i E
   cases g;cases B;cases C;obtain⟨t,rfl⟩:=l;obtain⟨N,rfl⟩:=m;exact SB.add (λO P=>⟨.str _,H,I.tok _,⟨_,rfl⟩,k o H _ .refl A (.str _)⟩) E
  ·cases g
 ·cases g
def inS(neg:Bool):D->D->Sto->Res D
 | .str c,.str x,S=>.ok (.bl (if neg then !Txt.contains x c else Txt.contains x c)) S
 | _,_,_=>.bad
theorem oW:OpR X (BH .In) (rD X.K (inS false)):=by
 intro E s G H x y v u Q I l m h;obtain⟨o,S,a,b,d,J,A,B,C,g,k⟩:=h;unfold inS at g;split at g
 ·cases g
  cases B;cases C;obtain⟨t,rfl⟩:=l;obtain⟨L,rfl⟩:=m;exact SB.contains ⟨.bl _,H,I,rfl,k o H _ .refl A (.bl _)⟩
 ·cases g
def ixS:D->D->Sto->Res D
 | .str x,.int i,S=>if x.length<=sizeLine then(match atI x.cps.toList i with
  | some c=>.ok (.str ⟨#[c]⟩) S
  | none=>.bad)else .bad
 | _,_,_=>.bad
theorem oV:IxR X (rD X.K ixS):=om.imp<|by
 rintro x y H Q ⟨l,S,a,b,d,C,m,o,s,g,k⟩
 unfold ixS at g;split at g
 ·split at g
  ·rename_i A
   split at g
   ·rename_i c B
    cases g;cases o;cases s;exact⟨_,_,c,rfl,rfl,A,B,k l H _ .refl m (.str _)⟩
   ·cases g
  ·cases g
 ·cases g
def fU(m:ME):ME:=λe S=>(m e S).bind λd g=>match d with
 | .str x=>if x.length<=sizeLine then .ok (.int x.length) g else .bad
 | _=>.bad
theorem aE(B:Gl X "len") (o:X.mg "len" = none) (h:GE X E e m) (A:AO [e] X.env=(false,BQ e X.env) :: AO [] X.env:=by rfl):GE X E (.Call (.Name "len" p) [e] [] pos) (fU m):=
 (Im VP B o iV (De h E5 A) (by decide) (by decide) A rfl).imp<|by
 rintro R H Q ⟨C,l,S,G,I,o⟩
 refine⟨C,l,S,G,I,o.seq λd T g s J x L N O=>?_⟩
 cases d <;> first | exact g.elim | skip
 rename_i z;cases O;dsimp only at g;split at g
 ·rename_i P
  exact⟨z,rfl,P,g s J _ L N (.int _)⟩
 ·exact g.elim
theorem cH:HE X (.type "str") (λxs H Q=>∃i:Int,xs=[.int i]/\(if i < 0 then 0 - i else i) < 1000000/\Q (.str (toString i)) H):=by
 intro l s m H xs o Q I r h;obtain⟨i,rfl,g,q⟩:=h;obtain⟨u,rfl,t,rfl⟩:=vals1 r
 exact str_of_int_fit g (by decide) λ_=>⟨.str _,H,I.tok _,⟨_,rfl⟩,q⟩
def lp(m:ME):ME:=λe S=>(m e S).bind λd g=>match d with
 | .int i=>if (if i < 0 then 0 - i else i) < 1000000 then .ok (.str (toString i)) g else .bad
 | _=>.bad
theorem kW(C:Gl X "str") (o:X.mg "str" = none) (h:GE X E e m) (B:AO [e] X.env=(false,BQ e X.env) :: AO [] X.env:=by rfl):GE X E (.Call (.Name "str" p) [e] [] pos) (lp m):=
 (OV cH C o uB (De h E5 B) (by decide) (by decide) B rfl).imp<|by
 rintro R H Q ⟨G,l,S,I,J,o⟩
 refine⟨G,l,S,I,J,o.seq λd T g s L x N O P=>?_⟩
 cases d <;> first | exact g.elim | skip
 rename_i i;cases P;dsimp only at g
 by_cases A:(if i < 0 then 0 - i else i) < 1000000
 ·rw[qX A]at g
  exact⟨i,rfl,A,g s L _ N O (.str _)⟩
 ·rw[qY A]at g
  exact g.elim
theorem cO:HE X (.type "int") (λxs H Q=>∃x n,xs=[.str x]/\SI x=some n/\x.length<=640/\Q (.int n) H):=by
 intro m s o H xs A Q I r h;obtain⟨x,n,rfl,g,l,q⟩:=h;obtain⟨u,rfl,t,rfl⟩:=vals1 r;exact PySem.W.KIN.call_text g l ⟨.int n,H,I.tok _,⟨_,rfl⟩,q⟩
def lr(m:ME):ME:=λe S=>(m e S).bind λd g=>match d with
 | .str x=>if x.length<=640 then(match SI x with
  | some n=>.ok (.int n) g
  | none=>.bad)else .bad
 | _=>.bad
theorem kb(C:Gl X "int") (o:X.mg "int" = none) (h:GE X E e m) (B:AO [e] X.env=(false,BQ e X.env) :: AO [] X.env:=by rfl):GE X E (.Call (.Name "int" p) [e] [] pos) (lr m):=
 (OV cO C o uH (De h E5 B) (by decide) (by decide) B rfl).imp<|by
 rintro T H Q ⟨G,l,S,I,J,o⟩
 refine⟨G,l,S,I,J,o.seq λd U g s L x N O P=>?_⟩
 cases d <;> first | exact g.elim | skip
 rename_i z;cases P;dsimp only at g;split at g
 ·rename_i R
  cases A:SI z with
  | none=>rw[A]at g;exact g.elim
  | some n=>
   rw[A]at g;exact⟨z,n,rfl,A,R,g s L _ N O (.int _)⟩
 ·exact g.elim
def Ke:List D->Option (List Str)
 | []=>some []
 | .str x :: r=>(Ke r).map (x :: ·)
 | _=>none
theorem Ql:∀{ds:List D} {g:List Str},Ke ds=some g->ds=g.map D.str
 | [],g,h=>by cases h;rfl
 | d :: r,g,h=>by
  cases d <;> first | (cases h;done) | skip
  rename_i x;unfold Ke at h
  cases l:Ke r with
  | none=>rw[l]at h;cases h
  | some m=>
   rw[l]at h;cases h;rw[A2,Ql l]
theorem Qk:∀g:List Str,Ke (g.map D.str)=some g
 | []=>rfl
 | y :: g=>by
  show(Ke (g.map D.str)).map (y :: ·)=_;rw[Qk g];rfl
theorem WY{K}{ρ}{H}:∀{g:List Str} {vs:List V},Ao K ρ H (g.map D.str) vs->vs=g.map V.str
 | [],_,.nil=>rfl
 | y :: g,_,.cons r t=>by
  cases r;rw[A2,WY t]
theorem Z0{K}{ρ}{H}:∀(g:List Str),Ao K ρ H (g.map D.str) (g.map V.str)
 | []=>.nil
 | y :: g=>.cons (.str y) (Z0 g)
theorem TL:∀{g:List Str} {us:List AG},BL (g.map V.str) us->∃l:List (Str×Tok),us=cY l/\l.map (·.1)=g
 | [],_,.nil=>⟨[],rfl,rfl⟩
 | y :: g,_,.cons r t=>by
  obtain⟨l,rfl,e⟩:=TL t;obtain⟨tk,rfl⟩:=r;exact⟨(y,tk) :: l,rfl,by rw[A2,e]⟩
theorem TN:∀(l:List (Str×Tok)),BL ((l.map (·.1)).map V.str) (cY l)
 | []=>.nil
 | x :: l=>.cons ⟨x.2,rfl⟩ (TN l)
theorem kG:MtM X "str.join" (λx vs H Q=>∃g p m,x=.str g/\vs=[.ref p]/\H p=some (.lst (m.map V.str))/\dP g m=true/\Q (.str (PM g m)) H):=by
 intro J s L H x vs v N Q I A B h;obtain⟨g,p,m,rfl,rfl,C,o,q⟩:=h;obtain⟨t,rfl⟩:=A;obtain⟨u,rfl,E⟩:=vals1 B;cases E;obtain⟨z,O,n,r,_,e⟩:=I.lstM C;obtain⟨l,rfl,G⟩:=TL r
 exact SC.join ⟨_,e,rfl,n,rfl⟩ G o λP k=>⟨.str _,H,I.tok _,⟨_,rfl⟩,q⟩
def Jh(mo o:ME):ME:=λe S=>(mo e S).bind λd s=>match d with
 | .str g=>(o e s).bind λx l=>match atL x l with
  | some (_,A)=>match Ke A with
   | some m=>if dP g m=true then .ok (.str (PM g m)) l else .bad
   | none=>.bad
  | none=>.bad
 | _=>.bad
theorem RQ(ho:GE X E o mo)(Y:GE X E e Z)(uu:Da o "join" X.env (BQ o X.env)=BQ o X.env:=by rfl)
  (vt:((CT s (AO [e] X.env)).all (λx=>!x.1)&&(FN s (DH [] X.env)).all (λx=>x.1.isSome)
    &&decide ([e].length+([]:List KO).length+(if ([]:List KO).isEmpty then 0 else 1) < 30))=true:=by rfl)
  (uv:(m.endLine==s.line)=true:=by rfl) (A:AO [e] X.env=(false,BQ e X.env) :: AO [] X.env:=by rfl) (um:(CT s (AO [] X.env)).any (·.1)=false:=by rfl) :
  GE X E (.Call (.Attribute o "join" m) [e] [] s) (Jh mo Z):=(Zx T9 PySem.F.slot_str_join PySem.F.type_str_join kG ho (De Y E5 A) uu vt uv A um).imp<|by
 rintro σ H Q ⟨ρ,l,S,P,A,B⟩
 refine⟨ρ,l,S,P,A,B.seq λd S1 B C H1 v G s1 r1=>?_⟩
 cases d <;> first | exact B.elim | skip
 rename_i I;cases r1;refine⟨rfl,C,l,S1,P.mono G,s1,(B.later G).seq λx S2 g J H2 u l2 R r2=>?_⟩
 cases L:atL x S2 with
 | none=>rw[L]at g;exact g.elim
 | some z=>
  obtain⟨n,ds⟩:=z;rw[L]at g;dsimp only at g
  cases N:Ke ds with
  | none=>rw[N]at g;exact g.elim
  | some ys=>
   rw[N]at g;dsimp only at g;split at g
   ·rename_i O
    obtain⟨e',h4,a,vs,ea,vB,T,U⟩:=R1 R r2 L;subst ea;rw[Ql N]at U;rw[WY U]at T;exact⟨I,a,ys,rfl,rfl,T,O,g J H2 _ (G.trans l2) R (.str _)⟩
   ·exact g.elim
theorem a6{prog}{w}{A}{E}{s}{Q}{x y}{t u}(B:(y.length==0)=false)
  (o:∀(l:List (Str×Tok)) (k:Nat),l.map (·.1)=DF x y->Q (.ref s.heap.objs.size) { s with heap:=s.heap.push { cls:=.type "list",data:=.seq (cY l).toArray },toks:=k })
  (hsz:x.length<=sizeLine) (C:(PY x (Hy x y 0 x.length (x.length+1)) y.length).length<=sizeLine) :
  AZ (AU prog w) A (call (.builtin "str.split") [.str x t,.str y u]) Q E s:=by
 cases g:(decide (x.length < y.length)||decide (TJ x < TJ y))
 ·cases m:(Hy x y 0 x.length (x.length+1)).isEmpty
  ·refine QP SN (QN _ _ _) QX (PX _ _) (meets_str_split_sep x y t u g B m hsz C) ?_
   rw[strsFrom_eq];exact o (numbered s.toks _) _ ((numbered_texts _ _).trans ((qY (ne_true_of_eq_false g)).trans (qY (ne_true_of_eq_false m))).symm)
  ·exact QP SN (QN _ _ _) QX (PX _ _) (meets_str_split_not_found x y t u g B m)
    (o [(x,t)] s.toks ((qY (ne_true_of_eq_false g)).trans (qX m)).symm)
 ·exact QP SN (QN _ _ _) QX (PX _ _) (meets_str_split_cannot_occur x y t u g)
   (o [(x,t)] s.toks (qX g).symm)
def Gj(x y:Str):Bool:=!(y.length==0)&&decide (x.length<=1000000)&&decide ((PY x (Hy x y 0 x.length (x.length+1)) y.length).length<=1000000)&&decide ((DF x y).length<=1000000)
theorem fQ:MtM X "str.split" (λx vs H Q=>∃z y,x=.str z/\vs=[.str y]/\Gj z y=true/\∀l,H l=none->Q (.ref l) (upd H l (.lst ((DF z y).map V.str)))):=by
 intro J s L H x vs v N Q I m o h;obtain⟨z,y,rfl,rfl,g,q⟩:=h;obtain⟨t,rfl⟩:=m;obtain⟨u,rfl,O,rfl⟩:=vals1 o;unfold Gj at g;simp only[Bv,GM,decide_eq_true_eq]at g;obtain⟨⟨⟨A,B⟩,C⟩,E⟩:=g;refine a6 A (λl k G=>?_) (Ap B (by decide)) (Ap C (by decide));refine⟨.ref s.heap.objs.size,_,I.laid (t':=k) (λb P q=>AB _ q) (AN _) ?_,rfl,q _ (I.hok.fresh (AN _))⟩;refine⟨by rw[AT];exact Ap E (by decide),cY l,0,?_,AJ _ rfl⟩;rw[<-G];exact TN l
def Ew(mo l:ME):ME:=λe S=>(mo e S).bind λd m=>match d with
 | .str z=>(l e m).bind λx g=>match x with
  | .str y=>if Gj z y=true then .ok (.ref g.length) (g++[.lst ((DF z y).map D.str)])else .bad
  | _=>.bad
 | _=>.bad
theorem Ir(ho:GE X E o mo)(P:GE X E e R)(T:Da o "split" X.env (BQ o X.env)=BQ o X.env:=by rfl)
  (U:((CT A (AO [e] X.env)).all (λx=>!x.1)&&(FN A (DH [] X.env)).all (λx=>x.1.isSome)
    &&decide ([e].length+([]:List KO).length+(if ([]:List KO).isEmpty then 0 else 1) < 30))=true:=by rfl)
  (Y:(m.endLine==A.line)=true:=by rfl) (B:AO [e] X.env=(false,BQ e X.env) :: AO [] X.env:=by rfl) (Z:(CT A (AO [] X.env)).any (·.1)=false:=by rfl) :
  GE X E (.Call (.Attribute o "split" m) [e] [] A) (Ew mo R):=(Zx T9 PySem.F.slot_str_split PySem.F.type_str_split fQ ho (De P E5 B) T U Y B Z).imp<|by
 rintro σ H Q ⟨ρ,l,S,L,B,C⟩
 refine⟨ρ,l,S,L,B,C.seq λd S1 C G H1 v I s1 r1=>?_⟩
 cases d <;> first | exact C.elim | skip
 rename_i z;cases r1;refine⟨rfl,G,l,S1,L.mono I,s1,(C.later I).seq λx S2 g s N u l2 s2 r2=>?_⟩
 cases x <;> first | exact g.elim | skip
 rename_i y;cases r2;dsimp only at g;split at g
 ·rename_i J
  refine⟨z,y,rfl,rfl,J,λq O=>?_⟩;have le:Le X.K s N (s++[q]) (upd N q (.lst ((DF z y).map V.str))):=Le.alloc O;obtain⟨s4,l4,xX⟩:=s2.alloc (o:=.lst ((DF z y).map D.str)) O ⟨_,BV,Z0 _⟩;exact g _ _ _ ((I.trans l2).trans l4) s4 (.ref xX)
 ·exact g.elim
end
def Its(x:Str):It:=⟨λi _=>i < x.cps.size,λi H v g=>g=H/\∃c,x.cps[i]?=some c/\v=.str ⟨#[c]⟩,λi _=>x.cps.size<=i⟩
theorem dq{P}{w}{K}{Z}(it:AR)(x:Str)(t:Tok):P0 P w K Z (Its x) [it] it (λi h=>h.IsStrIter it "str_ascii_iterator" x t i) where
 mem:=by simp
 obj:=λi h st b hb=>by
  have e:b=it:=by simpa using hb
  subst e;obtain⟨o,g,_,B⟩:=st;exact⟨o,g,λv z=>by rw[B]at z;cases z⟩
 keep:=λi h C st k=>by
  obtain⟨o,g,r⟩:=st;exact⟨o,k it (by simp) _ g,r⟩
 item:=by
  intro X G hw J S i T s U H E I m st A;subst G hw J;obtain⟨L,N,f2,O,Q,R⟩:=m it (by simp);have Y:=B1 A
  refine wpAny_pyNext_ascii_item st Y λC l sb=>?_
  have I1:Inv X T U H { s with heap:=C,toks:=s.toks+1 }:=I.turned (λb o hb e=>(sb.2 b hb).trans e) L N O Q R;obtain⟨o,g,vD,B⟩:=id l;exact⟨_,rfl,Tq g vD B (by decide) ⟨.str ⟨#[x.cps[i]'A]⟩,H,I1,⟨_,rfl⟩,⟨rfl,_,Y,rfl⟩,l,λb hb=>(m b hb).1⟩⟩
 done:=by
  intro X G hw J S i T s U H E I m st A;subst G hw J;obtain⟨L,N,f2,O,Q,R⟩:=m it (by simp)
  exact wpAny_pyNext_ascii_end (I.ok.hd S) st (EC A) λC eb=>⟨rfl,I.turned (t':=s.toks) (λb o hb e=>eb b o hb e) L N O Q R⟩
 self:=λ_ _ _ _ _ st h=>wpAny_pyIter_striter_ascii st h
section
def sy(te:TE):TI:=λg H R=>te g H λx l=>∃z,x=.str z/\z.cps.all (· < 128)=true/\R (Its z) l
theorem nk(m:PE X e te):PI X J e (sy te):=by
 intro A s B H R I h
 refine thn (m A s B H _ I h) λv g ⟨x,C,l,E,z,e,G,q⟩=>?_
 subst e;obtain⟨t,rfl⟩:=E;refine wpAny_pyIter_ascii G ?_;refine⟨g.heap.objs.size,[g.heap.objs.size],_,_,C,rfl,l.kept (t':=g.toks) λb o e=>AB _ e,dq _ z t,⟨_,AJ _ rfl,rfl,rfl⟩,λb hb=>?_,q⟩
 have e:b=g.heap.objs.size:=by simpa using hb
 subst e;exact l.fpOk (AN _) (l.hok.fresh (AN _))
def YM(z:Str):List D:=z.cps.toList.map λc=>D.str ⟨#[c]⟩
def ly(m:ME):MI:=λe S=>(m e S).bind λd g=>match d with
 | .str z=>if z.cps.all (· < 128)=true then .ok (Lr (YM z)) g else .bad
 | _=>.bad
theorem pG(h:GE X E e m):GI X E tg e (ly m):=(nk h).imp<|by
 rintro σ H R ⟨I,l,S,J,L,g⟩
 refine⟨I,l,S,J,L,g.seq λd S1 g A N x O P Q=>?_⟩
 cases d <;> first | exact g.elim | skip
 rename_i z;cases Q;dsimp only at g;split at g
 ·rename_i T
  refine⟨z,rfl,T,g A N _ O P ?_⟩;intro B H2 S2 ds i l2 U Y;cases Y
  have e:(YM z)[i]?=(z.cps[i]?).map λc=>D.str ⟨#[c]⟩:=by
   unfold YM;rw[Ak,Cz]
  rw[e];refine⟨λC=>?_,λd o=>?_⟩
  ·show z.cps.size<=i
   by_cases Z:i < z.cps.size
   ·rw[B1 Z]at C;cases C
   ·omega
  ·cases s:z.cps[i]? with
   | none=>rw[s]at o;cases o
   | some c=>
    rw[s]at o;cases o;refine⟨(DV.mp s).1,λy H' ⟨e1,c',G,e3⟩=>?_⟩;subst e1;rw[s]at G;cases G;subst e3;exact⟨B,.refl,U,.str _⟩
 ·exact g.elim
end
end L2
namespace PySem
open PySem.Sem (wp)
section
variable{A:BX}{s:AK}
theorem KH(l:AR)(items:Array AG)(n:Nat)(C:Option AR)(sl:Array (Option AG))(t:Tok) :
  Meets (Builtin.«enumerate.__new__» ⟨[.type "enumerate",.ref l],[("start",.int 2 t)]⟩) (λ_ R s=>s.heap.get? l=some { cls:=.type "list",dict:=C,data:=.seq items n,slots:=sl } /\
   R (.ok (.ret (.ref (s.heap.push { cls:=.type "list_iterator",data:=.fields #[.ref l,.int 0 0] }).objs.size)))
    { s with heap:=(s.heap.push { cls:=.type "list_iterator",data:=.fields #[.ref l,.int 0 0] }).push { cls:=.type "enumerate",data:=.fields #[.none,.bool false,.ref s.heap.objs.size,Dl 2,.none,.none] } }):=
 .of_wp λB w A R s h=>by
  obtain⟨E,g,d,tk,os⟩:=s;obtain⟨m,h⟩:=h;have G:=sub_enumerate;have o:Bu.IsList (mO ⟨E,g,d,tk,os⟩) l items:=⟨_,m,rfl,n,rfl⟩
  wp_walk using B6 m
  refine tm λst=>AC ?_
  split
  ·rename_i c _ _ _ _ _
   cases(c==Cn "enumerate")
   ·wp_walk using B6 m,D2 o
    exact⟨_,rfl,h⟩
   ·wp_walk using B6 m,D2 o
    exact⟨_,rfl,h⟩
  ·wp_walk using B6 m,D2 o
   exact⟨_,rfl,h⟩
end
section
variable{A:BX}{E:AG->AK->Prop}{s:AK}
theorem K8(H:s.heap.IsList l g)
  (h:∀h',JI h' (s.heap.objs.size+1) s.heap.objs.size 2 .none->h'.IsListIter s.heap.objs.size l 0->h'.objs.size=s.heap.objs.size+2 ->
   (∀b o,s.heap.get? b=some o->h'.get? b=some o)->Q (.ref (s.heap.objs.size+1)) { s with heap:=h' }) :
  AZ (AU prog w) A (call (.type "enumerate") [.ref l] [("start",.int 2 t)]) Q E s:=by
 obtain⟨⟨c,I,J,sl⟩,L,m,n,B⟩:=H
 replace m:c=.type "list":=m
 replace B:J=.seq g n:=B
 subst m B
 refine Y5 ie (by decide) rfl (by kernel_rfl) (by kernel_rfl) (λobj=>by
  unfold dG;rw[aZ (n:=['_','_','t','i','n','i','_','_']) (by kernel_rfl) F.owner_object];kernel_rfl) cz
  (KH l g n I sl t) ⟨L,?_⟩
 have C:(s.heap.push { cls:=.type "list_iterator",data:=.fields #[.ref l,.int 0 0] }).objs.size=s.heap.objs.size+1:=A9 ..;rw[C]
 have G:JI ((s.heap.push { cls:=.type "list_iterator",data:=.fields #[.ref l,.int 0 0] }).push
   { cls:=.type "enumerate",data:=.fields #[.none,.bool false,.ref s.heap.objs.size,Dl 2,.none,.none] }) (s.heap.objs.size+1) s.heap.objs.size 2 .none:=by
  have:=AJ (s.heap.push { cls:=.type "list_iterator",data:=.fields #[.ref l,.int 0 0] })
   (o:={ cls:=.type "enumerate",data:=.fields #[.none,.bool false,.ref s.heap.objs.size,Dl 2,.none,.none] }) rfl
  rw[C]at this;exact this
 refine⟨⟨_,G,rfl⟩,h _ G ⟨_,AB _ (AJ _ rfl),rfl,rfl⟩ (by rw[A9,C]) λb o x=>AB _ (AB _ x)⟩
theorem RC(G:A.handled=none)
  (B:JI s.heap e it j old) (m:s.heap.IsListIter it l i) (H:s.heap.IsList l g) (I:g[i]?=none)
  (J:∀h',Ik it s.heap h'->Q none { s with heap:=h' }):AZ (AU prog w) A (Fk (.ref e)) Q E s:=by
 have C:s.TypeIs (.ref e) "enumerate":=⟨_,B,rfl⟩;unfold Fk
 refine AA (DA (BN C HB
  (BM HB C ak ?_ (ZX _))))
 show AZ _ _ (field (.ref e) 2 >>= _) _ _ _;refine AA (C2 B rfl rfl (AA (iB G m H I λh' x L N=>?_)));obtain⟨o,O,P⟩:=N;exact AA (Fa ⟨o,O,P⟩ JG (AC (J _ L)))
theorem XX(H:A.handled=none)(it l:AR)(I:l≠it)(g:Array AG) :
  Draws prog w A it [it,l] (g.size+2) (λi v=>g[i - 2]?=some v) (λi h=>2<=i/\h.IsListIter it l (i - 2)/\h.IsList l g) where
 live:=λ_ _ st=>let ⟨o,m,_⟩:=st.2.1;⟨o,m⟩
 frame:=λ_ _ _ st B=>⟨st.1,st.2.1.at λo e=>B it (by simp) o e,let ⟨o,m,r⟩:=st.2.2;⟨o,B l (by simp) o m,r⟩⟩
 item:=λi s Q E P st J=>by
  obtain⟨R,st⟩:=st
  have C:i - 2 < g.size:=by omega
  refine wpAny_nextOf_list_item st.1 st.2 (x:=g[i - 2]) (by simp[C]) λL N G=>?_
  refine J _ L s.toks (by simp[C]) ⟨by lia,?_,st.2.extBut G.extBut I⟩ G;rw[show i+1 - 2=i - 2+1 by lia];exact N
 done:=λs Q E st O=>iB H st.2.1 st.2.2 (by simp) O
end
end PySem
namespace L2
def qC(sq:Hp->List V->Prop):It:=
 ⟨λi H=>∃g x,sq H g/\g[i]?=some x,λi H y l=>∃p x,H p=none/\y=.ref p/\l=upd H p (.tup [.int ((i+2:Nat):Int),x])/\∀g,sq H g->g[i]?=some x,λi H=>∃g,sq H g/\g.length<=i⟩
section
variable{K:AE}{elts:List Expr}{x1:Nat}{pos:Pos}
theorem WA(a e it:AR)(m:e≠it)(ϑ:a≠it)(ϒ:e≠a):P0 P w K (.Tuple elts x1 pos) (qC λH xs=>SqL K H a xs) [e,it] e (λi h=>(∃old,JI h e it ((i+2:Nat):Int) old)/\h.IsListIter it a i) where
 mem:=by simp
 obj:=λi h st b hb=>by
  have G:b=e∨b=it:=by simpa using hb
  rcases G with z | z
  ·subst z
   obtain⟨⟨old,g⟩,_⟩:=st
   exact⟨_,g,λv z=>by
    have z':=z
    cases z'⟩
  ·subst z
   obtain⟨_,o,e,c,d⟩:=st;exact⟨o,e,λv z=>by rw[d]at z;cases z⟩
 keep:=λi h Z st k=>⟨st.1.imp λold g=>k e (by simp) _ g,st.2.at λo q=>k it (by simp) o q⟩
 item:=by
  intro X J hw L N i ζ s σ H E I O st Q;subst J hw L;obtain⟨xs,x,B,R⟩:=Q;obtain⟨C,S,p,T⟩:=I.list B;have p':=p.isList;obtain⟨u,hu,ru⟩:=S.get R
  have uf:i < C.toArray.size:=by
   have:=(AH.mp hu).1;simpa using this
  obtain⟨⟨old,g⟩,l⟩:=st
  have li:it < s.heap.objs.size:=by obtain⟨o,q,_⟩:=l;exact AS q
  refine cX (XX (A:=X.A.in1) (I.ok.hd N) it a ϑ C.toArray) g ⟨by lia,l,p'⟩ (by lia) m (by simp[m,ϒ]) λu' Z tk ϓ ho wt hT hsz hk=>?_
  have:u'=u:=by
   have zB:C[i]?=some u':=by simpa using ϓ
   rw[hu]at zB;cases zB;rfl
  subst this
  have t:=Og (E:=E) (elts:=elts) (x1:=x1) (pos:=pos) (sq:=λH xs=>∃y z U,xs=y :: z :: U/\SqL X.K H a U) (tn:=λj h=>(∃old,JI h e it (j:Int) old)/\h.IsListIter it a (j - 2)) I m O (AS g) li ru (λU Y=>by
   obtain⟨y,z,ys',rfl,Y⟩:=Y;rw[Jx,Jx,I.list_inj Y B]
   exact R) ho hT hk λh2 uW vx=>⟨vx,wt.2.1.at λo q=>(uW.2 it (Bo m)).trans q⟩
  refine⟨_,rfl,Ci t (λ_ s2 h2=>?_) λ_ _ z=>z⟩;obtain⟨y,H',q1,q2,⟨p,x,e1,e2,e3,e4⟩,q4,q5⟩:=h2;exact⟨y,H',q1,q2,⟨p,x,e1,e2,e3,λzs T=>by simpa using e4 (x :: x :: zs) ⟨x,x,zs,rfl,T⟩⟩,q4,q5⟩
 done:=by
  intro X J hw L N i ζ s σ H E I O st Q;subst J hw L;obtain⟨xs,B,R⟩:=Q;obtain⟨C,S,p,T⟩:=I.list B;obtain⟨⟨old,g⟩,l⟩:=st;obtain⟨f0,f1,f2,f3,f4,f5⟩:=O it (by simp);have hl:=S.length
  exact RC (I.ok.hd N) g l p.isList (by simp;lia) λZ eb=>⟨rfl,I.turned (t':=s.toks) (λb o hb e=>eb b o hb e) f0 f1 f3 f4 f5⟩
 self:=λ_ _ _ _ _ st h=>by
  obtain⟨⟨old,g⟩,_⟩:=st;exact E9 g h
end
section
variable{X:Cx}{E:EW}{elts:List Expr}{x1:Nat}{p pos zC kp vp:Pos}{j1:Nat}
def oz(K:AE)(m:TA):TI:=λo H R=>m o H λs l=>∃a,s=[.ref a]/\(∃g,SqL K l a g)/\R (qC λH g=>SqL K H a g) l
theorem e7(Q:Gl X "enumerate") (S:X.mg "enumerate" = none) (T:PA X [e] U) (B:AO [e] X.env=[(false,BQ e X.env)]:=by rfl) :
  PI X (.Tuple elts x1 zC) (.Call (.Name "enumerate" p) [e] [⟨some "start",.Constant (.int 2) j1 vp,kp⟩] pos) (oz X.K U):=by
 intro C s G H R I h;refine C9 (G5 I Q S boot_enumerate ?_ (by decide) (by decide));refine Pz (thn (T pos C s G H _ I h) λus Y ⟨vs,J,Z,r1,q1⟩=>?_) (by rw[B];rfl) (by rw[B];rfl) rfl rfl;obtain⟨a,rfl,⟨xs,sq⟩,q⟩:=q1;obtain⟨u,rfl,ru⟩:=vals1 r1;cases ru;refine kws_cons ?_
 refine thn (fC C Y G J (λx L=>x=.int 2/\L=J) Z ⟨rfl,rfl⟩) λv g ⟨x,L,l,r2,e1,e2⟩=>?_
 subst e1 e2;obtain⟨t,rfl⟩:=r2;refine kws_nil ?_;obtain⟨f',rv,pl,hz⟩:=l.list sq;have N:=pl.isList
 have O:a < g.heap.objs.size:=by obtain⟨o,q,_⟩:=N;exact AS q
 refine K8 N λh' P m hsz hk=>E9 P ?_
 refine⟨_,[g.heap.objs.size+1,g.heap.objs.size],_,_,_,rfl,l.kept (t':=g.toks) hk,WA a _ _ (QU _) (Ae O) (DO (CD O)),⟨⟨_,P⟩,m⟩,λb hb=>?_,q⟩
 have A:b=g.heap.objs.size+1∨b=g.heap.objs.size:=by simpa using hb
 rcases A with z | z
 ·rw[z];exact l.fpOk (EJ _) (l.hok.fresh (EJ _))
 ·rw[z];exact l.fpOk (AN _) (l.hok.fresh (AN _))
def U8(ds:List D):List D:=ds.zipIdx.map λx=>.tup [.int ((x.2+2:Nat):Int),x.1]
theorem PJ(ds:List D)(i:Nat):(U8 ds)[i]?=(ds[i]?).map λd=>.tup [.int ((i+2:Nat):Int),d]:=by
 unfold U8;rw[Ak,ZU]
 cases ds[i]? with
 | none=>rfl
 | some d=>simp
def X6(v:On):On:=λS=>(v S).map U8
theorem UN{K}{ρ}{H}{J}{v}{sq}(O:Js K ρ H J v)(P:∀i H,J.go i H->∃xs x,sq H xs/\xs[i]?=some x)(Q:∀i H,J.stop i H->∃xs,sq H xs/\xs.length<=i)
  (R:∀i H x,(∀xs,sq H xs->xs[i]?=some x)->J.yld i H x H):Js K ρ H (qC sq) (X6 v):=by
 intro C m S ds i l s o;unfold X6 at o
 cases G:v S with
 | none=>rw[G]at o;cases o
 | some g=>
  rw[G]at o;cases o;obtain⟨T,U⟩:=O C m S g i l s G;refine⟨λI=>?_,λd A=>?_⟩
  ·rw[PJ]at I
   refine Q i m (T ?_)
   cases B:g[i]? with
   | none=>rfl
   | some d=>rw[B]at I;cases I
  ·rw[PJ]at A
   cases B:g[i]? with
   | none=>rw[B]at A;cases A
   | some Y=>
    rw[B]at A;cases A;obtain⟨Z,b2⟩:=U Y B;refine⟨P i m Z,λy H' hy=>?_⟩;obtain⟨p,x,hp,rfl,rfl,hx⟩:=hy;obtain⟨L,l3,s3,r3⟩:=b2 x m (R i m x hx);obtain⟨s4,N⟩:=Fn s3 hp;exact⟨L,l3.trans N,s4,.tup BV (.cons (.int _) (.cons (r3.mono N) .nil))⟩
def aD(m:ME):MI:=λe S=>(m e S).bind λd g=>match Kc d g with
 | some _=>.ok (X6 (Kc d)) g
 | none=>.bad
theorem gH(G:Gl X "enumerate") (g:X.mg "enumerate" = none) (h:GE X E e m) (B:AO [e] X.env=[(false,BQ e X.env)]:=by rfl) :
  GI X E (.Tuple elts x1 zC) (.Call (.Name "enumerate" p) [e] [⟨some "start",.Constant (.int 2) j1 vp,kp⟩] pos) (aD m):=
 (e7 G g (De h E5 B) B).imp<|by
 rintro T H R ⟨I,l,S,J,L,g⟩
 refine⟨I,l,S,J,L,g.seq λd N g s O x P C A=>?_⟩
 cases o:Kc d N with
 | none=>rw[o]at g;exact g.elim
 | some U=>
  rw[o]at g
  have:∃a,x=.ref a:=by
   cases A <;> first | exact⟨_,rfl⟩ | (cases o;done)
  obtain⟨a,rfl⟩:=this;obtain⟨Q,sq,_⟩:=NH C A o;exact⟨a,rfl,⟨Q,sq⟩,g s O _ P C (UN (MQ A) (λi H z=>z) (λi H z=>z) λi H x z=>⟨rfl,z⟩)⟩
end
theorem Nn(g:Gl X x)(l:X.mg x=some (.str z tk))(m:(x==("__debug__" : Str))=false:=by decide):GE X E (.Name x pos) (mC (.str z)):=
 bx (Ul (v:=.str z) g l ⟨tk,rfl⟩ m) λ_ _=>.str z
section
variable{X:Cx}{E:EW}{tg e:Expr}{K:AE}{ζ:List (AR×Obj)}{σ:St}{H:Hp}{s:AK}
def Itk(a:AR)(g:Obj)(u:HO)(xs:List V):It:=
 ⟨λi H=>H a=some (.frz g u)/\i < xs.length,λi H x l=>l=H/\xs[i]?=some x,λi H=>H a=some (.frz g u)/\xs.length<=i⟩
theorem aw(Y:A.ExactDict)(Z:A.data=.dict es ep)(C:BL xs (es.toList.map (·.key))):P0 P w K tg (Itk a A u xs) [it] it (λi h=>h.IsKeyIter it a i es.size ep) where
 mem:=by simp
 obj:=λi h st b hb=>by
  have e:b=it:=by simpa using hb
  subst e;obtain⟨o,e,c,d⟩:=st;exact⟨o,e,λv z=>by rw[d]at z;cases z⟩
 keep:=λi h h' st k=>st.at λo e=>k it (by simp) o e
 item:=by
  intro X G hw J hc i ζ s σ H E I B st L;subst G hw J;obtain⟨N,l⟩:=L;obtain⟨g,_⟩:=(I.hok a _ N)
  have O:xs.length=es.size:=by have:=C.length;rw[AT,Az]at this;exact this
  have Cs:i < es.size:=by rw[<-O];exact l
  obtain⟨v,h1,h2⟩:=C.get (An l);rw[Ak,Cz,B1 Cs]at h1;cases h1;obtain⟨Q,R,f2,S,T,U⟩:=B it (by simp)
  refine Srt.Wa st ⟨A,g,Y,Z⟩ Cs λh' m sb=>?_
  have I1:=I.turned (t':=s.toks) (λb o hb e=>(sb.2 b hb).trans e) Q R S T U;obtain⟨o,e,c,d⟩:=id m;exact⟨_,rfl,Tq e c d (by decide) ⟨_,H,I1,h2,⟨rfl,An l⟩,m,λb hb=>(B b hb).1⟩⟩
 done:=by
  intro X G hw J hc i ζ s σ H E I B st L;subst G hw J;obtain⟨N,l⟩:=L;obtain⟨g,_⟩:=(I.hok a _ N)
  have O:xs.length=es.size:=by have:=C.length;rw[AT,Az]at this;exact this
  obtain⟨Q,R,f2,S,T,U⟩:=B it (by simp)
  exact Srt.Zs (I.ok.hd hc) st ⟨A,g,Y,Z⟩ (by rw[<-O];exact l) λh' eb=>⟨rfl,I.turned (t':=s.toks) (λb o hb e=>eb b o hb e) Q R S T U⟩
 self:=λ_ _ _ _ _ st h=>iJ st h
theorem kl:∀{l:List Ow} {us:List (Key×AG)} {g:List (Key×V)},Pairs (Dx P w) l us->KV g us->BL (g.map λx=>kV x.1) (l.map (·.key)):=by
 intro l us g A
 induction A generalizing g with
 | nil=>intro h;cases h;exact .nil
 | cons B G _ C=>
  intro h
  cases h with
  | cons r t=>
   refine .cons ?_ (C t);dsimp only;rw[r.1]
   rcases C5 B with⟨i,t,m,o⟩ | ⟨x,t,m,o⟩
   ·rw[m,o];exact⟨t,rfl⟩
   ·rw[m,o];exact⟨t,rfl⟩
theorem gm:∀{g:List (List Key×V)} {xs:List (List Key×AR×AG)},FO (λ(p:List Key×V) (q:List Key×AR×AG)=>p.1=q.1/\H q.2.1=some (.tup (p.1.map kV))/\RelV p.2 q.2.2) g xs->FO (λ(k:List Key×V) b=>H b=some (.tup (k.1.map kV))) g (xs.map (·.2.1)):=by
 intro g xs h
 induction h with
 | nil=>exact .nil
 | cons r _ l=>exact .cons r.2.1 l
theorem bK(l:List AR):BL (l.map V.ref) (l.map A7):=by
 induction l with
 | nil=>exact .nil
 | cons a l g=>exact .cons rfl g
def iDct(o:TE):TI:=λσ H R=>o σ H λx l=>∃a m,x=.ref a/\((∃g,l a=some (.frz m (.dK g))/\R (Itk a m (.dK g) (g.map λx=>kV x.1)) l) ∨
 ∃g,l a=some (.frz m (.dT g))/\∀bs,FO (λ(k:List Key×V) b=>l b=some (.tup (k.1.map kV))) g bs->R (Itk a m (.dT g) (bs.map V.ref)) l)
theorem jl(T:PE X l U):PI X tg l (iDct U):=by
 intro ζ s σ H R I h
 refine thn (T ζ s σ H _ I h) λv s1 ⟨x,S,C,Y,Z⟩=>?_
 obtain⟨a,G,e,q⟩:=Z;subst e;cases Y
 have fin:∀{u:HO} {O:List V} {J:Array Ow} {P:Nat},(a==DM)=false->s1.heap.get? a=some G->G.ExactDict->G.data=.dict J P->BL O (J.toList.map (·.key))->R (Itk a G u O) S ->
   AZ (AU X.prog X.w) X.A (MF (.ref a)) (PIE X ζ σ tg R) X.xe s1:=λL g m B hv q=>by
  refine Srt.Wb L ⟨G,g,m,B⟩ ?_;refine⟨s1.heap.objs.size,[s1.heap.objs.size],_,_,S,rfl,C.kept (t':=s1.toks) λb o e=>AB _ e,aw m B hv,⟨_,AJ _ rfl,rfl,rfl⟩,λb hb=>?_,q⟩
  have e:b=s1.heap.objs.size:=by simpa using hb
  subst e;exact C.fpOk (AN _) (C.hok.fresh (AN _))
 rcases q with⟨sN,Q,q⟩ | ⟨sN,Q,q⟩
 ·obtain⟨g,hz,L,us,kv,o,J,P,N,m,B,g5,g6,_⟩:=(C.hok a _ Q)
  rw[g]at N;cases N;exact fin L g m B (kl g6 kv) q
 ·obtain⟨g,hz,L,O,rr,o,J,P,N,m,B,g4,_⟩:=(C.hok a _ Q)
  rw[g]at N;cases N
  have hk:J.toList.map (·.key)=(O.map (·.2.1)).map A7:=by
   rw[g4,Cq,Cq];rfl
  exact fin L g m B (by rw[hk];exact bK _) (q _ (gm rr))
def ff(d:D)(S:Sto):Option (List D):=match d with
 | .ref n=>match S[n]? with
  | some (.fK g)=>some (g.map λx=>Yt x.1)
  | some (.fT g)=>some (g.map λx=>.tup (x.1.map Yt))
  | _=>none
 | _=>none
def lz(m:ME):MI:=λe S=>(m e S).bind λd g=>match ff d g with
 | some l=>.ok (Lr l) g
 | none=>.bad
theorem Qg(C:H a=some (.frz G u))(I:Ao K ρ H ds xs):Js K ρ H (Itk a G u xs) (Lr ds):=by
 intro g P S Q i l s J;cases J;have m:=I.mono l;have o:=l.frz _ _ _ C;refine⟨λL=>⟨o,by rw[<-m.length];exact Cw.mp L⟩,λd N=>?_⟩;obtain⟨x,A,O⟩:=m.get N;refine⟨⟨o,(AH.mp A).1⟩,λy R ⟨e,B⟩=>?_⟩;subst e;rw[A]at B;cases B;exact⟨g,.refl,s,O⟩
theorem kS(h:GE X E e m):GI X E tg e (lz m):=(jl h).imp<|by
 rintro σ H R ⟨P,l,S,Q,T,A⟩
 refine⟨P,l,S,Q,T,A.seq λd U A B L x N C Y=>?_⟩
 cases g:ff d U with
 | none=>rw[g]at A;exact A.elim
 | some ds=>
  rw[g]at A
  cases Y with
  | @ref n a Z=>
   obtain⟨o,ho,O⟩:=C.there Z;unfold ff at g;simp only[ho]at g
   cases o with
   | fK sN=>
    cases g;obtain⟨G,I,e,J⟩:=O;exact⟨a,G,rfl,.inl ⟨I,e,A B L _ N C (Qg e (Ng J))⟩⟩
   | fT sN=>
    cases g;obtain⟨G,I,e,J⟩:=O;exact⟨a,G,rfl,.inr ⟨I,e,λbs hb=>A B L _ N C (Qg e (RI J hb))⟩⟩
   | _=>cases g
  | _=>cases g
theorem Inv.fz(I:Inv X ζ σ H s)(G:s.heap.get? a=some B)(A:H a=some u)(J:Mut (some u)):Inv X ζ σ (upd H a (.frz B u)) s:=by
 have l:∀b,H b=none->b≠a:=λb h z=>by subst z;rw[A]at h;cases h
 have g:∀b o,H b=some o->¬Mut (some o)->b≠a:=λb o h n z=>by subst z;rw[A]at h;cases h;exact n J
 have st:∀b o,C8 X.prog X.w H s.heap b o->C8 X.prog X.w (upd H a (.frz B u)) s.heap b o:=λb o x=>
  x.stay (λ_ _ _ q=>q) (λc r=>by rw[BC (g c _ r λz=>z)];exact r) λc m r=>by rw[BC (g c _ r λz=>z)];exact r
 refine⟨I.ok,I.os,I.bare,⟨I.base.keep,I.base.slot,λb o q n L=>?_,I.base.there,λb m q=>?_,λb o m q=>?_,λb N q=>?_⟩,I.loc,I.cell,?_,λx c q=>?_,λp O=>?_,λb o q=>?_,I.len⟩
 ·have:=I.base.free b o q n L
  rw[BC (l b this)];exact this
 ·have:=I.base.tups b m q
  rw[BC (g b _ this λz=>z)];exact this
 ·have:=I.base.frzs b o m q
  rw[BC (g b _ this λz=>z)];exact this
 ·obtain⟨more,this⟩:=I.base.tbls b N q
  exact⟨more,by rw[BC (g b _ this λz=>z)];exact this⟩
 ·rw[BC (l _ I.free)];exact I.free
 ·rw[BC (l _ (I.freeC x c q))];exact I.freeC x c q
 ·obtain⟨P,C,Q⟩:=I.pin p O
  exact⟨P,by rw[BC (l _ C)];exact C,Q⟩
 ·by_cases hb:b=a
  ·subst hb
   rw[BV]at q;cases q;exact⟨G,st b u (I.hok b u A)⟩
  ·rw[BC hb]at q
   exact st b o (I.hok b o q)
def fzO:Ob->Option Ob
 | .dK g=>some (.fK g)
 | .dT g=>some (.fT g)
 | .fK g=>some (.fK g)
 | .fT g=>some (.fT g)
 | _=>none
def sFz(i:Nat):MS:=λe S=>match e[i]? with
 | some (some (.ref n))=>match S[n]? with
  | some o=>match fzO o with
   | some g=>.ok (.nx e) (S.set n g)
   | none=>.bad
  | none=>.bad
 | _=>.bad
theorem WM{S:Sto}{n:Nat}{o:Ob}(h:S[n]?=some o):S.set n o=S:=by
 apply Eg
 intro j;rw[GK];split
 ·rename_i c
  subst c;split
  ·exact h.symm
  ·rename_i c;rw[BZ (Bd.mp c)]at h;cases h
 ·rfl
theorem tK{i:Nat}{st:Bw}{P:MS}(h:GS X E st P):GS X E st (Aq (sFz i) P):=by
 rintro ζ s σ H D I ⟨C,l,S,Q,N,g⟩
 cases J:l[i]? with
 | none=>unfold Aq sFz at g;rw[J]at g;exact g.elim
 | some x=>
  cases x with
  | none=>unfold Aq sFz at g;rw[J]at g;exact g.elim
  | some d=>
   cases d with
   | ref n=>
    cases L:S[n]? with
    | none=>unfold Aq sFz at g;rw[J]at g;dsimp only at g;rw[L]at g;exact g.elim
    | some o=>
     cases G:fzO o with
     | none=>unfold Aq sFz at g;rw[J]at g;dsimp only at g;rw[L]at g;dsimp only at g;rw[G]at g;exact g.elim
     | some Y=>
      have m:Br X.K noH C H (P l (S.set n Y)) λfl S'=>RU X.K E C H S' D fl:=by
       unfold Aq sFz at g;rw[J]at g;dsimp only at g;rw[L]at g;dsimp only at g;rw[G]at g;exact g
      obtain⟨a,O,Z⟩:=N.at L
      have fr:∀u,H a=some u->Mut (some u)->(∃B,s.heap.get? a=some B)->(∀B,DW X.K C (upd H a (.frz B u)) a Y)->AZ (AU X.prog X.w) X.A (exec st X.env) _ _ s:=λu ha mu ⟨B,hg⟩ ra=>by
       have le:Le X.K C H C (upd H a (.frz B u)):=Le.write O (by rw[ha];exact mu);obtain⟨s5,_⟩:=N.write O (ra B) le;exact h ζ s σ _ D (I.fz hg ha mu) ⟨C,l,_,Q.mono le,s5,m.go le λ_ _ k=>k.later le⟩
      cases o with
      | dK R=>
       cases G;obtain⟨T,e,U⟩:=Z
       refine fr _ e trivial ?_ λB=>⟨B,T,BV,KVR.mono (Le.write O (by rw[e];trivial)) U⟩
       obtain⟨_,_,_,_,o,_,_,e,_⟩:=(I.hok a _ e);exact⟨o,e⟩
      | dT R=>
       cases G;obtain⟨T,e,U⟩:=Z
       refine fr _ e trivial ?_ λB=>⟨B,T,BV,KVR.mono (Le.write O (by rw[e];trivial)) U⟩
       obtain⟨_,_,_,_,o,_,_,e,_⟩:=(I.hok a _ e);exact⟨o,e⟩
      | fK R=>cases G;rw[WM L]at m;exact h ζ s σ H D I ⟨C,l,S,Q,N,m⟩
      | fT R=>cases G;rw[WM L]at m;exact h ζ s σ H D I ⟨C,l,S,Q,N,m⟩
      | _=>cases G
   | _=>unfold Aq sFz at g;rw[J]at g;exact g.elim
end
section
end
end L2
namespace L2
open PySem.W
section
variable{X:Cx}{k k' n:Nat}{x qual:Str}{st:Bw}{ps:List Str}{p pos:Pos}{e:Expr}{es:List Expr}{ml:ML}{g:List D->Sto->Res D}
theorem gcl(D:Dfn X.K X.mg x qual st ps)(F:Bm X.prog X.w X.K X.mg X.base (CXG X.prog X.w) k D.f D.fd ps (spM X.K n g))(l:GD k' X.A)(o:GA X noE (e :: es) ml)(s:k<=k':=by decide)(B:X.xe=λ_ _=>False:=by rfl)(C:Gl X x:=by rfl)
  (E:(x==("__debug__" : Str))=false:=by decide) (G:AO (e :: es) X.env=(false,BQ e X.env) :: AO es X.env:=by rfl) (H:(CT pos (AO es X.env)).any (·.1)=false:=by rfl) :
  GE X noE (.Call (.Name x p) (e :: es) [] pos) (BE n g ml):=Au F (good_none B).pass (l.mono s) C D.m D.kp D.b o E G H
end
abbrev FnAt(K:Frag)(x g:Str)(st:Bw)(f:AR):Prop:=∃(o:AG) (s:Option AR) (kV l A:AG) (B:Option AR) (m ct:AG) (C:Array (Option AG)),
 K.lookup f=some ⟨o,s,.func (fnOf x g (Jo st) (F6 st) (Ah st) .none kV l A B m ct),C⟩/\codeIn K m g=true/\keepIn K (.ref f)=true
abbrev CJ(K:Frag)(x:Str)(st:Bw)(f:AR):Prop:=nsIn K Av x=some (some (.ref f))/\FnAt K x x st f
abbrev GU(K:Frag)(C:AR)(x g:Str)(st:Bw)(f:AR):Prop:=findIn K (.ref C) x=some (some (.ref f))/\isFn K (.ref f)=true/\FnAt K x g st f
abbrev ClsAt(K:Frag)(x:Str)(C:AR):Prop:=nsIn K Av x=some (some (.ref C))/\plainGet K C Xa=true/\hasDictIn K C=true/\plainOver K C=true/\findIn K (.ref C) "__setattr__" = some (some (.builtin "object.__setattr__"))/\makesIn K C=true/\keepIn K (.ref C)=true
def ZL(st:Bw)(o:List Str):Prop:=∀(x g:Str) (kV l s:AG) (A:Option AR) (B ct:AG) (m:List AG),m.length=o.length->iS (fnOf x g (Jo st) (F6 st) (Ah st) .none kV l s A B ct) ⟨m,[]⟩=pure (o.zip m)
section
variable{K:Frag}{h:Bu}{mg:Str->Option AG}{x qual:Str}{st:Bw}{f C:AR}{ps:List Str}{a b c d e:Str}
theorem FnAt.fd(z:FnAt K x qual st f):∃fd,Fun K x qual st f fd:=by
 obtain⟨m,o,kV,g,s,A,B,ct,E,l,c,k⟩:=z;exact⟨_,gY l c k⟩
def mkD(X:K.In h)(G:h.Ns Av mg)(z:CJ K x st f)(b:ZL st ps):Dfn K mg x x st ps:=⟨f,(FnAt.fd z.2).choose,(FnAt.fd z.2).choose_spec,(FnAt.fd z.2).choose_spec.binds (b x x),LU X G z.1⟩
def mkM(z:GU K C x qual st f)(b:ZL st ps):Mtd K x qual st ps:=⟨f,(FnAt.fd z.2.2).choose,(FnAt.fd z.2.2).choose_spec,(FnAt.fd z.2.2).choose_spec.binds (b x qual)⟩
theorem FnAt.kp(z:FnAt K x qual st f):keepIn K (.ref f)=true:=by
 obtain⟨m,o,kV,g,s,A,B,ct,E,l,c,k⟩:=z;exact k
theorem mkE(z:GU K C x qual st f):Li K C x f:=⟨z.1,z.2.1,FnAt.kp z.2.2⟩
theorem mkO(X:K.In h)(G:h.Ns Av mg)(z:ClsAt K y C)(i:GU K C "__init__" qual st f):Own K mg y C f:=⟨⟨z.2.1,z.2.2.1,z.2.2.2.1,z.2.2.2.2.1⟩,⟨z.2.2.2.2.2.1,i.1,i.2.1,z.2.2.2.2.2.2⟩,LU X G z.1⟩
abbrev bnd(st:Bw)(ps:List Str)(us:List AG):Prop:=∀(x qual:Str) (kV g l:AG) (m:Option AR) (o ct:AG),iS (fnOf x qual (Jo st) (F6 st) (Ah st) .none kV g l m o ct) ⟨us,[]⟩=pure (ps.zip us)
theorem bd1(z:∀u,bnd st [a] [u]):ZL st [a]:=λx q k d p n c t l g=>by obtain⟨u,rfl⟩:=ss g;exact z u x q k d p n c t
theorem bd2(z:∀u v,bnd st [a,b] [u,v]):ZL st [a,b]:=λx q k d p n c t l g=>by obtain⟨u,v,rfl⟩:=sr g;exact z u v x q k d p n c t
theorem bd3(z:∀u v w,bnd st [a,b,c] [u,v,w]):ZL st [a,b,c]:=λx q k d p n c t l g=>by obtain⟨u,v,w,rfl⟩:=len3 g;exact z u v w x q k d p n c t
theorem bd4(z:∀u v w y,bnd st [a,b,c,d] [u,v,w,y]):ZL st [a,b,c,d]:=λx q k d p n c t l g=>by obtain⟨u,v,w,y,rfl⟩:=sk g;exact z u v w y x q k d p n c t
theorem bd5(z:∀u v w y l,bnd st [a,b,c,d,e] [u,v,w,y,l]):ZL st [a,b,c,d,e]:=λx q k d p n c t m g=>by obtain⟨u,v,w,y,l,rfl⟩:=len5 g;exact z u v w y l x q k d p n c t
end
def sf(neg:Bool)(g:List Str)(m:ME):ME:=λe S=>(m e S).bind λd l=>match d with
 | .str x=>.ok (.bl (if neg then !inV (.str x) (g.map V.str)else inV (.str x) (g.map V.str))) l
 | _=>.bad
def OJ:List AG->Option (List Str)
 | []=>some []
 | .str x _ :: l=>(OJ l).map (x :: ·)
 | _=>none
def MU(K:AE)(a:AR):Option (List Str):=match K.lookup a with
 | some o=>match o.data with
  | .seq g _=>if o.cls==.type "tuple"&&decide (g.size<=100)then OJ g.toList else none
  | _=>none
 | none=>none
theorem TQ:∀{us:List AG} {g:List Str},OJ us=some g->BL (g.map V.str) us
 | [],_,h=>by cases h;exact .nil
 | .str x t :: l,g,h=>by
  unfold OJ at h
  cases q:OJ l with
  | none=>rw[q]at h;cases h
  | some r=>rw[q]at h;cases h;exact .cons ⟨t,rfl⟩ (TQ q)
 | .none :: _,_,h=>nomatch h
 | .bool _ :: _,_,h=>nomatch h
 | .int _ _ :: _,_,h=>nomatch h
 | .ref _ :: _,_,h=>nomatch h
 | .type _ :: _,_,h=>nomatch h
 | .builtin _ :: _,_,h=>nomatch h
 | .bytes _ _ :: _,_,h=>nomatch h
 | .float _ _ :: _,_,h=>nomatch h
theorem a4{K:AE}{H:Hp}{a:AR}{g:List Str}(h:MU K a=some g):SqT K H a (g.map V.str):=by
 unfold MU at h;split at h
 ·rename_i o l
  split at h
  ·rename_i m n s
   split at h
   ·rename_i c
    rw[Bv]at c;exact .inr ⟨o,m,n,l,eq_of_beq c.1,s,Ap (of_decide_eq_true c.2) (by decide),TQ h⟩
   ·cases h
  ·cases h
 ·cases h
section
variable{X:Cx}{E:EW}{i o e:Expr}{mi mo:ME}{pos p apos u6:Pos}
theorem kP{x:Str}{a:AR}{s:List Str}(hi:GE X E i mi)(A:Gl X x)(g:X.mg x=some (.ref a))(B:MU X.K a=some s)(C:(x==("__debug__" : Str))=false:=by decide) (G:CC .NotIn (.Name x p)=false:=by with_unfolding_all rfl) :
  GT X E (.Compare i [.NotIn] [.Name x p] pos) (mB (sf true s mi)):=(Zu Um hi (Ul (v:=.ref a) A g rfl C) G).imp<|by
 rintro Y H Q ⟨I,l,S,J,L,g⟩
 refine⟨I,l,S,J,L,(g.seq λd N h=>h).seq λd N h m O x P R T=>?_⟩
 cases d <;> first | exact h.elim | skip
 cases T;refine⟨a,_,rfl,.inr (a4 B),rfl,?_,?_⟩
 ·rw[BU]
  intro v U;obtain⟨z,_,rfl⟩:=B3.mp U;rfl
 ·exact⟨_,rfl,h m O P R⟩
theorem WF{K:AE}{ρ:List AR}{H:Hp}:∀{g:List Str} {vs:List V},Ao K ρ H (g.map D.str) vs->vs=g.map V.str
 | [],_,.nil=>rfl
 | x :: l,_,.cons r t=>by cases r;rw[WF t];rfl
theorem a5{K:AE}{ρ:List AR}{H:Hp}{ds:List D}{g:List Str}{vs:List V}(h:Ke ds=some g)(r:Ao K ρ H ds vs):vs=g.map V.str:=by
 rw[Ql h]at r;exact WF r
def rm:V->List V->Hp->VK->Prop:=λx m H Q=>∃(l:AR) (k:Str) (g:List Str) (j:Nat),x=.ref l/\m=[.str k]/\H l=some (.lst (g.map V.str))/\g.findIdx? (·==k)=some j/\Q (.int j) H
theorem Y1{k:Str}:∀{xs:List Str} {us:List AG},BL (xs.map V.str) us->∀(m:Nat) (h:m < us.length) (h':m < xs.length),eqU (.str k) us[m]=(xs[m]==k)
 | [],_,.nil,m,h,_=>zX h (lO _)
 | x :: xs,_,.cons ⟨t,e⟩ r,0,_,_=>by subst e;show eqV (.str x) (.str k)=_;unfold eqV;rfl
 | x :: xs,_,.cons _ r,m+1,h,h'=>Y1 r m (by simp at h;omega) (by simp at h';omega)
theorem bY:MtM X "list.index" rm:=by
 intro ζ s σ H x vs v us Q I A B h;obtain⟨l,k,C,j,rfl,rfl,G,J,q⟩:=h;cases A;obtain⟨u,rfl,L⟩:=vals1 B;obtain⟨z,N,n,r,O,e⟩:=I.lstM G;rw[AT]at z O;obtain⟨P,R,S⟩:=OE.mp J
 have T:(C.map V.str).all No=true:=by
  rw[BU];intro v U;obtain⟨z,_,rfl⟩:=B3.mp U;rfl
 have hs:(sizeLine:Int) < 2 ^ 63 - 1:=by decide
 refine QP S8 ⟨_,e,rfl⟩ PySem.F.entry_list_index (PySem.F.args_list_index_2 _ _)
  (SeqAt.list_indexAt l N.toArray n none _ u (eqU (.str k)) j (by rw[Ad];omega) (by omega) ?_ λm g Y=>?_) ⟨e,λy Z=>Nb L rfl r T y (by simpa using Z),.int j,H,I.kept (t':=s.toks+1) (h':=s.heap) (λ_ _ e=>e),⟨_,rfl⟩,q⟩
 ·rw[ZT,Y1 r j (by omega) P];exact R
 ·rw[Ad]at g
  rw[ZT,Y1 r m g (by omega)];have:=S m Y;simpa using this
def QC(mo mi:ME):ME:=λe S=>(mo e S).bind λd g=>match atL d g with
 | some _=>(mi e g).bind λx l=>match atL d l,x with
  | some (_,m),.str k=>match Ke m with
   | some s=>(match s.findIdx? (·==k)with
    | some j=>.ok (.int j) l
    | none=>.bad)
   | none=>.bad
  | _,_=>.bad
 | none=>.bad
theorem bw(ho:GE X E o mo)(T:GE X E e mi)(U:Da o "index" X.env (BQ o X.env)=BQ o X.env:=by rfl)
  (Y:((CT u6 (AO [e] X.env)).all (λx=>!x.1)&&(FN u6 (DH [] X.env)).all (λx=>x.1.isSome)
    &&decide ([e].length+([]:List KO).length+(if ([]:List KO).isEmpty then 0 else 1) < 30))=true:=by rfl)
  (Z:(apos.endLine==u6.line)=true:=by rfl) (m:AO [e] X.env=(false,BQ e X.env) :: AO [] X.env:=by rfl) (um:(CT u6 (AO [] X.env)).any (·.1)=false:=by rfl) :
  GE X E (.Call (.Attribute o "index" apos) [e] [] u6) (QC mo mi):=(Zx TB S8 PySem.F.type_list_index bY ho (De T E5 m) U Y Z m um).imp<|by
 rintro σ H Q ⟨ρ,l,S,I,m,g⟩
 refine⟨ρ,l,S,I,m,g.seq λd J g s H1 v A L N=>?_⟩
 cases B:atL d J with
 | none=>rw[B]at g;exact g.elim
 | some z=>
  obtain⟨n,xs0⟩:=z;rw[B]at g;dsimp only at g;obtain⟨rfl,h0,a,C,rfl,hn,e0,_⟩:=R1 L N B;refine⟨.inl ⟨rfl,C,.inl (.inl e0)⟩,s,l,J,I.mono A,L,(g.later A).seq λx S2 g G H2 u O P r2=>?_⟩;split at g
  ·rename_i n' xs k h2
   split at g
   ·rename_i zs h3
    split at g
    ·rename_i j h5
     obtain⟨e',h6,a',vs,ea,vB,R,rr⟩:=R1 P (N.mono O) h2;cases e';cases ea;cases r2;rw[a5 h3 rr]at R;exact⟨a,k,zs,j,rfl,rfl,R,h5,g G _ _ (A.trans O) P (.int _)⟩
    ·exact g.elim
   ·exact g.elim
  ·exact g.elim
end
mutual
def KF(g:Nat->Nat):D->D
 | .non=>.non
 | .bl b=>.bl b
 | .int i=>.int i
 | .str x=>.str x
 | .tup l=>.tup (FG g l)
 | .fro l=>.fro (FG g l)
 | .ref n=>.ref (g n)
 | .exc C=>.exc C
def FG(g:Nat->Nat):List D->List D
 | []=>[]
 | d :: l=>KF g d :: FG g l
end
def KD{m:Type}(g:Nat->Nat)(l:List (m×D)):List (m×D):=l.map λx=>(x.1,KF g x.2)
def Ek(g:Nat->Nat):Ob->Ob
 | .lst m=>.lst (FG g m)
 | .dK l=>.dK (KD g l)
 | .dT l=>.dT (KD g l)
 | .ins C l=>.ins C (KD g l)
 | .fK l=>.fK (KD g l)
 | .fT l=>.fT (KD g l)
 | .mem L=>.mem L
section
variable{K:AE}{ρ ρ':List AR}{H:Hp}{g:Nat->Nat}
mutual
theorem Bf.ren(h:∀(n:Nat) a,ρ[n]?=some a->ρ'[g n]?=some a):∀{d:D} {v:V},Bf K ρ H d v->Bf K ρ' H (KF g d) v
 | _,_,.non=>.non
 | _,_,.bl b=>.bl b
 | _,_,.int i=>.int i
 | _,_,.str x=>.str x
 | _,_,.tup e r=>.tup e (Ao.ren h r)
 | _,_,.fro e r=>.fro e (Ao.ren h r)
 | _,_,.ref e=>.ref (h _ _ e)
 | _,_,.exc e x=>.exc e x
theorem Ao.ren(h:∀(n:Nat) a,ρ[n]?=some a->ρ'[g n]?=some a):∀{d:List D} {v:List V},Ao K ρ H d v->Ao K ρ' H (FG g d) v
 | _,_,.nil=>.nil
 | _,_,.cons r t=>.cons (Bf.ren h r) (Ao.ren h t)
end
mutual
theorem Bf.unren(h:∀(n:Nat) a,ρ'[g n]?=some a->ρ[n]?=some a):∀(d:D) {v:V},Bf K ρ' H (KF g d) v->Bf K ρ H d v
 | .non,_,r=>by cases r;exact .non
 | .bl b,_,r=>by cases r;exact .bl b
 | .int i,_,r=>by cases r;exact .int i
 | .str x,_,r=>by cases r;exact .str x
 | .tup l,_,r=>by cases r with | tup e r=>exact .tup e (Ao.unren h l r)
 | .fro l,_,r=>by cases r with | fro e r=>exact .fro e (Ao.unren h l r)
 | .ref n,_,r=>by cases r with | ref e=>exact .ref (h _ _ e)
 | .exc C,_,r=>by cases r with | exc e x=>exact .exc e x
theorem Ao.unren(h:∀(n:Nat) a,ρ'[g n]?=some a->ρ[n]?=some a):∀(d:List D) {v:List V},Ao K ρ' H (FG g d) v->Ao K ρ H d v
 | [],_,r=>by cases r;exact .nil
 | d :: l,_,r=>by cases r with | cons a b=>exact .cons (Bf.unren h d a) (Ao.unren h l b)
end
theorem KVR.ren{l:Type}(h:∀(n:Nat) a,ρ[n]?=some a->ρ'[g n]?=some a){x:List (l×D)}{y:List (l×V)}(r:KVR K ρ H x y):KVR K ρ' H (KD g x) y:=by
 induction r with
 | nil=>exact .nil
 | cons a _ m=>exact .cons ⟨a.1,a.2.ren h⟩ m
theorem KVR.unren{l:Type}(h:∀(n:Nat) a,ρ'[g n]?=some a->ρ[n]?=some a):∀{x:List (l×D)} {y:List (l×V)},KVR K ρ' H (KD g x) y->KVR K ρ H x y
 | [],_,r=>by cases r;exact .nil
 | _ :: x,_,r=>by cases r with | cons a b=>exact .cons ⟨a.1,a.2.unren h _⟩ (KVR.unren h b)
theorem DW.ren(h:∀(n:Nat) a,ρ[n]?=some a->ρ'[g n]?=some a){a:AR}{o:Ob}(r:DW K ρ H a o):DW K ρ' H a (Ek g o):=by
 cases o with
 | lst l=>obtain⟨x,e,r⟩:=r;exact⟨x,e,r.ren h⟩
 | dK l=>obtain⟨x,e,r⟩:=r;exact⟨x,e,KVR.ren h r⟩
 | dT l=>obtain⟨x,e,r⟩:=r;exact⟨x,e,KVR.ren h r⟩
 | ins C l=>obtain⟨y,x,e,r⟩:=r;exact⟨y,x,e,KVR.ren h r⟩
 | fK l=>obtain⟨y,x,e,r⟩:=r;exact⟨y,x,e,KVR.ren h r⟩
 | fT l=>obtain⟨y,x,e,r⟩:=r;exact⟨y,x,e,KVR.ren h r⟩
 | mem L=>exact r
theorem DW.unren(h:∀(n:Nat) a,ρ'[g n]?=some a->ρ[n]?=some a){a:AR}{o:Ob}(r:DW K ρ' H a (Ek g o)):DW K ρ H a o:=by
 cases o with
 | lst l=>obtain⟨x,e,r⟩:=r;exact⟨x,e,r.unren h _⟩
 | dK l=>obtain⟨x,e,r⟩:=r;exact⟨x,e,KVR.unren h r⟩
 | dT l=>obtain⟨x,e,r⟩:=r;exact⟨x,e,KVR.unren h r⟩
 | ins C l=>obtain⟨y,x,e,r⟩:=r;exact⟨y,x,e,KVR.unren h r⟩
 | fK l=>obtain⟨y,x,e,r⟩:=r;exact⟨y,x,e,KVR.unren h r⟩
 | fT l=>obtain⟨y,x,e,r⟩:=r;exact⟨y,x,e,KVR.unren h r⟩
 | mem L=>exact r
end
def gSl(sel:List Nat)(N:Nat)(j:Nat):Nat:=match sel[j]? with
 | some n=>n
 | none=>N+(j - sel.length)
structure G7(S:Sto)(sel:List Nat)(C:Sto):Prop where
 len:sel.length=C.length
 nd:∀(i j n:Nat),sel[i]?=some n->sel[j]?=some n->i=j
 ob:∀(j n:Nat) (o:Ob),sel[j]?=some n->C[j]?=some o->S[n]?=some (Ek (gSl sel S.length) o)
def putAll(g:Nat->Nat):List Nat->Sto->Sto->Sto
 | n :: l,o :: C,S=>putAll g l C (S.set n (Ek g o))
 | _,_,S=>S
def Gy(sel:List Nat)(g S:Sto):Sto:=putAll (gSl sel S.length) sel g S++(g.drop sel.length).map (Ek (gSl sel S.length))
theorem DP(g:Nat->Nat):∀(sel:List Nat) (C S:Sto),(putAll g sel C S).length=S.length
 | [],_,_=>rfl
 | _ :: _,[],_=>rfl
 | n :: sel,o :: C,S=>(DP g sel C _).trans Do
theorem LG(g:Nat->Nat){m:Nat}:∀(sel:List Nat) (C S:Sto),(∀j:Nat,sel[j]?≠some m)->(putAll g sel C S)[m]?=S[m]?
 | [],_,_,_=>rfl
 | _ :: _,[],_,_=>rfl
 | n :: sel,o :: C,S,h=>(LG g sel C _ λj=>h (j+1)).trans (BI λe=>h 0 (congrArg some e))
theorem OU(g:Nat->Nat){m:Nat}{o:Ob}:∀(sel:List Nat) (C S:Sto) (j:Nat),(∀(i j n:Nat),sel[i]?=some n->sel[j]?=some n->i=j)->m < S.length->sel[j]?=some m->C[j]?=some o->(putAll g sel C S)[m]?=some (Ek g o)
 | [],_,_,_,_,_,h,_=>by simp at h
 | _ :: _,[],_,_,_,_,_,h=>by simp at h
 | n :: sel,E :: C,S,0,l,s,A,B=>by
  cases A;cases B;show(putAll g sel C (S.set m (Ek g o)))[m]?=_;rw[LG g sel C _ λj e=>Nat.succ_ne_zero j (l (j+1) 0 m e rfl),CS s]
 | n :: sel,E :: C,S,j+1,l,s,A,B=>
  OU g sel C _ j (λi j n a b=>G8 (l (i+1) (j+1) n a b)) (by rw[Do];exact s) A B
open Classical in
def WE(pick:List D->Sto->List Nat×Sto×List D)(f:List D->Sto->Res D)(ds:List D)(S:Sto):Res D:=
 if G7 S (pick ds S).1 (pick ds S).2.1/\ds=FG (gSl (pick ds S).1 S.length) (pick ds S).2.2 then match f (pick ds S).2.2 (pick ds S).2.1 with
  | .ok d g=>.ok (KF (gSl (pick ds S).1 S.length) d) (Gy (pick ds S).1 g S)
  | _=>.bad
 else .bad
theorem Ta(g:Nat->Nat):∀ds:List D,(FG g ds).length=ds.length
 | []=>rfl
 | d :: ds=>congrArg (· + 1) (Ta g ds)
section
variable{K:AE}{ρ ρ1:List AR}{H H':Hp}{S C C':Sto}{sel:List Nat}
def WO(ρ:List AR)(sel:List Nat):List AR:=sel.map λn=>ρ.getD n 0
theorem Gk(g:∀(j n:Nat),sel[j]?=some n->n < ρ.length){j:Nat}{a:AR}:(WO ρ sel)[j]?=some a↔∃n,sel[j]?=some n/\ρ[n]?=some a:=by
 unfold WO;rw[Ak]
 cases q:sel[j]? with
 | none=>simp
 | some n=>
  have:=g j n q;simp[An this]
theorem G7.lt(h:G7 S sel C)(j n:Nat)(e:sel[j]?=some n):n < S.length:=by
 have g:j < C.length:=by rw[<-h.len];exact(AH.mp e).1
 exact(AH.mp (h.ob j n _ e (An g))).1
theorem Ji{N j n:Nat}(e:sel[j]?=some n):gSl sel N j=n:=by unfold gSl;rw[e]
theorem IE{N j:Nat}(e:sel.length<=j):gSl sel N j=N+(j - sel.length):=by unfold gSl;rw[BZ e]
theorem nH(h:G7 S sel C)(s:Bz K ρ S H):Bz K (WO ρ sel) C H/\∀(n:Nat) a,ρ[gSl sel S.length n]?=some a->(WO ρ sel)[n]?=some a:=by
 have g:∀(j n:Nat),sel[j]?=some n->n < ρ.length:=λj n e=>by rw[s.len];exact h.lt j n e
 have un:∀(n:Nat) a,ρ[gSl sel S.length n]?=some a->(WO ρ sel)[n]?=some a:=λn a e=>by
  by_cases c:n < sel.length
  ·have q:=An c
   rw[Ji q]at e;exact(Gk g).mpr ⟨_,q,e⟩
  ·rw[IE (Bd.mp c),BZ (by rw[s.len];exact DU _ _)]at e
   cases e
 refine⟨⟨(AT ..).trans h.len,λi j a E l=>?_,λj o a l G=>?_⟩,un⟩
 ·obtain⟨n,A,B⟩:=(Gk g).mp E
  obtain⟨m,I,J⟩:=(Gk g).mp l;have:=s.nd n m a B J;subst this;exact h.nd i j n A I
 ·obtain⟨n,A,B⟩:=(Gk g).mp G
  exact(s.ob n _ a (h.ob j n o A l) B).unren un
theorem jE(h:G7 S sel C)(s:Bz K ρ S H)(l:Le K (WO ρ sel) H ρ1 H')(N:Bz K ρ1 C' H') :
  Le K ρ H (ρ++ρ1.drop sel.length) H'/\Bz K (ρ++ρ1.drop sel.length) (Gy sel C' S) H'/\∀(n:Nat) a,ρ1[n]?=some a->(ρ++ρ1.drop sel.length)[gSl sel S.length n]?=some a:=by
 have E:∀(j n:Nat),sel[j]?=some n->n < ρ.length:=λj n e=>by rw[s.len];exact h.lt j n e
 have big:sel.length<=ρ1.length:=by
  by_cases c:sel.length<=ρ1.length
  ·exact c
  ·have c:=Nat.not_le.mp c
   have q:=l.pre ρ1.length _ ((Gk E).mpr ⟨_,An c,An (E _ _ (An c))⟩);rw[BZ (AN _)]at q;cases q
 have R:∀(n:Nat) a,ρ1[n]?=some a->(ρ++ρ1.drop sel.length)[gSl sel S.length n]?=some a:=λn a e=>by
  by_cases c:n < sel.length
  ·have q:=An c
   have z:=E _ _ q;rw[Ji q,AM z];have:=l.pre n _ ((Gk E).mpr ⟨_,q,An z⟩);rw[e]at this;rw[An z];exact this.symm
  ·have c:=Bd.mp c
   rw[IE c,Aj (by rw[s.len];exact DU _ _),B4,s.len];rw[show sel.length+(S.length+(n - sel.length) - S.length)=n by lia];exact e
 have out:∀(i:Nat) a,ρ[i]?=some a->(∀j:Nat,sel[j]?≠some i)->∀j:Nat,(WO ρ sel)[j]?≠some a:=λi a e n j q=>by
  obtain⟨m,O,G⟩:=(Gk E).mp q;have:=s.nd i m a e G;subst this;exact n j O
 have le:Le K ρ H (ρ++ρ1.drop sel.length) H':=by
  refine⟨λn a e=>by rw[AM (AH.mp e).1];exact e,l.tup,l.frz,λa o e n=>?_⟩
  obtain⟨T,U⟩:=l.oth a o e λj q=>by
   obtain⟨m,_,G⟩:=(Gk E).mp q;exact n m G
  refine⟨T,λj q=>?_⟩
  by_cases c:j < ρ.length
  ·rw[AM c]at q;exact n j q
  ·rw[Aj (Bd.mp c),B4]at q;exact U _ q
 refine⟨le,⟨?_,λi j a g A=>?_,λm o a B I=>?_⟩,R⟩
 ·unfold Gy
  rw[Ai,Ai,DP,AT,FD,FD,s.len,N.len]
 ·have P:∀i j:Nat,i < ρ.length->ρ.length<=j->(ρ++ρ1.drop sel.length)[i]?=some a->(ρ++ρ1.drop sel.length)[j]?=some a->False:=λi j J L g A=>by
   rw[AM J]at g;rw[Aj L,B4]at A;obtain⟨o,Z,r⟩:=s.there g
   by_cases c:∃k:Nat,sel[k]?=some i
   ·obtain⟨k,Q⟩:=c
    have:=N.nd k _ a (l.pre k a ((Gk E).mpr ⟨i,Q,g⟩)) A;have:=(AH.mp Q).1
    lia
   ·cases q:H a with
    | none=>exact r.has q
    | some u=>exact(l.oth a u q (out i a g λk e=>c ⟨k,e⟩)).2 _ A
  by_cases J:i < ρ.length <;> by_cases L:j < ρ.length
  ·rw[AM J]at g
   rw[AM L]at A;exact s.nd i j a g A
  ·exact(P i j J (Bd.mp L) g A).elim
  ·exact(P j i L (Bd.mp J) A g).elim
  ·rw[Aj (Bd.mp J),B4]at g
   rw[Aj (Bd.mp L),B4]at A;have:=N.nd _ _ a g A
   lia
 ·unfold Gy at B
  by_cases c:m < ρ.length
  ·rw[AM (by rw[DP,<-s.len];exact c)]at B
   rw[AM c]at I
   by_cases z:∃k:Nat,sel[k]?=some m
   ·obtain⟨k,Q⟩:=z
    have X:=l.pre k a ((Gk E).mpr ⟨m,Q,I⟩);obtain⟨Y,O,G⟩:=N.there X;rw[OU _ sel C' S k h.nd (by rw[<-s.len];exact c) Q O]at B;cases B;exact G.ren R
   ·rw[LG _ sel C' S λk e=>z ⟨k,e⟩]at B
    have r:=s.ob m o a B I
    cases q:H a with
    | none=>exact(r.has q).elim
    | some u=>exact r.mono le (((l.oth a u q (out m a I λk e=>z ⟨k,e⟩)).1).trans q.symm)
  ·have c:=Bd.mp c
   rw[Aj (by rw[DP,<-s.len];exact c),DP,Ak,B4]at B;rw[Aj c,B4]at I;rw[s.len]at I;obtain⟨Y,O,G⟩:=N.there I;rw[O]at B;cases B;exact G.ren R
end
section
variable{P:BJ}{w:Bs}{K:AE}{mg:Str->Option AG}{base:Bu}{CX:CXT}{k n:Nat}{fa:AR}{fd:Hx}{ps:List Str}{f:List D->Sto->Res D}{pick:List D->Sto->List Nat×Sto×List D}
theorem Y0(F:Bm P w K mg base CX k fa fd ps (spM K n f)):Bm P w K mg base CX k fa fd ps (spM K n (WE pick f)):=F.imp<|by
 rintro Y H Q E ⟨I,J,S,L,B,G,g⟩
 unfold WE at g;split at g
 ·rename_i N
  obtain⟨m,o⟩:=N;generalize pick J S=pk at m o g;obtain⟨s,C,A⟩:=pk;dsimp only at m o g;split at g
  ·rename_i d Z O
   obtain⟨r,un⟩:=nH m G;refine⟨WO I s,A,C,by rw[<-L,o,Ta],?_,r,?_⟩
   ·rw[o]at B
    exact B.unren un _
   ·rw[O]
    intro R T x l U X;obtain⟨a,b,c⟩:=jE m G l U;exact g _ T x a b (X.ren c)
  ·exact g.elim
 ·exact g.elim
end
end L2
namespace L4
open L2
inductive Cel where
 | no | fz (o:Ob) | ow (i:Nat)
abbrev Fz:=Nat->Cel
inductive Sl where
 | u | v (d:D) | z (o:Ob) | y (o:Ob) | w (i:Nat) (o:Ob) | q (P:(Nat->Option Ob)->D->Prop)
def Sl.ok(g:Sto)(F:Fz)(S:Sto):Sl->Option D->Prop
 | .u,_=>True
 | .v d,x=>x=some d
 | .z o,x=>∃n,x=some (.ref n)/\F n=.fz o
 | .y o,x=>∃n,x=some (.ref n)/\F n=.fz o/\g.length<=n
 | .w i o,x=>∃n,x=some (.ref n)/\F n=.ow i/\S[n]?=some o
 | .q P,x=>∃d,x=some d/\∀L:Nat->Option Ob,(∀n o,F n=.fz o->L n=some o)->P L d
structure Vs(S0:Sto)(A:List Sl)(e:Lo)(F:Fz)(S:Sto):Prop where
 kp:Keeps S0 S
 fz:∀n o,F n=.fz o->S[n]?=some o
 ow:∀n i,F n=.ow i->S0.length<=n/\n < S.length
 hi:∀n,S.length<=n->F n=.no
 sl:∀(i:Nat) (a:Sl),A[i]?=some a->∃x,e[i]?=some x/\a.ok S0 F S x
def Fle(F g:Fz):Prop:=∀n o,F n=.fz o->g n=.fz o
theorem Fle.refl(F:Fz):Fle F F:=λ_ _ h=>h
theorem Fle.trans(a:Fle F G)(b:Fle G H):Fle F H:=λn o h=>b n o (a n o h)
def Rb(F:Fz)(S g:Sto):Fz:=λn=>if n < S.length then F n else match g[n]? with
 | some o=>.fz o
 | none=>.no
section
variable{S0 S S':Sto}{A B:List Sl}{e:Lo}{F:Fz}{α β γ ρ σ τ:Type}
theorem Nr(h:n < S.length):Rb F S S' n=F n:=qX h
theorem W6(h:S.length<=n)(ho:S'[n]?=some o):Rb F S S' n=.fz o:=by
 unfold Rb;rw[qY (Bd.mpr h),ho]
theorem Hf(h:S[n]?=some o):n < S.length:=(AH.mp h).1
theorem Sl.mono{S0:Sto}{F m:Fz}{S S':Sto}{a:Sl}{x:Option D}(h:a.ok S0 F S x)(s:∀n o,F n=.fz o->m n=.fz o)(E:∀n i o,F n=.ow i->S[n]?=some o->m n=.ow i/\S'[n]?=some o):a.ok S0 m S' x:=by
 cases a with
 | u=>trivial
 | v d=>exact h
 | z o=>obtain⟨n,g,l⟩:=h;exact⟨n,g,s _ _ l⟩
 | y o=>obtain⟨n,g,l,C⟩:=h;exact⟨n,g,s _ _ l,C⟩
 | w i o=>obtain⟨n,g,l,C⟩:=h;exact⟨n,g,E _ _ _ l C⟩
 | q P=>obtain⟨d,g,l⟩:=h;exact⟨d,g,λL G=>l L λn o q=>G n o (s n o q)⟩
theorem Vs.fle(h:Vs S0 A e F S)(S':Sto):Fle F (Rb F S S'):=λn o q=>by rw[Nr (Hf (h.fz n o q))];exact q
theorem Vs.grow(h:Vs S0 A e F S)(k:Keeps S S'):Vs S0 A e (Rb F S S') S':=by
 refine⟨h.kp.trans k,λn o q=>?_,λn i q=>?_,λn l=>?_,λi a s=>?_⟩
 ·unfold Rb at q
  split at q
  ·rename_i l
   rw[k.2 n l];exact h.fz n o q
  ·cases g:S'[n]? with
   | none=>rw[g]at q;cases q
   | some C=>rw[g]at q;cases q;rfl
 ·unfold Rb at q
  split at q
  ·exact⟨(h.ow n i q).1,Aa (h.ow n i q).2 k.1⟩
  ·cases g:S'[n]? with
   | none=>rw[g]at q;cases q
   | some C=>rw[g]at q;cases q
 ·unfold Rb
  rw[qY (Bd.mpr (Ap k.1 l)),BZ l]
 ·obtain⟨x,E,G⟩:=h.sl i a s
  exact⟨x,E,Sl.mono G (h.fle S') λn i o H m=>⟨by rw[Nr (Hf m)];exact H,by rw[k.2 n (Hf m)];exact m⟩⟩
theorem Vs.set(h:Vs S0 A e F S)(i:Nat)(g:a.ok S0 F S x):Vs S0 (A.set i a) (e.set i x) F S:=
 ⟨h.kp,h.fz,h.ow,h.hi,λj b hb=>by
  by_cases c:i=j
  ·subst c
   rw[GK]at hb;rw[qX rfl]at hb;split at hb
   ·rename_i l
    cases hb;obtain⟨y,m,_⟩:=h.sl i (A[i]) (An l);exact⟨x,by rw[GK];rw[qX rfl,qX (AH.mp m).1],g⟩
   ·cases hb
  ·rw[BI c]at hb ⊢
   exact h.sl j b hb⟩
inductive Wk:List Sl->List Sl->Prop where
 | nil:Wk [] []
 | same {a:Sl} {A B:List Sl}:Wk A B->Wk (a :: A) (a :: B)
 | drop {a:Sl} {A B:List Sl}:Wk A B->Wk (a :: A) (.u :: B)
 | less {o:Ob} {A B:List Sl}:Wk A B->Wk (.y o :: A) (.z o :: B)
theorem Wk.at:∀{A B:List Sl},Wk A B->∀(i:Nat) (b:Sl),B[i]?=some b->∃a,A[i]?=some a/\(b=.u∨b=a∨∃o,a=.y o/\b=.z o)
 | _,_,.nil,i,b,h=>by simp at h
 | _,_,.same w,0,b,h=>by cases h;exact⟨_,rfl,.inr (.inl rfl)⟩
 | _,_,.less w,0,b,h=>by cases h;exact⟨_,rfl,.inr (.inr ⟨_,rfl,rfl⟩)⟩
 | _,_,.less w,i+1,b,h=>Wk.at w i b h
 | _,_,.drop w,0,b,h=>by cases h;exact⟨_,rfl,.inl rfl⟩
 | _,_,.same w,i+1,b,h=>Wk.at w i b h
 | _,_,.drop w,i+1,b,h=>Wk.at w i b h
theorem Wk.refl:∀A:List Sl,Wk A A
 | []=>.nil
 | _ :: A=>.same (Wk.refl A)
theorem Vs.weak(h:Vs S0 A e F S)(w:Wk A B):Vs S0 B e F S:=⟨h.kp,h.fz,h.ow,h.hi,λi b hb=>by
 obtain⟨a,m,s⟩:=w.at i b hb;obtain⟨x,g,l⟩:=h.sl i a m
 rcases s with rfl | rfl | ⟨o,rfl,rfl⟩
 ·exact⟨x,g,trivial⟩
 ·exact⟨x,g,l⟩
 ·obtain⟨n,C,E,_⟩:=l
  exact⟨x,g,n,C,E⟩⟩
def Sl.oth(i:Nat):Sl->Bool
 | .w k _=>!(Nat.beq k i)
 | _=>true
theorem oC(h:((A.set i .u).all (Sl.oth i))=true)(l:j≠i)(m:A[j]?=some (.w k o)):k≠i:=by
 have s:(A.set i .u)[j]?=some (.w k o):=by rw[BI (Bo l)];exact m
 have:=BU.mp h _ (C6 s);intro e;subst e;have g:(!(Nat.beq k k))=true:=this;rw[Nat.beq_refl]at g;cases g
theorem Vs.put(h:Vs S0 A e F S)(I:((A.set i .u).all (Sl.oth i))=true)(Q:A[i]?=some (.w i o))(J:e[i]?=some (some (.ref n)))(l:F n=.ow i):Vs S0 (A.set i (.w i E)) e F (S.set n E):=by
 have G:=h.ow n i l;refine⟨h.kp.set G.1 E,λk q s=>?_,λk j q=>by rw[Do];exact h.ow k j q,λk H=>h.hi k (by rw[Do]at H;exact H),λj b hb=>?_⟩
 ·have:n≠k:=λc=>by subst c;rw[l]at s;cases s
  rw[BI this];exact h.fz k q s
 ·by_cases c:i=j
  ·subst c
   rw[GK]at hb;rw[qX rfl]at hb;split at hb
   ·cases hb
    exact⟨_,J,n,rfl,l,by rw[GK];rw[qX rfl,qX G.2]⟩
   ·cases hb
  ·rw[BI c]at hb
   obtain⟨x,L,g⟩:=h.sl j b hb;refine⟨x,L,?_⟩
   cases b with
   | u=>trivial
   | v d=>exact g
   | z q=>exact g
   | y q=>exact g
   | q P=>exact g
   | w k q=>
    obtain⟨m,N,C,O⟩:=g;refine⟨m,N,C,?_⟩
    have:n≠m:=λz=>by
     subst z;rw[l]at C;cases C;exact oC I (λz=>c z.symm) hb rfl
    rw[BI this];exact O
theorem Vs.own(h:Vs S0 A e F S)(k:Keeps S S'){i n:Nat}{o:Ob}(C:S.length<=n)(ho:S'[n]?=some o):∃F',Vs S0 (A.set i (.w i o)) (e.set i (some (.ref n))) F' S'/\Fle F F':=by
 have g:=h.grow k;have s:=Hf ho
 have G:Fle F (λj=>if j=n then Cel.ow i else Rb F S S' j):=λj q l=>by
  have:j≠n:=λc=>by subst c;exact zX (Hf (h.fz _ _ l)) (Bd.mpr C)
  show(if j=n then Cel.ow i else _)=_;rw[qY this];exact h.fle S' _ _ l
 refine⟨λj=>if j=n then .ow i else Rb F S S' j,(Vs.set ⟨g.kp,λj q l=>?_,λj q l=>?_,λj H=>?_,λj b hb=>?_⟩ i ⟨n,rfl,qX rfl,ho⟩),G⟩
 ·split at l
  ·cases l
  ·exact g.fz j q l
 ·split at l
  ·rename_i c;subst c;exact⟨Ap h.kp.1 C,s⟩
  ·exact g.ow j q l
 ·have:j≠n:=λc=>by subst c;exact zX s (Bd.mpr H)
  rw[qY this];exact g.hi j H
 ·obtain⟨x,J,L⟩:=h.sl j b hb
  refine⟨x,J,Sl.mono L G λm j q N I=>?_⟩;have E:=Hf I
  have:m≠n:=λc=>by subst c;exact zX E (Bd.mpr C)
  refine⟨?_,by rw[k.2 m E];exact I⟩;rw[qY this,Nr E];exact N
abbrev Rk(α:Type):=α->Sto->D->Sto->Prop
def rV(g:α->D):Rk α:=λv _ d _=>d=g v
def rO(g:α->Ob):Rk α:=λv _ d S=>∃n,d=.ref n/\S[n]?=some (g v)
def rN(g:α->Ob):Rk α:=λv S0 d S=>∃n,d=.ref n/\S0.length<=n/\S[n]?=some (g v)
def VE(A:List Sl)(m:ME)(R:Rk α)(p:Option α):Prop:=∀v,p=some v->∀S0 e F S,Vs S0 A e F S->∃d S',m e S=.ok d S'/\Keeps S S'/\R v S d S'
def VB(A:List Sl)(t:MT)(p:Option Bool):Prop:=∀v,p=some v->∀S0 e F S,Vs S0 A e F S->∃S',t e S=.ok v S'/\Keeps S S'
def VL(A:List Sl)(l:ML)(g:α->D)(p:Option (List α)):Prop:=∀v,p=some v->∀S0 e F S,Vs S0 A e F S->∃S',l e S=.ok (v.map g) S'/\Keeps S S'
def VK(A:List Sl)(m:MI)(g:α->D)(p:Option (List α)):Prop:=∀v,p=some v->∀S0 e F S,Vs S0 A e F S->∃w S',m e S=.ok w S'/\Keeps S S'/\∀l,Keeps S' l->w l=some (v.map g)
def VI(A:List Sl)(s:MI)(g:α->D)(p:Option (List α)):Prop:=∀v,p=some v->∀S0 e F S,Vs S0 A e F S->∃w S',s e S=.ok w S'/\Keeps S S'/\∀l m,Fle (Rb F S S') l->(∀n o,l n=.fz o->m[n]?=some o)->w m=some (v.map g)
def eP(a:α->D)(b:β->D)(x:α×β):D:=.tup [a x.1,b x.2]
def eF(l:ZLi):D:=.fro (l.map D.int)
def oL(g:α->D)(l:List α):Ob:=.lst (l.map g)
theorem mf(h:VE A m R p)(i:∀v S d S',R v S d S'->R' v S d S'):VE A m R' p:=λv g S0 e F S l=>by
 obtain⟨d,S',o,s,C⟩:=h v g S0 e F S l;exact⟨d,S',o,s,i _ _ _ _ C⟩
theorem rF(h:VE A m (rN g) p):VE A m (rO g) p:=mf h λv S d S' ⟨n,l,_,o⟩=>⟨n,l,o⟩
theorem Dq(h:A[i]?=some (.v (g v))):VE A (AF i) (rV g) (some v):=λ_ l S0 e F S m=>by
 cases l;obtain⟨x,o,s⟩:=m.sl i _ h;cases s;exact⟨_,S,by unfold AF;rw[o],Keeps.refl S,rfl⟩
theorem JK(h:A[i]?=some (.y (l v))):VE A (AF i) (rO l) (some v):=λ_ m S0 e F S g=>by
 cases m;obtain⟨x,o,n,rfl,s,_⟩:=g.sl i _ h;exact⟨_,S,by unfold AF;rw[o],Keeps.refl S,n,rfl,g.fz _ _ s⟩
theorem Zc(h:A[i]?=some (.w k (g v))):VE A (AF i) (rO g) (some v):=λ_ l S0 e F S m=>by
 cases l;obtain⟨x,o,n,rfl,C,s⟩:=m.sl i _ h;exact⟨_,S,by unfold AF;rw[o],Keeps.refl S,n,rfl,s⟩
theorem Eh(h:d=g v):VE A (mC d) (rV g) (some v):=λ_ l S0 e F S m=>by
 cases l;exact⟨d,S,rfl,Keeps.refl S,h⟩
theorem Ck(h:p.bind q=some v):∃x,p=some x/\q x=some v:=UB.mp h
theorem V5{f:D->D->Sto->Res D}{a b:ME}{m:α->D}{o:β->D}{s:γ->D}{C:Option α}{E:Option β}{g:α->β->Option γ}(J:VE A a (rV m) C)(hb:VE A b (rV o) E)
  (L:∀x y z S,g x y=some z->f (m x) (o y) S=.ok (s z) S):VE A (m2 f a b) (rV s) (C.bind λx=>E.bind λy=>g x y):=λv l S0 e F S G=>by
 obtain⟨x,N,l⟩:=Ck l;obtain⟨y,O,P⟩:=Ck l;obtain⟨d1,Q,R,H,rfl⟩:=J x N S0 e F S G;obtain⟨d2,I,T,U,rfl⟩:=hb y O S0 e _ Q (G.grow H);exact⟨_,I,L7 R T (L x y v I P),H.trans U,rfl⟩
theorem mq{f:D->D->Sto->Res D}{a b:ME}{m:α->Ob}{o:β->D}{s:γ->D}{C:Option α}{E:Option β}{g:α->β->Option γ}(L:VE A a (rO m) C)(hb:VE A b (rV o) E)
  (N:∀x y z S (n:Nat),S[n]?=some (m x)->g x y=some z->f (.ref n) (o y) S=.ok (s z) S):VE A (m2 f a b) (rV s) (C.bind λx=>E.bind λy=>g x y):=λv l S0 e F S G=>by
 obtain⟨x,O,l⟩:=Ck l;obtain⟨y,P,Q⟩:=Ck l;obtain⟨d1,R,T,H,n,rfl,U⟩:=L x O S0 e F S G;obtain⟨d2,I,X,J,rfl⟩:=hb y P S0 e _ R (G.grow H);exact⟨_,I,L7 T X (N x y v I n (J.at U) Q),H.trans J,rfl⟩
theorem mw(h:VE A m (rV D.bl) p):VB A (mB m) p:=λv g S0 e F S l=>by
 obtain⟨d,S',o,s,rfl⟩:=h v g S0 e F S l;exact⟨S',qE o,s⟩
theorem eX:∀(v:α) (S S1:Sto) (d:D) (S':Sto),S.length<=S1.length->rV g v S1 d S'->rV g v S d S':=λ_ _ _ _ _ _ h=>h
theorem rk:∀(v:α) (S S1:Sto) (d:D) (S':Sto),S.length<=S1.length->rN g v S1 d S'->rN g v S d S':=λ_ _ _ _ _ l ⟨n,m,o,s⟩=>⟨n,m,Ap l o,s⟩
inductive Fw(ρ σ:Type) where
 | rt (r:ρ) | nx (s:σ) | bk (s:σ) | ct (s:σ)
def VG(S0:Sto)(F:Fz)(S':Sto)(R:Rk ρ)(B:σ->List Sl)(g:Fl):Fw ρ σ->Prop
 | .nx s=>∃l m,g=.nx l/\Vs S0 (B s) l m S'/\Fle F m
 | .ct s=>∃l m,g=.ct l/\Vs S0 (B s) l m S'/\Fle F m
 | .bk s=>∃l m,g=.bk l/\Vs S0 (B s) l m S'/\Fle F m
 | .rt r=>∃d,g=.rt d/\R r S0 d S'/\Keeps S0 S'
def VS(A:List Sl)(b:MS)(R:Rk ρ)(p:Option (Fw ρ σ))(B:σ->List Sl):Prop:=∀f,p=some f->∀S0 e F S,Vs S0 A e F S->∃g S',b e S=.ok g S'/\VG S0 F S' R B g f
noncomputable def C0(p:Option (Fw ρ σ))(q:σ->Option (Fw ρ τ)):Option (Fw ρ τ):=match p with
 | some (.nx s)=>q s
 | some (.rt r)=>some (.rt r)
 | _=>none
theorem VG.up{S0:Sto}{F H:Fz}{S':Sto}{R:Rk ρ}{B:σ->List Sl}{g:Fl}{f:Fw ρ σ}(l:Fle F H)(h:VG S0 H S' R B g f):VG S0 F S' R B g f:=by
 cases f with
 | rt r=>exact h
 | nx s=>obtain⟨m,o,C,E,G⟩:=h;exact⟨m,o,C,E,l.trans G⟩
 | bk s=>obtain⟨m,o,C,E,G⟩:=h;exact⟨m,o,C,E,l.trans G⟩
 | ct s=>obtain⟨m,o,C,E,G⟩:=h;exact⟨m,o,C,E,l.trans G⟩
theorem Dp{a b:MS}{R:Rk ρ}{p:Option (Fw ρ σ)}{q:σ->Option (Fw ρ τ)}{B:σ->List Sl}{C:τ->List Sl}(H:VS A a R p B)(hb:∀s,VS (B s) b R (q s) C):VS A (Aq a b) R (C0 p q) C:=λf m S0 e F S I=>by
 cases p with
 | none=>cases m
 | some w=>
  obtain⟨g,E,G,l⟩:=H _ rfl S0 e F S I
  cases w with
  | nx s=>
   obtain⟨J,L,rfl,l,o⟩:=l;obtain⟨N,O,P,Q⟩:=hb s f m S0 J L E l;exact⟨N,O,(JP G).trans P,Q.up o⟩
  | rt r=>
   cases m;obtain⟨d,rfl,l,o⟩:=l;exact⟨_,E,nL G,d,rfl,l,o⟩
  | bk s=>cases m
  | ct s=>cases m
theorem lU{R:Rk ρ}{B:σ->List Sl}{s:σ}(w:Wk A (B s)):VS A sNx R (some (.nx s)) B:=λf g S0 e F S l=>by
 cases g;exact⟨_,S,rfl,e,F,rfl,l.weak w,Fle.refl F⟩
noncomputable def bZ(g:σ->τ)(p:Option (Fw ρ σ)):Option (Fw ρ τ):=match p with
 | some (.nx s)=>some (.nx (g s))
 | some (.rt r)=>some (.rt r)
 | some (.bk s)=>some (.bk (g s))
 | some (.ct s)=>some (.ct (g s))
 | none=>none
theorem UK{b:MS}{R:Rk ρ}{p:Option (Fw ρ σ)}{g:σ->τ}{B:σ->List Sl}{C:τ->List Sl}(h:VS A b R p B)(w:∀s,Wk (B s) (C (g s))):VS A b R (bZ g p) C:=λf m S0 e F S J=>by
 cases p with
 | none=>cases m
 | some x=>
  obtain⟨g,H,I,l⟩:=h _ rfl S0 e F S J
  cases x with
  | nx s=>cases m;obtain⟨o,E,rfl,l,G⟩:=l;exact⟨_,H,I,o,E,rfl,l.weak (w s),G⟩
  | rt r=>cases m;exact⟨_,H,I,l⟩
  | bk s=>cases m;obtain⟨o,E,rfl,l,G⟩:=l;exact⟨_,H,I,o,E,rfl,l.weak (w s),G⟩
  | ct s=>cases m;obtain⟨o,E,rfl,l,G⟩:=l;exact⟨_,H,I,o,E,rfl,l.weak (w s),G⟩
theorem IP(h:VE A m (rV g) p):VS A (Bp i m) R (p.bind λv=>some (.nx v)) (λv=>A.set i (.v (g v))):=λf o S0 e F S l=>by
 obtain⟨v,s,C⟩:=Ck o;cases C;obtain⟨d,S',E,G,rfl⟩:=h v s S0 e F S l;exact⟨_,S',OM E,_,_,rfl,(l.grow G).set i rfl,l.fle S'⟩
theorem P9(h:VE A m (rN o) p):VS A (Bp i m) R (p.bind λv=>some (.nx v)) (λv=>A.set i (.y (o v))):=λf s S0 e F S g=>by
 obtain⟨v,C,E⟩:=Ck s;cases E;obtain⟨d,S',G,H,n,rfl,l,I⟩:=h v C S0 e F S g;exact⟨_,S',OM G,_,_,rfl,(g.grow H).set i ⟨n,rfl,W6 l I,Ap g.kp.1 l⟩,g.fle S'⟩
theorem Za(h:VE A m (rN l) p):VS A (Bp i m) R (p.bind λv=>some (.nx v)) (λv=>A.set i (.w i (l v))):=λf o S0 e F S g=>by
 obtain⟨v,s,C⟩:=Ck o;cases C;obtain⟨d,S',E,G,n,rfl,H,I⟩:=h v s S0 e F S g;obtain⟨J,L,N⟩:=g.own G H I;exact⟨_,S',OM E,_,J,rfl,L,N⟩
theorem Qc{m:ME}{g:ρ->D}{p:Option ρ}{B:σ->List Sl}(h:VE A m (rV g) p):VS A (By m) (rV g) (p.bind λv=>some (.rt v)) B:=λf o S0 e F S l=>by
 obtain⟨v,s,C⟩:=Ck o;cases C;obtain⟨d,S',E,G,rfl⟩:=h v s S0 e F S l;exact⟨_,S',Uj E,_,rfl,rfl,l.kp.trans G⟩
theorem da{t:MT}{a b:MS}{R:Rk ρ}{pt:Option Bool}{p q:Option (Fw ρ σ)}{B:σ->List Sl}(I:VB A t pt)(J:VS A a R p B)(hb:VS A b R q B):VS A (sIf t a b) R (pt.bind λc=>if c=true then p else q) B:=λf L S0 e F S l=>by
 obtain⟨c,N,E⟩:=Ck L;obtain⟨m,G,H⟩:=I c N S0 e F S l
 cases c with
 | true=>
  obtain⟨g,o,s,C⟩:=J f E S0 e _ m (l.grow H);exact⟨g,o,(W1 G).trans s,C.up (l.fle m)⟩
 | false=>
  obtain⟨g,o,s,C⟩:=hb f E S0 e _ m (l.grow H);exact⟨g,o,(W1 G).trans s,C.up (l.fle m)⟩
def Va(l:List α)(x:α):Option (List α):=if l.length < 1000000 then some (l++[x])else none
def gh(l k:List α):Option (List α):=if l.length+k.length<=1000000 then some (l++k)else none
theorem lt24(h:n < 1000000):n < sizeLine:=Aa h (by decide)
theorem sv(h:n<=1000000):n<=sizeLine:=Ap h (by decide)
theorem UL(hi:A[i]?=some (.w i (oL g l)))(h:VE A m (rV g) p)(J:((A.set i .u).all (Sl.oth i))=true) :
  VS A (ER (Ld (AF i) m)) R (p.bind λv=>(Va l v).bind λs=>some (.nx s)) (λs=>A.set i (.w i (oL g s))):=λf L S0 e F S C=>by
 obtain⟨v,N,o⟩:=Ck L;obtain⟨s,o,O⟩:=Ck o;cases O;unfold Va at o;split at o
 ·rename_i P
  cases o;obtain⟨x,G,n,rfl,Q,E⟩:=C.sl i _ hi;obtain⟨d,S',T,H,rfl⟩:=h v N S0 e F S C;have U:=C.grow H;have I:=p7 (mo:=AF i) (by unfold AF;rw[G]) E T (H.at E) (by rw[AT];exact lt24 P);rw[show l.map g++[g v]=(l++[v]).map g by simp]at I;exact⟨_,_,kg I,e,_,rfl,U.put J hi G (by rw[Nr (Hf E)];exact Q),C.fle S'⟩
 ·cases o
def VT(g:MG)(l:α->D)(t:α->List Sl->List Sl):Prop:=∀x S0 A e F S,Vs S0 A e F S->∃m,g (l x) e S=.ok m S/\Vs S0 (t x A) m F S
theorem iu:VT (tgN i) g (λx A=>A.set i (.v (g x))):=λx S0 A e F S l=>⟨_,rfl,l.set i rfl⟩
def Ms:List α->σ->(σ->α->Option (Fw ρ σ))->Option (Fw ρ σ)
 | [],s,_=>some (.nx s)
 | x :: l,s,q=>match q s x with
  | some (.nx g)=>Ms l g q
  | some (.ct g)=>Ms l g q
  | some (.bk g)=>some (.nx g)
  | some (.rt r)=>some (.rt r)
  | none=>none
theorem iw{P:α->D}{g:MG}{t:α->List Sl->List Sl}{b:MS}{R:Rk ρ}{q:σ->α->Option (Fw ρ σ)}{B:σ->List Sl}(hg:VT g P t)(hb:∀s x,VS (t x (B s)) b R (q s x) B){w:On}{S0:Sto}{Z:Fz}{m:List α}
  (hw:∀zF xC,Fle Z zF->(∀n o,zF n=.fz o->xC[n]?=some o)->w xC=some (m.map P)):∀(l:List α) (k:Nat),m.drop k=l->∀(s:σ) (f:Fw ρ σ),Ms l s q=some f->∀e F S,Vs S0 (B s) e F S->Fle Z F->∃h S',Od w g b (l.length) k e S=.ok h S'/\VG S0 Z S' R B h f:=by
 intro l
 induction l with
 | nil=>
  intro k U s f E e F S Q G;cases E
  have:m.length<=k:=by
   have:=congrArg Ln U;rw[FD,Fh]at this
   lia
  refine⟨_,S,?_,e,F,rfl,Q,G⟩;unfold Od;rw[hw F S G Q.fz];dsimp only;rw[BZ (by rw[AT];exact this)]
 | cons x l ih=>
  intro k U s f E e F S Q G
  have hx:m[k]?=some x:=by
   have:=congrArg (λz=>z[0]?) U;rw[B4]at this;simpa using this
  have vk:m.drop (k+1)=l:=by
   have H:m.drop (k+1)=(m.drop k).drop 1:=by rw[lP]
   exact H.trans (congrArg (List.drop 1) U)
  obtain⟨H,g1,X⟩:=hg x S0 _ e F S Q
  have run:∀h S',b H S=.ok h S'->Od w g b ((x :: l).length) k e S=(match h with
    | .nx C=>Od w g b l.length (k+1) C S'
    | .ct C=>Od w g b l.length (k+1) C S'
    | .bk C=>.ok (.nx C) S'
    | .rt d=>.ok (.rt d) S'
    | .ex c C=>.ok (.ex c C) S'):=λh S' hb'=>by
   conv=>lhs;unfold Od
   rw[hw F S G Q.fz];dsimp only;rw[Ak,hx];dsimp only[ZQ];rw[g1];dsimp only[Res.bind];rw[hb']
   all_goals (cases h <;> rfl)
  unfold Ms at E;split at E
  ·rename_i Y I
   obtain⟨h,J,L,C,T,rfl,N,O⟩:=hb s x _ I S0 H F S X;rw[run _ _ L];exact ih (k+1) vk Y f E C T J N (G.trans O)
  ·rename_i Y I
   obtain⟨h,J,L,C,T,rfl,N,O⟩:=hb s x _ I S0 H F S X;rw[run _ _ L];exact ih (k+1) vk Y f E C T J N (G.trans O)
  ·rename_i Y I
   cases E;obtain⟨h,J,L,C,T,rfl,N,O⟩:=hb s x _ I S0 H F S X;rw[run _ _ L];exact⟨_,J,rfl,C,T,rfl,N,G.trans O⟩
  ·rename_i r I
   cases E;obtain⟨h,J,L,d,rfl,N,O⟩:=hb s x _ I S0 H F S X;rw[run _ _ L];exact⟨_,J,rfl,d,rfl,N,O⟩
  ·cases E
theorem mY{m:α->D}{G:MI}{g:MG}{t:α->List Sl->List Sl}{b:MS}{R:Rk ρ}{p:Option (List α)}{q:σ->α->Option (Fw ρ σ)}{B:σ->List Sl}{s0:σ}(hi:VI A G m p)(I:VT g m t)(w0:Wk A (B s0))(hb:∀s x,VS (t x (B s)) b R (q s x) B) :
  VS A (ED G g b) R (p.bind λl=>Ms l s0 q) B:=λf J S0 e F S E=>by
 obtain⟨l,L,N⟩:=Ck J;obtain⟨w,C,O,P,H⟩:=hi l L S0 e F S E;have o:=E.grow P
 have Q:EQ w C=l.length:=by unfold EQ;rw[H _ C (Fle.refl _) o.fz];exact AT _
 obtain⟨h,T,U,X⟩:=iw I hb H l 0 rfl s0 f N e _ C (o.weak w0) (Fle.refl _);refine⟨h,T,?_,X.up (E.fle C)⟩;rw[pP O,Q];exact U
theorem UO(h:VL A m g p):VE A (Dz m) (rN (oL g)) p:=λv o S0 e F S s=>by
 obtain⟨S',C,l⟩:=h v o S0 e F S s;exact⟨_,_,fP C,l.trans (Keeps.app _ _),_,rfl,l.1,Jr _ _⟩
inductive Ar where
 | v (d:D) | z (o:Ob) | q (P:(Nat->Option Ob)->D->Prop)
def Ar.ok(S:Sto):Ar->D->Prop
 | .v d,x=>x=d
 | .z o,x=>∃n,x=.ref n/\S[n]?=some o
 | .q P,x=>∀L:Nat->Option Ob,(∀n o,S[n]?=some o->L n=some o)->P L x
def Ar.sl:Ar->Sl
 | .v d=>.v d
 | .z o=>.z o
 | .q P=>.q P
def MB(S:Sto):List Ar->List D->Prop
 | [],[]=>True
 | a :: as,d :: g=>a.ok S d/\MB S as g
 | _,_=>False
theorem MB.len:∀{as:List Ar} {ds:List D},MB S as ds->ds.length=as.length
 | [],[],_=>rfl
 | _ :: as,_ :: ds,h=>by rw[A0,A0,MB.len h.2]
 | [],_ :: _,h=>h.elim
 | _ :: _,[],h=>h.elim
theorem MB.at:∀{as:List Ar} {ds:List D},MB S as ds->∀(i:Nat) (a:Ar),as[i]?=some a->∃d,ds[i]?=some d/\a.ok S d
 | [],[],_,i,a,h=>by simp at h
 | b :: as,d :: ds,h,0,a,q=>by cases q;exact⟨d,rfl,h.1⟩
 | b :: as,d :: ds,h,i+1,a,q=>MB.at h.2 i a q
 | [],_ :: _,h,_,_,_=>h.elim
 | _ :: _,[],h,_,_,_=>h.elim
def VF(f:List D->Sto->Res D)(as:List Ar)(R:Rk α)(p:Option α):Prop:=∀v,p=some v->∀S g,MB S as g->∃d S',f g S=.ok d S'/\Keeps S S'/\R v S d S'
def VA(A:List Sl)(l:ML)(p:Option γ)(m:γ->List Ar):Prop:=∀v,p=some v->∀S0 e F S,Vs S0 A e F S->∃g S',l e S=.ok g S'/\Keeps S S'/\MB S' (m v) g
theorem UP:VA A Ay (some ()) (λ_=>[]):=λv g S0 e F S l=>⟨[],S,rfl,Keeps.refl S,trivial⟩
theorem di(h:VE A m (rV g) p)(s:VA A C q E):VA A (AL m C) (p.bind λx=>q.bind λy=>some (x,y)) (λz=>.v (g z.1) :: E z.2):=λv G S0 e F S l=>by
 obtain⟨x,H,I⟩:=Ck G;obtain⟨y,J,L⟩:=Ck I;cases L;obtain⟨d,N,O,o,rfl⟩:=h x H S0 e F S l;obtain⟨U,P,Q,R,T⟩:=s y J S0 e _ N (l.grow o);exact⟨_,P,Jp O Q,o.trans R,rfl,T⟩
theorem QA(o:VA A s p g)(C:∀z,VF f (g z) R (q z))(E:∀z,(g z).length=n)(hR:∀v S S1 d S',S.length<=S1.length->R v S1 d S'->R v S d S'):VE A (BE n f s) R (p.bind q):=λv G S0 e F S H=>by
 obtain⟨z,I,J⟩:=Ck G;obtain⟨L,S1,N,l,m⟩:=o z I S0 e F S H;obtain⟨d,O,P,Q,T⟩:=C z v J S1 L m;exact⟨d,O,(aS N (m.len.trans (E z))).trans P,l.trans Q,hR _ _ _ _ _ l.1 T⟩
def T3(S:Sto):Fz:=λn=>match S[n]? with
 | some o=>.fz o
 | none=>.no
theorem Vs.start(h:MB S as ds):Vs S (as.map Ar.sl++BF (n - as.length) .u) (JO n ds) (T3 S) S:=by
 refine⟨Keeps.refl S,λn o q=>?_,λn i q=>?_,λn C=>by unfold T3;rw[BZ C],λi a g=>?_⟩
 ·unfold T3 at q
  split at q
  ·rename_i O E;cases q;exact E
  ·cases q
 ·unfold T3 at q
  split at q <;> cases q
 ·unfold JO
  by_cases c:i < as.length
  ·rw[AM (by rw[AT];exact c),Ak]at g
   rw[AM (by rw[AT,h.len];exact c),Ak]
   cases l:as[i]? with
   | none=>rw[l]at g;cases g
   | some b=>
    rw[l]at g;cases g;obtain⟨d,G,s⟩:=h.at i b l;refine⟨some d,by rw[G];rfl,?_⟩
    cases b with
    | v x=>exact congrArg some s
    | z o=>obtain⟨m,H,I⟩:=s;exact⟨m,congrArg some H,by unfold T3;rw[I]⟩
    | q P=>exact⟨d,rfl,λL J=>s L λn o q=>J n o (by unfold T3;rw[q])⟩
  ·rw[Aj (by rw[AT];lia)]at g
   rw[AT,DC]at g;split at g
   ·rename_i N
    cases g;refine⟨none,?_,trivial⟩;rw[Aj (by rw[AT,h.len];lia),AT,h.len,DC,qX N]
   ·cases g
def We(p:Option (Fw ρ σ)):Option ρ:=match p with
 | some (.rt r)=>some r
 | _=>none
end
section
variable{S0 S S':Sto}{A:List Sl}{α β γ δ:Type}
section
variable{a b:ME}{pa pb:Option Int}
def Wq(x y:Int):Option Int:=if 0 < y then some (x % y)else none
theorem dc(g:VE A a (rV D.int) pa)(hb:VE A b (rV D.int) pb):VE A (m2 Wr a b) (rV D.int) (pa.bind λx=>pb.bind λy=>Wq x y):=V5 g hb λx y z S h=>by
 unfold Wq at h;split at h
 ·rename_i l;cases h;exact Z4 l
 ·cases h
theorem V6(l:(decide (0 < k)&&decide (k<=1000000))=true)(m:VE A a (rV D.int) pa):VE A (m2 Tr a (mC (.int k))) (rV D.int) (pa.bind λx=>some (x / k)):=λv o S0 e F S s=>by
 obtain⟨x,B,C⟩:=Ck o;cases C;obtain⟨d,S',E,G,rfl⟩:=m x B S0 e F S s;have g:=Bv _ _▸l;exact⟨_,S',L7 E rfl (gd (of_decide_eq_true g.1) (of_decide_eq_true g.2)),G,rfl⟩
theorem Zd(g:decide (0 < k)=true)(l:VE A a (rV D.int) pa):VE A (m2 Wr a (mC (.int k))) (rV D.int) (pa.bind λx=>some (x % k)):=λv m S0 e F S o=>by
 obtain⟨x,s,B⟩:=Ck m;cases B;obtain⟨d,S',C,E,rfl⟩:=l x s S0 e F S o;exact⟨_,S',L7 C rfl (Z4 (of_decide_eq_true g)),E,rfl⟩
theorem rG(g:VE A a (rV D.int) pa)(hb:VE A b (rV D.int) pb):VE A (m2 ltD a b) (rV D.bl) (pa.bind λx=>pb.bind λy=>some (decide (x < y))):=V5 g hb λx y z S h=>by cases h;rfl
theorem i8{pa pb}(s:VE A a (rV D.bl) pa)(hb:VE A b (rV D.bl) pb):VE A (Th a b) (rV D.bl) (pa.bind λx=>if x=true then pb else some false):=λv B S0 e F S l=>by
 obtain⟨x,C,m⟩:=Ck B;obtain⟨d,S',o,g,rfl⟩:=s x C S0 e F S l
 cases x with
 | true=>
  obtain⟨d,E,G,H,rfl⟩:=hb v m S0 e _ S' (l.grow g);exact⟨_,E,by unfold Th;rw[o];exact G,g.trans H,rfl⟩
 | false=>cases m;exact⟨_,S',by unfold Th;rw[o];rfl,g,rfl⟩
end
def EqN(n:Nat)(g:α->D)[DecidableEq α]:Prop:=∀x y,eqP n (g x) (g y)=some (decide (x=y))
def NL(g:α->D):Prop:=∀x S,OZ (g x) S=none
theorem aN:EqN n D.int:=λx y=>by
 have:K5 (.int x) (.int y)=some (decide (x=y)):=rfl
 cases n <;> exact this
theorem aM:EqN n D.str:=λx y=>by
 have:K5 (.str x) (.str y)=some (decide (x=y)):=rfl
 cases n <;> exact this
theorem fN:NL D.int:=λ_ _=>rfl
section
variable{a b:ME}{enc:α->D}[DecidableEq α]
theorem pV(h:EqN 8 enc)(n:NL enc)(neg:Bool)(x y:α)(S:Sto):eqD neg (enc x) (enc y) S=.ok (.bl (if neg then !decide (x=y)else decide (x=y))) S:=by
 unfold eqD eqB;rw[n x S,n y S];rw[h x y]
theorem lV(h:EqN 8 enc)(n:NL enc)(g:VE A a (rV enc) l)(hb:VE A b (rV enc) m):VE A (m2 (eqD false) a b) (rV D.bl) (l.bind λx=>m.bind λy=>some (decide (x=y))):=V5 g hb λx y z S q=>by cases q;exact pV h n false x y S
theorem XS(h:EqN 8 enc)(x:α):∀l:List α,MA (enc x) (l.map enc)=some (decide (x∈l))
 | []=>by simp[MA]
 | y :: l=>by
  rw[A2];unfold MA;rw[h y x,XS h x l]
  by_cases c:y=x
  ·subst c;simp
  ·have:¬x=y:=λz=>c z.symm
   simp[c,this]
theorem oy(h:EqN 8 enc)(neg:Bool)(x:α){l:List α}{d:D}{S:Sto}(g:HN d S=some (l.map enc)):inA neg (enc x) d S=.ok (.bl (if neg then !decide (x∈l)else decide (x∈l))) S:=by
 show Ko (inD neg (enc x) d S) _=_
 have e:inD neg (enc x) d S=.ok (.bl (if neg then !decide (x∈l)else decide (x∈l))) S:=by
  unfold inD;rw[g];dsimp only;rw[XS h]
 rw[e];rfl
theorem pU(h:EqN n enc):∀l k:List α,eqL (eqP n) (l.map enc) (k.map enc)=some (decide (l=k)):=by
 intro l
 induction l with
 | nil=>intro k;cases k <;> rfl
 | cons x l g=>
  intro k
  cases k with
  | nil=>rfl
  | cons y k=>
   rw[A2,A2];unfold eqL;rw[h x y,g k]
   by_cases c:x=y <;> by_cases d:l=k <;> simp[c,d]
theorem cC(h:EqN 8 enc)(neg:Bool)(g:S[n]?=some (oL enc l))(o:S[m]?=some (oL enc k)):eqD neg (.ref n) (.ref m) S=.ok (.bl (if neg then !decide (l=k)else decide (l=k))) S:=by
 unfold eqD eqB;rw[Wx g,Wx o];dsimp only;rw[AT,AT]
 by_cases c:l.length=k.length
 ·rw[qX c,pU h]
 ·rw[qY c,wY λz=>c (by rw[z])]
theorem rH{f:D->D->Sto->Res D}{o:β->Ob}{s:γ->Ob}{B:δ->D}{C:Option β}{E:Option γ}{g:β->γ->Option δ}(L:VE A a (rO o) C)(hb:VE A b (rO s) E)
  (N:∀x y z S (n m:Nat),S[n]?=some (o x)->S[m]?=some (s y)->g x y=some z->f (.ref n) (.ref m) S=.ok (B z) S):VE A (m2 f a b) (rV B) (C.bind λx=>E.bind λy=>g x y):=λv l S0 e F S G=>by
 obtain⟨x,O,l⟩:=Ck l;obtain⟨y,P,Q⟩:=Ck l;obtain⟨d1,R,T,H,n,rfl,U⟩:=L x O S0 e F S G;obtain⟨d2,I,X,J,m,rfl,Y⟩:=hb y P S0 e _ R (G.grow H);exact⟨_,I,L7 T X (N x y v I n m (J.at U) Y Q),H.trans J,rfl⟩
theorem mn{g l:Option (List α)}(h:EqN 8 enc)(o:VE A a (rO (oL enc)) g)(hb:VE A b (rO (oL enc)) l):VE A (m2 (eqD false) a b) (rV D.bl) (g.bind λx=>l.bind λy=>some (decide (x=y))):=rH o hb λx y z S n m s B q=>by cases q;exact cC h false s B
end
section
variable{a b m mo:ME}
theorem lC(l:List α)(i:Int)(f:α->β):atI (l.map f) i=(atI l i).map f:=by
 unfold atI;rw[AT]
 cases ixN l.length i with
 | none=>rfl
 | some j=>show(l.map f)[j]?=(l[j]?).map f;rw[Ak]
theorem fo(o:HN d S=some (l.map g))(h:atI l i=some x):ixA d (.int i) S=.ok (g x) S:=by
 show Ko (ixD d (.int i) S) _=_
 have:ixD d (.int i) S=.ok (g x) S:=by
  unfold ixD;rw[o];dsimp only;rw[lC,h];rfl
 rw[this];rfl
theorem md{pl}(g:VE A a (rV eF) pl)(hb:VE A b (rV D.int) pi):VE A (m2 ixA a b) (rV D.int) (pl.bind λl=>pi.bind λi=>atI l i):=V5 g hb λl i z S q=>fo rfl q
theorem df(o:VE A a (rO (oL g)) pl)(hb:VE A b (rV D.int) pi):VE A (m2 ixA a b) (rV g) (pl.bind λl=>pi.bind λi=>atI l i):=mq o hb λl i z S n s q=>fo (Qs s) q
theorem i5{pl}(g:VE A a (rV eF) pl):VE A (HG a) (rV D.int) (pl.bind λl=>some (l.length:Int)):=λv o S0 e F S s=>by
 obtain⟨l,B,C⟩:=Ck o;cases C;obtain⟨d,S',E,G,rfl⟩:=g l B S0 e F S s;exact⟨_,S',(fX E rfl).trans (by rw[AT]),G,rfl⟩
theorem Ze(g:VE A a (rO (oL o)) pl):VE A (HG a) (rV D.int) (pl.bind λl=>some (l.length:Int)):=λv s S0 e F S B=>by
 obtain⟨l,C,E⟩:=Ck s;cases E;obtain⟨d,S',G,H,n,rfl,I⟩:=g l C S0 e F S B;exact⟨_,S',(fX G (Qs I)).trans (by rw[AT]),H,rfl⟩
theorem UM:VL A Ay g (some []):=λv l S0 e F S o=>by cases l;exact⟨S,rfl,Keeps.refl S⟩
theorem Fm(h:VE A m (rV g) p)(B:VL A C g pl):VL A (AL m C) g (p.bind λx=>pl.bind λl=>some (x :: l)):=λv E S0 e F S o=>by
 obtain⟨x,G,H⟩:=Ck E;obtain⟨l,I,J⟩:=Ck H;cases J;obtain⟨d,L,N,s,rfl⟩:=h x G S0 e F S o;obtain⟨O,P,Q⟩:=B l I S0 e _ L (o.grow s);exact⟨O,Jp N P,s.trans Q⟩
def U6(l:List α):Option (List α):=if l.length<=1000000 then some l else none
theorem NG(h:VL A s o pl):VL A (Dr s) o (pl.bind U6):=λv B S0 e F S C=>by
 obtain⟨l,E,g⟩:=Ck B;unfold U6 at g;split at g
 ·rename_i G
  cases g;obtain⟨S',H,I⟩:=h _ E S0 e F S C;refine⟨S',?_,I⟩;unfold Dr;rw[H];dsimp only[Res.bind];rw[qX (by rw[AT];exact sv G)]
 ·cases g
theorem LF(s:VE A a (rV B) C)(hb:VE A b (rV E) G):VE A (Gb (AL a (AL b Ay))) (rV (eP B E)) (C.bind λx=>G.bind λy=>some (x,y)):=λv g S0 e F S l=>by
 obtain⟨x,H,g⟩:=Ck g;obtain⟨y,I,J⟩:=Ck g;cases J;obtain⟨d1,L,N,o,rfl⟩:=s x H S0 e F S l;obtain⟨d2,O,P,Q,rfl⟩:=hb y I S0 e _ L (l.grow o);exact⟨_,O,m8 (Jp N (Jp P rfl)) (by simp),o.trans Q,rfl⟩
theorem i7(G:VE A a (rO (oL g)) pl)(hb:VE A b (rO (oL g)) pk):VE A (m2 Hz a b) (rN (oL g)) (pl.bind λl=>pk.bind λk=>gh l k):=λv s S0 e F S E=>by
 obtain⟨x,H,s⟩:=Ck s;obtain⟨y,I,o⟩:=Ck s;obtain⟨d1,J,L,B,n,rfl,N⟩:=G x H S0 e F S E;obtain⟨d2,R,O,C,m,rfl,P⟩:=hb y I S0 e _ J (E.grow B);unfold gh at o;split at o
 ·rename_i Q
  cases o;refine⟨_,_,L7 L O ?_,(B.trans C).trans (Keeps.app _ _),_,rfl,(B.trans C).1,Jr _ _⟩;unfold Hz;dsimp only;rw[C.at N,P];unfold oL;dsimp only;rw[qX (by rw[AT,AT];exact sv Q),DG]
 ·cases o
def VO(A:List Sl)(mo:MO)(p:Option (Option Int)):Prop:=∀v,p=some v->∀S0 e F S,Vs S0 A e F S->∃S',mo e S=.ok v S'/\Keeps S S'
theorem i0:VO A Gs (some none):=λv g S0 e F S l=>by cases g;exact⟨S,rfl,Keeps.refl S⟩
theorem iz(h:VE A m (rV D.int) pi):VO A (FV m) (pi.bind λi=>some (some i)):=λv g S0 e F S l=>by
 obtain⟨x,o,s⟩:=Ck g;cases s;obtain⟨d,S',B,C,rfl⟩:=h x o S0 e F S l;exact⟨S',by unfold FV;rw[B];rfl,C⟩
theorem gt(l:List α)(f:α->β)(lo hi:Option Int):Iz (l.map f) lo hi=(Iz l lo hi).map f:=by
 unfold Iz;rw[AT,<-List.map_drop,<-List.map_take]
theorem mZ(s:VE A a (rN (oL g)) pl):VI A (EV a) g pl:=λl B S0 e F S C=>by
 obtain⟨d,S',E,G,n,rfl,H,o⟩:=s l B S0 e F S C;exact⟨_,S',W2 E o,G,λJ L I h=>OH (h n _ (I _ _ (W6 H o)))⟩
end
end
section
variable{α β κ κ':Type}
theorem dh[DecidableEq κ][DecidableEq κ']{kk:κ->κ'}(g:∀x y,kk x=kk y->x=y)(f:α->β)(l:List (κ×α))(k:κ):Ev (l.map λx=>(kk x.1,f x.2)) (kk k)=(Ev l k).map f:=by
 unfold Ev
 induction l with
 | nil=>rfl
 | cons x l m=>
  rw[A2,CL,CL]
  by_cases c:x.1=k
  ·rw[wX c,wX (by rw[c])]
   rfl
  ·rw[wY c,wY λz=>c (g _ _ z)]
   exact m
theorem eZ[DecidableEq κ][DecidableEq κ']{kk:κ->κ'}(m:∀x y,kk x=kk y->x=y)(f:α->β)(l:List (κ×α))(k:κ)(v:α):IV (l.map λx=>(kk x.1,f x.2)) (kk k) (f v)=(IV l k v).map λx=>(kk x.1,f x.2):=by
 have any:((l.map λx=>(kk x.1,f x.2)).any λg=>decide (g.1=kk k))=l.any λg=>decide (g.1=k):=by
  rw[List.any_map]
  congr 1
  funext x
  exact decide_eq_decide.mpr ⟨m _ _,λz=>congrArg kk z⟩
 unfold IV;rw[any];split
 ·rw[Cq,Cq]
  refine DK λx _=>?_
  show(if kk x.1=kk k then(kk x.1,f v)else(kk x.1,f x.2))=_
  by_cases c:x.1=k
  ·show _=(λx:κ×α=>(kk x.1,f x.2)) (if x.1=k then(x.1,v)else x)
   rw[qX c,qX (by rw[c])]
  ·show _=(λx:κ×α=>(kk x.1,f x.2)) (if x.1=k then(x.1,v)else x)
   rw[qY c,qY λz=>c (m _ _ z)]
 ·rw[DG]
  rfl
theorem pe(g:HN (.ref n) S=none)(h:XB (.ref n) y S=some o)(neg:Bool):inA neg y (.ref n) S=.ok (.bl (if neg then !o.isSome else o.isSome)) S:=by
 show Ko (inD neg y (.ref n) S) (Oh neg y (.ref n) S)=_;rw[show inD neg y (.ref n) S=.bad by unfold inD;rw[g]];show Oh neg y (.ref n) S=_;unfold Oh;rw[h]
theorem gs(g:HN (.ref n) S=none)(h:XB (.ref n) y S=some (some d)):ixA (.ref n) y S=.ok d S:=by
 show Ko (ixD (.ref n) y S) (Rh (.ref n) y S)=_;rw[show ixD (.ref n) y S=.bad by unfold ixD;rw[g]];show Rh (.ref n) y S=_;unfold Rh;rw[h]
end
section
variable{α ρ σ:Type}
theorem gZ(I:List α->σ->Prop)(R:ρ->Prop)(C:I [] s0)(h:∀g x s,x∈l->g++[x] <+: l->I g s->(∃s',q s x=some (.nx s')/\I (g++[x]) s')∨∃r,q s x=some (.rt r)/\R r):(∃s,Ms l s0 q=some (.nx s)/\I l s)∨∃r,Ms l s0 q=some (.rt r)/\R r:=by
 have m:∀(r g:List α) (s:σ),l=g++r->I g s->(∃s',Ms r s q=some (.nx s')/\I l s')∨∃y,Ms r s q=some (.rt y)/\R y:=by
  intro r
  induction r with
  | nil=>intro g s e o;rw[Bt]at e;subst e;exact .inl ⟨s,rfl,o⟩
  | cons x r E=>
   intro g s e o
   rcases h g x s (by rw[e];simp) ⟨r,by rw[e];simp⟩ o with⟨s',A,B⟩ | ⟨y,A,B⟩
   ·have G:Ms (x :: r) s q=Ms r s' q:=by
     conv=>lhs;unfold Ms
     rw[A]
    rw[G];exact E (g++[x]) s' (by rw[e];simp) B
   ·refine .inr ⟨y,?_,B⟩
    unfold Ms;rw[A]
 exact m l [] s0 rfl C
theorem QM(h:l.length < 1000000):Va l x=some (l++[x]):=qX h
theorem kf(h:l.length+k.length<=1000000):gh l k=some (l++k):=qX h
theorem QJ(h:l.length<=1000000):U6 l=some l:=qX h
def Ok(p:Option α)(P:α->Prop):Prop:=∃v,p=some v/\P v
theorem Ok.is(h:Ok p λr=>r=v):p=some v:=by
 obtain⟨_,g,rfl⟩:=h;exact g
def OkF(p:Option (Fw ρ σ))(N:σ->Prop)(R:ρ->Prop):Prop:=(∃s,p=some (.nx s)/\N s)∨∃r,p=some (.rt r)/\R r
theorem OkF.nx(h:N s):OkF (some (.nx s)) N R:=.inl ⟨s,rfl,h⟩
theorem OkF.rt(h:R r):OkF (some (.rt r)) N R:=.inr ⟨r,rfl,h⟩
theorem OkF.seq(h:OkF p N R)(g:∀s,N s->OkF (q s) N' R):OkF (C0 p q) N' R:=by
 rcases h with⟨s,rfl,h⟩ | ⟨r,rfl,h⟩
 ·exact g s h
 ·exact .inr ⟨r,rfl,h⟩
theorem OkF.for(I:List α->σ->Prop)(m:I [] s0)(h:∀g x s,x∈l->g++[x] <+: l->I g s->OkF (q s x) (I (g++[x])) R):OkF (Ms l s0 q) (I l) R:=gZ I R m h
theorem OkF.out(h:OkF p (λ_=>False) R):Ok (We p) R:=by
 rcases h with⟨s,rfl,h⟩ | ⟨r,rfl,h⟩
 ·exact h.elim
 ·exact⟨r,rfl,h⟩
theorem OkF.imp(h:OkF p N R)(g:∀s,N s->N' s)(l:∀r,R r->R' r):OkF p N' R':=by
 rcases h with⟨s,rfl,h⟩ | ⟨r,rfl,h⟩
 ·exact .inl ⟨s,rfl,g s h⟩
 ·exact .inr ⟨r,rfl,l r h⟩
end
section
variable{ρ σ:Type}
theorem Zb{n:Nat}{b:MS}{as:List Ar}{R:Rk ρ}{p:Option (Fw ρ σ)}{B:σ->List Sl}(h:VS (as.map Ar.sl++BF (n - as.length) .u) b R p B):VF (CO n b) as R (We p):=λv l S G o=>by
 cases p with
 | none=>cases l
 | some x=>
  obtain⟨g,A,C,m⟩:=h _ rfl S _ _ S (Vs.start o)
  cases x with
  | rt r=>cases l;obtain⟨d,rfl,m,E⟩:=m;exact⟨d,A,L2.Uh C,E,m⟩
  | nx s=>cases l
  | bk s=>cases l
  | ct s=>cases l
theorem me(g:VE A a (rO (oL l)) p)(hb:isB t "list" = some r):VE A (L2.mIs (isB t) (λ_=>none) a) (rV D.bl) (p.bind λ_=>some r):=λv m o e F S s=>by
 obtain⟨x,B,C⟩:=Ck m;cases C;obtain⟨d,E,G,H,n,rfl,I⟩:=g x B o e F S s;exact⟨_,E,L2.sx G (by unfold tyD;dsimp only;rw[I];rfl) hb,H,rfl⟩
end
section
variable{κ α:Type}[DecidableEq κ]
theorem dg(l:List (κ×α))(k:κ)(v:α)(k':κ):Ev (IV l k v) k'=if k'=k then some v else Ev l k':=by
 have o:∀l:List (κ×α),Ev (l.map λg=>if g.1=k then(g.1,v)else g) k'=if k'=k then(Ev l k').map (λ_=>v)else Ev l k':=by
  intro l
  induction l with
  | nil=>unfold Ev;simp
  | cons x l s=>
   unfold Ev at s ⊢;rw[A2,CL,CL]
   by_cases c:x.1=k
   ·rw[qX c]
    by_cases d:x.1=k'
    ·rw[wX d,qX (d▸c)]
     rfl
    ·rw[wY d]
     exact s
   ·rw[qY c]
    by_cases d:x.1=k'
    ·rw[wX d,qY (λz:k'=k=>c (d.trans z))]
    ·rw[wY d]
     exact s
 unfold IV;split
 ·rename_i h
  rw[o]
  by_cases c:k'=k
  ·rw[qX c,qX c]
   subst c
   have:(Ev l k').isSome=true:=by
    unfold Ev;rw[IM,List.find?_isSome];obtain⟨x,m,A⟩:=G0.mp h;exact⟨x,m,A⟩
   obtain⟨b,hb⟩:=Ib.mp this;rw[hb];rfl
  ·rw[qY c,qY c]
 ·rename_i h
  unfold Ev;rw[List.find?_append]
  by_cases c:k'=k
  ·subst c
   rw[qX rfl]
   have:l.find? (λg=>decide (g.1=k'))=none:=by
    rw[cw];intro x m A;exact h (G0.mpr ⟨x,m,A⟩)
   rw[this];simp
  ·rw[qY c]
   have:[(k,v)].find? (λg=>decide (g.1=k'))=none:=by
    rw[cw];intro x m;rw[A1.mp m];simp
    exact λz=>c z.symm
   rw[this];simp
end
def hb(bits x:Int):Bool:=HK (bits / 2 ^ x.toNat) 1 != 0
abbrev HL:=List ZPi
abbrev QL:=List (Int×Bool)
section
abbrev w0(T:Int->ZLi)(bits g:Int):ZLi:=(T g).filter (hb bits)
def MOn(T:Int->ZLi)(bits:Int)(P:Int->Prop)(H:HL):Prop:=(∀x,P x->∀a,Ev H x=some a->x∈w0 T bits a)/\∀x y a,P x->P y->Ev H x=some a->Ev H y=some a->x=y
abbrev sn(Q:QL)(x:Int):Prop:=(Ev Q x).isSome=true
def Good(T:Int->ZLi)(bits:Int)(H:HL)(g:Int)(Q:QL)(l:HL):Prop:=
 (∀x,sn Q x->Ev l x=Ev H x)/\(MOn T bits (λx=>¬sn Q x) H->(∀x,¬sn Q x->Ev H x≠some g)->MOn T bits (λx=>¬sn Q x) l/\∀a,(∃x,¬sn Q x/\Ev l x=some a)↔a=g∨∃x,¬sn Q x/\Ev H x=some a)
end
section
theorem FP(h:e[i]?=some (some d)):AF i e S=.ok d S:=by unfold AF;rw[h]
end
section
theorem i6(G:VE A a (rV eF) pl)(H:VO A mlo I)(J:VO A mhi ph):VE A (D8 a mlo mhi) (rN (oL D.int)) (pl.bind λl=>I.bind λx=>ph.bind λy=>some (Iz l x y)):=λv g o e F S s=>by
 obtain⟨l,L,g⟩:=Ck g;obtain⟨x,N,g⟩:=Ck g;obtain⟨y,O,P⟩:=Ck g;cases P;obtain⟨d1,Q,R,m,rfl⟩:=G l L o e F S s;obtain⟨T,U,B⟩:=H x N o e _ Q (s.grow m);obtain⟨C,X,E⟩:=J y O o e _ T ((s.grow m).grow B);refine⟨.ref C.length,C++[oL D.int (Iz l x y)],?_,((m.trans B).trans E).trans (Keeps.app _ _),_,rfl,((m.trans B).trans E).1,Jr _ _⟩;unfold D8;rw[R];dsimp only[Res.bind];rw[U];dsimp only;rw[X];show Res.ok _ (C++[Ob.lst (Iz (l.map D.int) x y)])=_;rw[gt];rfl
end
section
def Gz(x y:Str):Option Str:=if x.length+y.length<=sizeLine then some (x++y)else none
theorem JL(g:VE A a (rV D.str) l)(hb:VE A b (rV D.str) m):VE A (m2 Sx a b) (rV D.str) (l.bind λx=>m.bind λy=>Gz x y):=V5 g hb λx y z S h=>by
 unfold Gz at h;split at h
 ·rename_i o
  cases h;show(if x.length+y.length<=sizeLine then Res.ok (D.str (x++y)) S else .bad)=_;rw[qX o]
 ·cases h
def Tk(g:Str)(l:List Str):Option Str:=if dP g l=true then some (PM g l)else none
theorem de(E:VE A a (rV D.str) G)(hb:VE A b (rO (oL D.str)) pl):VE A (Jh a b) (rV D.str) (G.bind λx=>pl.bind λl=>Tk x l):=λv m o e F S s=>by
 obtain⟨x,H,m⟩:=Ck m;obtain⟨l,I,g⟩:=Ck m;obtain⟨d,J,L,B,rfl⟩:=E x H o e F S s;obtain⟨d2,C,N,O,n,rfl,P⟩:=hb l I o e _ J (s.grow B);unfold Tk at g;split at g
 ·rename_i Q
  cases g;refine⟨_,C,?_,B.trans O,rfl⟩
  have R:atL (.ref n) C=some (n,l.map D.str):=by unfold atL;dsimp only;rw[P];rfl
  unfold Jh;rw[L];dsimp only[Res.bind];rw[N];dsimp only[Res.bind];rw[R];dsimp only;rw[Qk];dsimp only;rw[qX Q]
 ·cases g
def IQ(x y:Str):Option (List Str):=if Gj x y=true then some (DF x y)else none
theorem aq(C:VE A a (rV D.str) E)(hb:VE A b (rV D.str) G):VE A (Ew a b) (rN (oL D.str)) (E.bind λx=>G.bind λy=>IQ x y):=λv l o e F S s=>by
 obtain⟨x,H,l⟩:=Ck l;obtain⟨y,I,g⟩:=Ck l;obtain⟨d,J,L,m,rfl⟩:=C x H o e F S s;obtain⟨d2,N,O,B,rfl⟩:=hb y I o e _ J (s.grow m);unfold IQ at g;split at g
 ·rename_i P
  cases g;refine⟨.ref N.length,_,?_,(m.trans B).trans (Keeps.app _ _),_,rfl,(m.trans B).1,Jr _ _⟩;unfold Ew;rw[L];dsimp only[Res.bind];rw[O];dsimp only[Res.bind];rw[qX P];rfl
 ·cases g
end
section
variable{S0 S S':Sto}{A:List Sl}{e:Lo}{F:Fz}{a m:ME}
theorem iy(h:VE A m (rV (eP l o)) p):VS A (bG m (Kd 2 (D7 (tgN i) (D7 (tgN j) Ls)))) R (p.bind λv=>some (.nx v)) (λv=>(A.set i (.v (l v.1))).set j (.v (o v.2))):=λf s S0 e F S g=>by
 obtain⟨v,B,C⟩:=Ck s;cases C;obtain⟨d,S',E,G,rfl⟩:=h v B S0 e F S g;refine⟨_,S',?_,_,_,rfl,((g.grow G).set (a:=.v (l v.1)) i rfl).set j rfl,g.fle S'⟩;unfold bG;rw[E];rfl
end
end L4
abbrev oN(e:L2.Lo)(S:L2.Sto):L2.Res L2.Fl:=.ok (.nx e) S
abbrev sR(n:Nat):Option L2.D:=some (.ref n)
abbrev sI(i:Int):Option L2.D:=some (.int i)
abbrev sF(l:ZLi):Option L2.D:=some (.fro (l.map L2.D.int))
namespace M
open L2
abbrev iWeb:AR:=135
abbrev fv:AR:=336
abbrev FZ:AR:=529
def Z2:Ob:=.ins iWeb [("places",.int 4),("ties",.tup [.tup [.int 0,.int 1],.tup [.int 1,.int 2],.tup [.int 2,.int 3]]),("near_sets",.tup [.tup [.int 1],.tup [.int 0,.int 2],.tup [.int 1,.int 3],.tup [.int 2]])]
def stD(b:Bool)(l:List (Key×D)):Sto:=match b with
 | false=>[.ins FZ [("web",.ref 1),("replies",.ref 2),("duels",.ref 3)],Z2,.dK l,.dT []]
 | true=>[.ins FZ [("web",.ref 1),("replies",.ref 2),("duels",.ref 3)],Z2,.dK l,.dT [([.inr "one",.inl 2],.tup [.ref 4,.ref 5])],
  .ins fv [("everything",.ref 6),("kind",.str "one"),("takes",.ref 7),("numbers",.ref 8),("having",.ref 9),("place_bits",.ref 10),("known",.ref 11)],
  .dK [(.inl 0,.tup [.int 1,.int 3]),(.inl 5,.tup [.int 1,.int 0])],
  .lst [.tup [.int 0,.int 1],.tup [.int 0,.int 2],.tup [.int 0,.int 3],.tup [.int 1,.int 2],.tup [.int 1,.int 3],.tup [.int 2,.int 3]],
  .lst [.tup [.int 0,.int 1],.tup [.int 0,.int 1,.int 2],.tup [.int 1,.int 2,.int 3],.tup [.int 2,.int 3]],
  .dT [([.inl 0,.inl 1],.int 0),([.inl 0,.inl 2],.int 1),([.inl 0,.inl 3],.int 2),([.inl 1,.inl 2],.int 3),([.inl 1,.inl 3],.int 4),([.inl 2,.inl 3],.int 5)],
  .lst [.int 7,.int 25,.int 42,.int 52],.lst [.int 3,.int 5,.int 9,.int 6,.int 10,.int 12],
  .dK [(.inl 0,.int 2),(.inl 1,.int 13),(.inl 2,.int 18),(.inl 3,.int 18),(.inl 4,.int 44),(.inl 5,.int 16)]]
def stN(b:Bool):Nat:=match b with
 | false=>4
 | true=>12
def stW(b:Bool)(l:List (Key×D))(xs:List D):Sto:=stD b l++[.lst xs]
def Dw(g:List (Str×Str)):List (Key×D):=g.map λp=>(.inr p.1,.str p.2)
def Q9:List Str:=(["", "five 1", "Five", " five", "five ", "fewest", "fewest two", "fewest one all", "fewest  one", "Fewest one", "lasts", "lasts one", "lasts 1", "lasts two 1", "lasts one 4", "lasts one 1 1", "lasts one 2 1", "lasts one -1", "lasts one x", "lasts one 01", "lasts one 1 ", "lasts  one 1", "lasts one 1,2", "lasts one 1 2 9", "lasts all 100", "lasts one +1", "lasts one 1_0", "call", "call one", "call one 1", "call 1 2", "call one 1 1", "call one 4 1", "call one 0 1 1", "call one 0 2 1", "call two 0 1", "call one -1 1", "call one x 1", "call one 00 1", "call one 0 4", "call one 1 0 1", "call all 2 0 2", "calls one 0 1", "places 4", "tie 0 1", "last one 1", "answer", "five five", "call one 0  1", "call one 0 1 "]:List String).map qk
def Mf:List (Str×Str):=[("fewest one", "2"),("fewest all", "2"),("five", "2 2 2 2 2"),("lasts one 0 2", "lasts"),("call one 3 0 2", "0 3"),("lasts one 0 1", "falls in round 1 at 3")]
def Fi:List (Str×Str):=Mf++Q9.map λx=>(x,("refused" : Str))
def ez(ds:List D)(S:Sto):List Nat×Sto×List D:=match ds with
 | [.ref a,.ref w]=>match S[a]?,S[w]? with
  | some (.ins _ [(_,.ref s),(_,.ref m),(_,.ref o)]),some (.lst A)=>match S[m]?,S[o]? with
   | some (.dK l),some (.dT [])=>([a,s,m,o,w],stW false l A,[.ref 0,.ref 4])
   | some (.dK l),some (.dT [(_,.tup [.ref f,.ref g])])=>match S[f]? with
    | some (.ins _ [(_,.ref B),_,(_,.ref C),(_,.ref E),(_,.ref G),(_,.ref H),(_,.ref I)])=>([a,s,m,o,f,g,B,C,E,G,H,I,w],stW true l A,[.ref 0,.ref 12])
    | _=>([],[],[])
   | _,_=>([],[],[])
  | _,_=>([],[],[])
 | _=>([],[],[])
def Zw(ds:List D)(_:Sto):List Nat×Sto×List D:=([],[],ds)
end M
namespace L2
structure PT2 where (x:Str) (i:Nat) (p:Pos) (y:Str) (j:Nat) (q:Pos) (k:Nat) (r:Pos)
def Nu:List PT2->List Expr
 | []=>[]
 | a :: l=>.Tuple [.Constant (.str a.x) a.i a.p,.Constant (.str a.y) a.j a.q] a.k a.r :: Nu l
def Na:List PT2->ML
 | []=>Ay
 | a :: l=>AL (Gb (AL (mC (.str a.x)) (AL (mC (.str a.y)) Ay))) (Na l)
def Yb:List Expr->List PT2
 | .Tuple [.Constant (.str x) i p,.Constant (.str y) j q] k r :: l=>⟨x,i,p,y,j,q,k,r⟩ :: Yb l
 | _=>[]
def sh:Bw->List Expr
 | .Assign _ (.List g _) _=>g
 | .Assign _ (.BinOp _ _ (.List g _) _) _=>g
 | _=>[]
section
variable{X:Cx}{E:EW}{es:List Expr}
theorem W4:∀l:List PT2,GA X E (Nu l) (Na l)
 | []=>AV
 | a :: l=>AD (En (AD BY (AD BY AV))) (W4 l) rfl
theorem gX(l:List PT2)(h:es=Nu l):GA X E es (Na l):=by subst h;exact W4 l
end
end L2
namespace M
open L2
def top(i:Nat):Bw:=mR.main.body.getD i (.Pass ⟨0,0,0,0⟩)
structure Wd where
 GuardError:AR
 NoPlace:AR
 NoCall:AR
 Web:AR
 Field:AR
 Desk:AR
def Wd.excs(W:Wd):List AR:=[W.NoPlace,W.NoCall]
abbrev HY:Bw:=top 12
abbrev HR:Bw:=top 13
abbrev Mc:Bw:=D9 (top 11) 0
abbrev OO:Bw:=top 28
abbrev GX:Bw:=top 36
abbrev MZ:Bw:=top 37
abbrev Kg:Bw:=top 38
abbrev Fo:Bw:=top 14
abbrev YX:Bw:=top 15
abbrev MY:Bw:=top 17
abbrev OS:Bw:=top 18
abbrev JW:Bw:=D9 (top 40) 0
abbrev Kj:Bw:=D9 (top 73) 0
abbrev OP:Bw:=top 19
abbrev Qx:Bw:=top 20
abbrev YZ:Bw:=top 21
abbrev GY:Bw:=top 25
abbrev Kf:Bw:=top 26
abbrev Fp:Bw:=top 29
abbrev JT:Bw:=top 30
abbrev JU:Bw:=top 31
abbrev Ki:Bw:=top 32
abbrev OR:Bw:=top 33
abbrev IU:Bw:=D9 (top 40) 1
abbrev EM:Bw:=D9 (top 40) 3
abbrev EN:Bw:=D9 (top 40) 4
abbrev Ha:Bw:=D9 (top 40) 2
abbrev Hb:Bw:=D9 (top 40) 5
abbrev Ej:Bw:=D9 (top 40) 6
abbrev IT:Bw:=top 42
abbrev Qz:Bw:=top 41
abbrev HU:Bw:=top 43
abbrev OQ:Bw:=top 44
abbrev HP:Bw:=top 47
abbrev HW:Bw:=top 48
abbrev JS:Bw:=top 49
abbrev JV:Bw:=top 52
abbrev HQ:Bw:=top 51
abbrev HX:Bw:=top 50
abbrev HV:Bw:=top 54
abbrev Ei:Bw:=top 57
abbrev HS:Bw:=top 58
abbrev Qy:Bw:=top 59
abbrev YY:Bw:=top 60
abbrev Kh:Bw:=top 64
abbrev GZ:Bw:=top 65
abbrev Qw:Bw:=top 66
abbrev ON:Bw:=top 71
abbrev Kl:Bw:=D9 (top 73) 4
abbrev Kk:Bw:=D9 (top 73) 5
abbrev Ga:Bw:=D9 (top 73) 6
abbrev IS:Bw:=top 72
abbrev FQ:Bw:=D9 (top 73) 3
abbrev Fs:Bw:=D9 (top 73) 2
abbrev JX:Bw:=D9 (top 73) 1
abbrev Ma:Bw:=top 70
abbrev HZ:Bw:=top 75
abbrev Mb:Bw:=top 76
abbrev Fq:Bw:=top 77
abbrev Zl:Bw:=top 78
def Ry(W:Wd):MS:=
  (Aq (Bp 2 OY)
  (Aq (ED (EV (AF 1)) (Kd 2 (D7 (tgN 3) (D7 (tgN 4) Ls)))
  (Aq (Bp 5 (Gb (AL (mQ Z5 (AL (AF 3) (AL (AF 4) Ay))) (AL (mQ Z6 (AL (AF 3) (AL (AF 4) Ay))) Ay))))
  (Aq (sIf (mB (m2 (eqD false) (m2 ixA (AF 5) (mC (.int 0))) (m2 ixA (AF 5) (mC (.int 1))))) Pn sNx)
  (Aq (sIf (mOr (mB (m2 ltD (m2 ixA (AF 5) (mC (.int 0))) (mC (.int 0)))) (mB (m2 geD (m2 ixA (AF 5) (mC (.int 1))) (AF 0)))) Pn sNx)
  (Aq (sIf (mB (m2 (inA false) (AF 5) (AF 2))) Pn sNx)
  (E4 (AF 2) (AF 5) (mC (.bl true))))))))
  (By (He (Nd (AF 2))))))
def K0(W:Wd):List D->Sto->Res D:=CO 6 (Ry W)
def Rs(W:Wd):MS:=
  (Aq (Bp 2 (Dz (El 1 (iR1 (AL (AF 0) Ay)) (tgN 0) Gx (Dz (Dr Ay)))))
  (Aq (ED (EV (AF 1)) (Kd 2 (D7 (tgN 3) (D7 (tgN 4) Ls)))
  (Aq (ER (Ld (m2 ixA (AF 2) (AF 3)) (AF 4)))
  (ER (Ld (m2 ixA (AF 2) (AF 4)) (AF 3)))))
  (By (He (Dz (El 1 (EV (AF 2)) (tgN 0) Gx (He (Nd (AF 0)))))))))
def Kw(W:Wd):List D->Sto->Res D:=CO 5 (Rs W)
def ZB(W:Wd):MS:=
  (Aq (sIf (OX (mB (m3 leD leD (mC (.int 1)) (AF 1) (mC (.int 60))))) Pn sNx)
  (Aq (Ft W.Web "places" (AF 0) (AF 1))
  (Aq (Ft W.Web "ties" (AF 0) (BE 2 (K0 W) (AL (AF 1) (AL (AF 2) Ay))))
  (Ft W.Web "near_sets" (AF 0) (BE 2 (Kw W) (AL (AF 1) (AL (CU W.Web "ties" (AF 0)) Ay)))))))
def Ra(W:Wd):List D->Sto->Res D:=CO 3 (ZB W)
def cR(W:Wd):MS:=
  (Aq (Bp 2 (Dz (Dr (AL (Gb Ay) Ay))))
  (Aq (ED (iR1 (AL (AF 1) Ay)) (tgN 3)
  (Aq (Bp 4 (Dz (Dr Ay)))
  (Aq (ED (EV (AF 2)) (tgN 5)
  (Aq (Bp 6 (fV (Nc (AF 5)) (m2 Hz (m2 ixA (AF 5) (Ww (mC (.int 1)))) (mC (.int 1))) (mC (.int 0))))
  (ED (iR2 (AL (AF 6) (AL (m2 Hz (m2 Hz (m2 az (AF 0) (AF 1)) (AF 3)) (mC (.int 1))) Ay))) (tgN 7)
  (ER (Ld (AF 4) (m2 Hz (AF 5) (Gb (AL (AF 7) Ay))))))))
  (Bp 2 (AF 4)))))
  (By (AF 2))))
def LP(W:Wd):List D->Sto->Res D:=CO 8 (cR W)
def Oi(W:Wd):MS:=
  (Aq (Bp 2 (mC (.int 1)))
  (Aq (ED (iR1 (AL (AF 1) Ay)) (tgN 3)
  (Bp 2 (m2 Tr (m2 sd (AF 2) (m2 az (AF 0) (AF 3))) (m2 Hz (AF 3) (mC (.int 1))))))
  (By (AF 2))))
def Iw(W:Wd):List D->Sto->Res D:=CO 4 (Oi W)
def ZA(W:Wd):MS:=
  (Aq (sIf (OX (mB (m3 leD leD (mC (.int 1)) (AF 1) (CU W.Web "places" (AF 0))))) Pn sNx)
  (By (BE 2 (Iw W) (AL (CU W.Web "places" (AF 0)) (AL (AF 1) Ay)))))
def RY(W:Wd):List D->Sto->Res D:=CO 2 (ZA W)
def XJ(W:Wd):MS:=
  (Aq (sIf (mB (m2 gtD (BE 2 (RY W) (AL (AF 0) (AL (AF 1) Ay))) (mC (.int 400)))) Pn sNx)
  (By (BE 2 (LP W) (AL (CU W.Web "places" (AF 0)) (AL (AF 1) Ay)))))
def PD(W:Wd):List D->Sto->Res D:=CO 2 (XJ W)
def Nv(W:Wd):MS:=
  (sIf (OX (mB (m3 leD ltD (mC (.int 0)) (AF 1) (CU W.Web "places" (AF 0))))) (Ue W.NoPlace (AL (mC (.str "the web has no such place")) Ay)) sNx)
def IF(W:Wd):List D->Sto->Res D:=CO 2 (Nv W)
def px(W:Wd):MS:=
  (Aq (ER (BE 2 (IF W) (AL (AF 0) (AL (AF 1) Ay))))
  (By (m2 ixA (CU W.Web "near_sets" (AF 0)) (AF 1))))
def U7(W:Wd):List D->Sto->Res D:=CO 2 (px W)
def Y9(W:Wd):MS:=
  (By (Dz (El 1 (iR1 (AL (CU W.Web "places" (AF 0)) Ay)) (tgN 0) Gx (He (Nd (m2 Hz (Gb (AL (AF 0) Ay)) (BE 2 (U7 W) (AL (AF 1) (AL (AF 0) Ay)))))))))
def RW(W:Wd):List D->Sto->Res D:=CO 1 (Y9 W)
def cV(W:Wd):MS:=
  (Aq (Bp 1 (mC (.int 0)))
  (Aq (ED (EV (AF 0)) (tgN 2)
  (Ug 1 (λa b=>IN a b) (m2 WL (mC (.int 1)) (AF 2))))
  (By (AF 1))))
def Tu(W:Wd):List D->Sto->Res D:=CO 3 (cV W)
def VY(W:Wd):MS:=
  (Aq (Ft W.Field "everything" (AF 0) (BE 2 (PD W) (AL (AF 1) (AL (AF 2) Ay))))
  (Aq (Ft W.Field "kind" (AF 0) (AF 3))
  (Aq (Ft W.Field "takes" (AF 0) (BE 1 (RW W) (AL (AF 1) Ay)))
  (Aq (Ft W.Field "numbers" (AF 0) OY)
  (Aq (Ft W.Field "having" (AF 0) (Dz (El 1 (iR1 (AL (CU W.Web "places" (AF 1)) Ay)) (tgN 0) Gx (mC (.int 0)))))
  (Aq (ED (RO (CU W.Field "everything" (AF 0))) (Kd 2 (D7 (tgN 4) (D7 (tgN 5) Ls)))
  (Aq (E4 (CU W.Field "numbers" (AF 0)) (AF 5) (AF 4))
  (ED (EV (AF 5)) (tgN 6)
  (lf (λa b=>IN a b) (CU W.Field "having" (AF 0)) (AF 6) (m2 WL (mC (.int 1)) (AF 4))))))
  (Aq (Ft W.Field "place_bits" (AF 0) (Dz (El 1 (EV (CU W.Field "everything" (AF 0))) (tgN 0) Gx (BE 1 (Tu W) (AL (AF 0) Ay)))))
  (Ft W.Field "known" (AF 0) IW))))))))
def Jn(W:Wd):List D->Sto->Res D:=CO 7 (VY W)
def LB(W:Wd):MS:=
  (Aq (Ft W.Desk "web" (AF 0) (AF 1))
  (Aq (Ft W.Desk "replies" (AF 0) IW)
  (Ft W.Desk "duels" (AF 0) OY)))
def Gw(W:Wd):List D->Sto->Res D:=CO 2 (LB W)
def cS(W:Wd):MS:=
  (Aq (Bp 1 (Dz (Dr Ay)))
  (Aq (Bp 2 (AF 0))
  (Aq (Md (Nc (AF 2)) (Aq (ER (Ld (AF 1) (m2 az (ls (m2 XU (AF 2) (Ww (AF 2)))) (mC (.int 1)))))
  (Ug 2 (λa b=>HK a b) (m2 az (AF 2) (mC (.int 1))))) wN)
  (By (AF 1)))))
def LQ(W:Wd):List D->Sto->Res D:=CO 3 (cS W)
def g8(W:Wd)(g:List D->Sto->Res D):MS:=
  (Aq (Bp 5 (Dz (El 1 (EV (m2 ixA (AF 0) (AF 3))) (tgN 0) (bd (Nc (m2 XU (m2 jJ (AF 2) (AF 0)) (mC (.int 1)))) (mB (m2 (inA true) (AF 0) (AF 5)))) (AF 0))))
  (Aq (ED (EV (AF 5)) (tgN 6)
  (sIf (mB (m2 (inA true) (AF 6) (AF 2))) (Aq (E4 (AF 2) (AF 6) (AF 3))
  (By (mC (.bl true)))) sNx))
  (Aq (ED (EV (AF 5)) (tgN 6)
  (sIf (mB (m2 (inA true) (AF 6) (AF 4))) (Aq (E4 (AF 4) (AF 6) (mC (.bl true)))
  (sIf (Nc (BE 5 g (AL (AF 0) (AL (AF 1) (AL (AF 2) (AL (m2 ixA (AF 2) (AF 6)) (AL (AF 4) Ay))))))) (Aq (E4 (AF 2) (AF 6) (AF 3))
  (By (mC (.bl true)))) sNx)) sNx))
  (By (mC (.bl false))))))
def RX(W:Wd):Nat->List D->Sto->Res D
 | 0=>λ_ _=>.bad
 | n+1=>CO 7 (g8 W (RX W n))
def p0(W:Wd):MS:=
  (Aq (Bp 3 IW)
  (Aq (ED (EV (AF 1)) (tgN 4)
  (sIf (Nc (m2 XU (m2 jJ (AF 2) (AF 4)) (mC (.int 1)))) (E4 (AF 3) (AF 4) (AF 4)) sNx))
  (Aq (ED (EV (AF 1)) (tgN 4)
  (sIf (bd (OX (Nc (m2 XU (m2 jJ (AF 2) (AF 4)) (mC (.int 1))))) (OX (Nc (BE 5 (RX W 9) (AL (AF 0) (AL (AF 2) (AL (AF 3) (AL (AF 4) (AL IW Ay))))))))) (By (mC (.bl false))) sNx))
  (By (mC (.bl true))))))
def gf(W:Wd):List D->Sto->Res D:=CO 5 (p0 W)
def Oj(W:Wd):MS:=
  (sIf (mOr (OX (mB (m3 leD ltD (mC (.int 0)) (AF 2) (CU W.Web "places" (AF 0))))) (mB (m2 (inA false) (AF 2) (AF 1)))) (Ue W.NoCall (AL (mC (.str "a call comes from a place of the web without a guard")) Ay)) sNx)
def Ix(W:Wd):List D->Sto->Res D:=CO 3 (Oj W)
def XI(W:Wd):MS:=
  (By (He (Dz (El 1 (EV (AF 0)) (tgN 0) Gx (fV (mB (m2 (eqD false) (AF 0) (AF 2))) (AF 3) (AF 0))))))
def PB(W:Wd):List D->Sto->Res D:=CO 3 (XI W)
def Nx(W:Wd):MS:=
  (Aq (Bp 2 IW)
  (Aq (ED (EV (AF 1)) (tgN 3)
  (Aq (E4 (AF 2) (AF 3) (mC (.bl true)))
  (ED (EV (BE 2 (U7 W) (AL (AF 0) (AL (AF 3) Ay)))) (tgN 4)
  (E4 (AF 2) (AF 4) (mC (.bl true))))))
  (Aq (ED (iR1 (AL (CU W.Web "places" (AF 0)) Ay)) (tgN 3)
  (sIf (mB (m2 (inA true) (AF 3) (AF 2))) (By (AF 3)) sNx))
  (By (mC .non)))))
def IG(W:Wd):List D->Sto->Res D:=CO 5 (Nx W)
def VV(W:Wd):MS:=
  (Aq (ED (RO (AF 1)) (Kd 2 (D7 (tgN 3) (D7 (tgN 4) Ls)))
  (Aq (Bp 5 (BE 2 (U7 W) (AL (AF 0) (AL (AF 4) Ay))))
  (ED (EV (D8 (AF 1) (FV (m2 Hz (AF 3) (mC (.int 1)))) Gs)) (tgN 6)
  (sIf (mB (m2 (eqD false) (m2 (inA false) (AF 6) (AF 5)) (AF 2))) (By (Gb (AL (AF 4) (AL (AF 6) Ay)))) sNx))))
  (By (mC .non)))
def Jk(W:Wd):List D->Sto->Res D:=CO 7 (VV W)
def VW(W:Wd):MS:=
  (By (BE 3 (Jk W) (AL (AF 0) (AL (AF 1) (AL (mC (.bl true)) Ay)))))
def Np(W:Wd):List D->Sto->Res D:=CO 2 (VW W)
def XN(W:Wd):MS:=
  (By (BE 3 (Jk W) (AL (AF 0) (AL (AF 1) (AL (mC (.bl false)) Ay)))))
def PF(W:Wd):List D->Sto->Res D:=CO 2 (XN W)
def cU(W:Wd):MS:=
  (By (Th (m2 gtD (HG (AF 1)) (mC (.int 0))) (m2 (U2 false) (BE 2 (PF W) (AL (AF 0) (AL (AF 1) Ay))) (mC .non))))
def Tt(W:Wd):List D->Sto->Res D:=CO 2 (cU W)
def Sv(W:Wd):MS:=
  (Aq (Bp 2 (m2 ixA (CU W.Field "everything" (AF 0)) (AF 1)))
  (By (Dz (El 1 (iR1 (AL (HG (CU W.Field "takes" (AF 0))) Ay)) (tgN 0) (mB (m2 (inA true) (AF 0) (AF 3))) (AF 0)))))
def L8(W:Wd):List D->Sto->Res D:=CO 3 (Sv W)
def KI(W:Wd):MS:=
  (Aq (Bp 2 (m2 ixA (CU W.Field "everything" (AF 0)) (AF 1)))
  (Aq (Bp 3 (mC (.int 0)))
  (Aq (ED (EV (AF 2)) (tgN 4)
  (ED (EV (m2 ixA (CU W.Field "takes" (AF 0)) (AF 4))) (tgN 5)
  (sIf (mB (m2 (inA true) (AF 5) (AF 2))) (Ug 3 (λa b=>IN a b) (m2 WL (mC (.int 1)) (m2 ixA (CU W.Field "numbers" (AF 0)) (He (Nd (BE 3 (PB W) (AL (AF 2) (AL (AF 4) (AL (AF 5) Ay))))))))) sNx)))
  (By (AF 3)))))
def GP(W:Wd):List D->Sto->Res D:=CO 6 (KI W)
def KJ(W:Wd):MS:=
  (Aq (Bp 2 (m2 ixA (CU W.Field "everything" (AF 0)) (AF 1)))
  (Aq (Bp 3 (mC (.int 0)))
  (Aq (ED (RO (CU W.Field "place_bits" (AF 0))) (Kd 2 (D7 (tgN 4) (D7 (tgN 5) Ls)))
  (sIf (Nc (BE 3 (gf W) (AL (CU W.Field "takes" (AF 0)) (AL (AF 2) (AL (AF 5) Ay))))) (Ug 3 (λa b=>IN a b) (m2 WL (mC (.int 1)) (AF 4))) sNx))
  (By (AF 3)))))
def GR(W:Wd):List D->Sto->Res D:=CO 6 (KJ W)
def Rz(W:Wd):MS:=
  (Aq (sIf (mB (m2 (inA true) (AF 1) (CU W.Field "known" (AF 0)))) (E4 (CU W.Field "known" (AF 0)) (AF 1) (fV (mB (m2 (eqD false) (CU W.Field "kind" (AF 0)) (mC (.str "one")))) (FH W.Field "linked_by_one" 2 (GP W) (AF 0) (AL (AF 1) Ay)) (FH W.Field "linked_by_all" 2 (GR W) (AF 0) (AL (AF 1) Ay)))) sNx)
  (By (m2 ixA (CU W.Field "known" (AF 0)) (AF 1))))
def K1(W:Wd):List D->Sto->Res D:=CO 2 (Rz W)
def R0(W:Wd):MS:=
  (By (m2 XU (FH W.Field "linked" 2 (K1 W) (AF 0) (AL (AF 1) Ay)) (m2 ixA (CU W.Field "having" (AF 0)) (AF 2))))
def Hl(W:Wd):List D->Sto->Res D:=CO 3 (R0 W)
def LA(W:Wd):MS:=
  (Aq (Bp 4 (m2 ixA (CU W.Field "everything" (AF 0)) (AF 1)))
  (Aq (sIf (mB (m2 (eqD false) (CU W.Field "kind" (AF 0)) (mC (.str "all")))) (By sg) sNx)
  (Aq (Bp 5 (Dz (Dr Ay)))
  (Aq (ED (EV (BE 1 (LQ W) (AL (AF 3) Ay))) (tgN 6)
  (ER (Ld (AF 5) (He (Dz (El 1 (EV (AF 4)) (tgN 0) Gx (fV (mB (m2 (inA false) (AF 0) (m2 ixA (CU W.Field "everything" (AF 1)) (AF 7)))) (AF 0) (AF 3))))))))
  (By (mQ kI (Yr (AF 5))))))))
def Gv(W:Wd):List D->Sto->Res D:=CO 7 (LA W)
def Su(W:Wd):MS:=
  (Aq (Bp 2 IW)
  (Aq (ED (EV (BE 1 (LQ W) (AL (AF 1) Ay))) (tgN 3)
  (Aq (Bp 4 (Dz (El 1 (EV (FH W.Field "calls" 2 (L8 W) (AF 0) (AL (AF 3) Ay))) (tgN 0) (mB (m2 (eqD false) (m2 XU (FH W.Field "behind" 3 (Hl W) (AF 1) (AL (AF 4) (AL (AF 0) Ay))) (AF 2)) (mC (.int 0)))) (AF 0))))
  (sIf (Nc (AF 4)) (E4 (AF 2) (AF 3) (m2 ixA (AF 4) (mC (.int 0)))) sNx)))
  (By (AF 2))))
def IX(W:Wd):List D->Sto->Res D:=CO 5 (Su W)
def hV(W:Wd):MS:=
  (Aq (Bp 1 IW)
  (Aq (Bp 2 (m2 az (m2 WL (mC (.int 1)) (HG (CU W.Field "everything" (AF 0)))) (mC (.int 1))))
  (Aq (Bp 3 (mC (.int 1)))
  (Aq (Bp 4 (BE 2 (IX W) (AL (AF 0) (AL (AF 2) Ay))))
  (Aq (Md (Nc (AF 4)) (Aq (Aq (sFz 4) (ED (lz (AF 4)) (tgN 5)
  (Aq (E4 (AF 1) (AF 5) (Gb (AL (AF 3) (AL (m2 ixA (AF 4) (AF 5)) Ay))))
  (Ug 2 (λa b=>dU a b) (m2 WL (mC (.int 1)) (AF 5))))))
  (Aq (Ug 3 (λa b=>a+b) (mC (.int 1)))
  (Bp 4 (BE 2 (IX W) (AL (AF 0) (AL (AF 2) Ay)))))) wN)
  (By (AF 1)))))))
def RZ(W:Wd):List D->Sto->Res D:=CO 6 (hV W)
def Ru(W:Wd):MS:=
  (By (se (Dz (El 1 (iR1 (AL (HG (CU W.Field "everything" (AF 0))) Ay)) (tgN 0) (mB (m2 (inA true) (AF 0) (AF 2))) (m2 WL (mC (.int 1)) (AF 0))))))
def Hj(W:Wd):List D->Sto->Res D:=CO 2 (Ru W)
def cT(W:Wd):MS:=
  (Aq (Bp 3 (O6 W.Field 4 (Jn W) (AL (AF 0) (AL (AF 1) (AL (AF 2) Ay)))))
  (By (Dz (El 1 (EV (BE 1 (LQ W) (AL (BE 2 (Hj W) (AL (AF 3) (AL (BE 1 (RZ W) (AL (AF 3) Ay)) Ay))) Ay))) (tgN 0) Gx (m2 ixA (CU W.Field "everything" (AF 4)) (AF 0))))))
def Ts(W:Wd):List D->Sto->Res D:=CO 4 (cT W)
def Rq(W:Wd):MS:=
  (sIf (mB (m2 gtD (CU W.Web "places" (AF 0)) (mC (.int 12)))) Pn sNx)
def F0(W:Wd):List D->Sto->Res D:=CO 1 (Rq W)
def Rw(W:Wd):MS:=
  (Aq (ER (BE 1 (F0 W) (AL (AF 0) Ay)))
  (Aq (ED (iR2 (AL (mC (.int 1)) (AL (CU W.Web "places" (AF 0)) Ay))) (tgN 1)
  (ED (EV (BE 2 (LP W) (AL (CU W.Web "places" (AF 0)) (AL (AF 1) Ay)))) (tgN 2)
  (sIf (mB (m2 (U2 false) (BE 2 (IG W) (AL (AF 0) (AL (AF 2) Ay))) (mC .non))) (By (AF 2)) sNx)))
  (By (fS (AL (CU W.Web "places" (AF 0)) Ay)))))
def Ky(W:Wd):List D->Sto->Res D:=CO 3 (Rw W)
def VU(W:Wd):MS:=
  (Aq (ER (BE 1 (F0 W) (AL (AF 0) Ay)))
  (Aq (ED (iRD (AL (CU W.Web "places" (AF 0)) (AL (mC (.int 1)) (AL (Ww (mC (.int 1))) Ay)))) (tgN 1)
  (ED (EV (BE 2 (LP W) (AL (CU W.Web "places" (AF 0)) (AL (AF 1) Ay)))) (tgN 2)
  (sIf (mB (m2 (U2 false) (BE 2 (Np W) (AL (AF 0) (AL (AF 2) Ay))) (mC .non))) (By (AF 2)) sNx)))
  (By (Gb (AL (mC (.int 0)) Ay)))))
def Jj(W:Wd):List D->Sto->Res D:=CO 3 (VU W)
def VX(W:Wd):MS:=
  (Aq (Bp 4 (Dz (Dr Ay)))
  (Aq (ED (RO (AF 1)) (Kd 2 (D7 (tgN 5) (D7 (tgN 6) Ls)))
  (Aq (Bp 7 (m2 Hz (AF 6) (Gb (AL (AF 2) Ay))))
  (sIf (Nc (BE 2 (Tt W) (AL (AF 0) (AL (AF 7) Ay)))) (ER (Ld (AF 4) (m2 Hz (m2 Hz (D8 (AF 1) Gs (FV (AF 5))) (Dz (Dr (AL (AF 7) Ay)))) (D8 (AF 1) (FV (m2 Hz (AF 5) (mC (.int 1)))) Gs)))) sNx)))
  (Aq (sIf (mB (m2 ltD (HG (AF 1)) (AF 3))) (ER (Ld (AF 4) (m2 Hz (AF 1) (Dz (Dr (AL (Gb (AL (AF 2) Ay)) Ay)))))) sNx)
  (By (AF 4)))))
def Nq(W:Wd):List D->Sto->Res D:=CO 8 (VX W)
def Rr(W:Wd)(g:List D->Sto->Res D):MS:=
  (Aq (sIf (mB (m2 (eqD false) (AF 2) (CU W.Web "places" (AF 0)))) (By (AF 1)) sNx)
  (Aq (ED (EV (BE 4 (Nq W) (AL (AF 0) (AL (AF 1) (AL (AF 2) (AL (AF 3) Ay)))))) (tgN 4)
  (Aq (Bp 5 (BE 4 g (AL (AF 0) (AL (AF 4) (AL (m2 Hz (AF 2) (mC (.int 1))) (AL (AF 3) Ay))))))
  (sIf (mB (m2 (U2 true) (AF 5) (mC .non))) (By (AF 5)) sNx)))
  (By (mC .non))))
def Hi(W:Wd):Nat->List D->Sto->Res D
 | 0=>λ_ _=>.bad
 | n+1=>CO 6 (Rr W (Hi W n))
def Rx(W:Wd):MS:=
  (Aq (ER (BE 1 (F0 W) (AL (AF 0) Ay)))
  (Aq (ED (iR2 (AL (HG (BE 1 (Jj W) (AL (AF 0) Ay))) (AL (CU W.Web "places" (AF 0)) Ay))) (tgN 1)
  (Aq (Bp 2 (BE 4 (Hi W 9) (AL (AF 0) (AL (Dz (Dr Ay)) (AL (mC (.int 0)) (AL (AF 1) Ay))))))
  (sIf (mB (m2 (U2 true) (AF 2) (mC .non))) (By (AF 2)) sNx)))
  (By (Dz (El 1 (iR1 (AL (CU W.Web "places" (AF 0)) Ay)) (tgN 0) Gx (Gb (AL (AF 0) Ay)))))))
def Kz(W:Wd):List D->Sto->Res D:=CO 3 (Rx W)
def Rv(W:Wd):MS:=
  (By (FH W.Field "first_answer" 4 (Gv W) (AF 0) (AL (AF 1) (AL (AF 2) (AL (m2 XU (FH W.Field "behind" 3 (Hl W) (AF 0) (AL (AF 1) (AL (AF 2) Ay))) (AF 3)) Ay)))))
def Kx(W:Wd):List D->Sto->Res D:=CO 4 (Rv W)
def K9(W:Wd):MS:=
  (sIf (mB (m2 gtD (CU W.Web "places" (AF 0)) (mC (.int 8)))) Pn sNx)
def Ep(W:Wd):List D->Sto->Res D:=CO 1 (K9 W)
def Rt(W:Wd):MS:=
  (Aq (ED (iR2 (AL (mC (.int 1)) (AL (CU W.Web "places" (AF 0)) Ay))) (tgN 2)
  (sIf (Nc (BE 3 (Ts W) (AL (AF 0) (AL (AF 2) (AL (AF 1) Ay))))) (By (AF 2)) sNx))
  (By (CU W.Web "places" (AF 0))))
def F3(W:Wd):List D->Sto->Res D:=CO 3 (Rt W)
def hU(W:Wd):MS:=
  (Aq (ER (BE 1 (Ep W) (AL (AF 0) Ay)))
  (By (BE 2 (F3 W) (AL (AF 0) (AL (AF 1) Ay)))))
def W5(W:Wd):List D->Sto->Res D:=CO 2 (hU W)
def pz(W:Wd):MS:=
  (Aq (ER (BE 1 (Ep W) (AL (AF 0) Ay)))
  (Aq (Bp 1 (BE 2 (F3 W) (AL (AF 0) (AL (mC (.str "all")) Ay))))
  (Aq (Bp 2 (BE 2 (F3 W) (AL (AF 0) (AL (mC (.str "one")) Ay))))
  (By (Gb (AL (HG (BE 1 (Ky W) (AL (AF 0) Ay))) (AL (AF 1) (AL (HG (BE 1 (Jj W) (AL (AF 0) Ay))) (AL (AF 2) (AL (HG (BE 1 (Kz W) (AL (AF 0) Ay))) Ay))))))))))
def ge(W:Wd):List D->Sto->Res D:=CO 3 (pz W)
def XM(W:Wd):MS:=
  (Aq (sIf (mOr (OX (mB (m3 leD leD (mC (.int 1)) (fU (AF 0)) (mC (.int 2))))) (OX (mB (mQ tW (Yr (Dz (El 1 (ly (AF 0)) (tgN 0) Gx (m2 (inS false) (AF 0) (mC (.str "0123456789")))))))))) (By (mC .non)) sNx)
  (Aq (sIf (bd (mB (m2 gtD (fU (AF 0)) (mC (.int 1)))) (mB (m2 (eqD false) (m2 ixS (AF 0) (mC (.int 0))) (mC (.str "0"))))) (By (mC .non)) sNx)
  (By (lr (AF 0)))))
def Kv(W:Wd):List D->Sto->Res D:=CO 1 (XM W)
def Ol(W:Wd):MS:=
  (Aq (Bp 3 (Ew (AF 0) (mC (.str " "))))
  (Aq (Bp 4 (Dz (El 1 (EV (D8 (AF 3) (FV (mC (.int 1))) Gs)) (tgN 0) Gx (BE 1 (Kv W) (AL (AF 0) Ay)))))
  (Aq (sIf (mOr (mB (m2 (eqD true) (m2 ixA (AF 3) (mC (.int 0))) (AF 1))) (mOr (mB (m2 (eqD true) (HG (AF 4)) (AF 2))) (mB (m2 (inA false) (mC .non) (AF 4))))) (By (mC .non)) sNx)
  (By (AF 4)))))
def Ge(W:Wd):List D->Sto->Res D:=CO 5 (Ol W)
def g7(W:Wd):MS:=
  (Aq (Bp 1 (Ew (AF 0) (mC (.str "\n"))))
  (Aq (Bp 2 (BE 3 (Ge W) (AL (m2 ixA (AF 1) (mC (.int 0))) (AL (mC (.str "places")) (AL (mC (.int 1)) Ay)))))
  (Aq (sIf (mOr (mB (m2 (U2 false) (AF 2) (mC .non))) (OX (mB (m3 leD leD (mC (.int 1)) (m2 ixA (AF 2) (mC (.int 0))) (mC (.int 60)))))) Pn sNx)
  (Aq (Bp 3 (Dz (Dr (AL (Gb (AL (Ww (mC (.int 1))) (AL (Ww (mC (.int 1))) Ay))) Ay))))
  (Aq (ED (aD (D8 (AF 1) (FV (mC (.int 1))) Gs)) (Kd 2 (D7 (tgN 4) (D7 (tgN 5) Ls)))
  (Aq (Bp 6 (BE 3 (Ge W) (AL (AF 5) (AL (mC (.str "tie")) (AL (mC (.int 2)) Ay)))))
  (Aq (sIf (mOr (mB (m2 (U2 false) (AF 6) (mC .non))) (mOr (OX (mB (m3 ltD ltD (m2 ixA (AF 6) (mC (.int 0))) (m2 ixA (AF 6) (mC (.int 1))) (m2 ixA (AF 2) (mC (.int 0)))))) (OX (mB (m2 ltT (m2 ixA (AF 3) (Ww (mC (.int 1)))) (He (AF 6))))))) Pn sNx)
  (ER (Ld (AF 3) (He (AF 6)))))))
  (By (O6 W.Web 3 (Ra W) (AL (m2 ixA (AF 2) (mC (.int 0))) (AL (D8 (AF 3) (FV (mC (.int 1))) Gs) Ay)))))))))
def Of(W:Wd):List D->Sto->Res D:=CO 7 (g7 W)
def Iv(W:Wd):List D->Sto->Res D:=WE Zw (Of W)
def cQ(W:Wd):MS:=
  (By (Jh (mC (.str " ")) (Dz (El 1 (EV (AF 0)) (tgN 0) Gx (lp (AF 0))))))
def LO(W:Wd):List D->Sto->Res D:=CO 1 (cQ W)
def XQ(W:Wd):MS:=
  (Aq (sIf (mB (m2 (inA true) (Gb (AL (AF 1) (AL (AF 2) Ay))) (CU W.Desk "duels" (AF 0)))) (Aq (Bp 3 (O6 W.Field 4 (Jn W) (AL (CU W.Desk "web" (AF 0)) (AL (AF 2) (AL (AF 1) Ay)))))
  (E4 (CU W.Desk "duels" (AF 0)) (Gb (AL (AF 1) (AL (AF 2) Ay))) (Gb (AL (AF 3) (AL (BE 1 (RZ W) (AL (AF 3) Ay)) Ay))))) sNx)
  (By (m2 ixA (CU W.Desk "duels" (AF 0)) (Gb (AL (AF 1) (AL (AF 2) Ay))))))
def K2(W:Wd):List D->Sto->Res D:=CO 4 (XQ W)
def XO(W:Wd):MS:=
  (Aq (Bp 3 (FH W.Desk "duel" 3 (K2 W) (AF 0) (AL (AF 1) (AL (HG (AF 2)) Ay))))
  (Aq (Bp 4 (m2 ixA (CU W.Field "numbers" (m2 ixA (AF 3) (mC (.int 0)))) (AF 2)))
  (Aq (sIf (mB (m2 (inA true) (AF 4) (m2 ixA (AF 3) (mC (.int 1))))) (By (mC (.str "lasts"))) sNx)
  (Aq (Bp 5 (m2 ixA (m2 ixA (m2 ixA (AF 3) (mC (.int 1))) (AF 4)) (mC (.int 0))))
  (Aq (Bp 6 (m2 ixA (m2 ixA (m2 ixA (AF 3) (mC (.int 1))) (AF 4)) (mC (.int 1))))
  (By (lq (Wz (mC (.str "falls in round ")) (Wz (oX (AF 5)) (Wz (mC (.str " at ")) (Wz (oX (AF 6)) oi)))))))))))
def PH(W:Wd):List D->Sto->Res D:=CO 7 (XO W)
def Om(W:Wd):MS:=
  (Aq (ER (BE 3 (Ix W) (AL (CU W.Desk "web" (AF 0)) (AL (AF 3) (AL (AF 2) Ay)))))
  (Aq (Bp 4 (FH W.Desk "duel" 3 (K2 W) (AF 0) (AL (AF 1) (AL (HG (AF 3)) Ay))))
  (Aq (Bp 5 (m2 ixA (CU W.Field "numbers" (m2 ixA (AF 4) (mC (.int 0)))) (AF 3)))
  (Aq (sIf (mB (m2 (inA false) (AF 5) (m2 ixA (AF 4) (mC (.int 1))))) (By (mC (.str "beaten"))) sNx)
  (By (BE 1 (LO W) (AL (BE 4 (Kx W) (AL (m2 ixA (AF 4) (mC (.int 0))) (AL (AF 5) (AL (AF 2) (AL (BE 2 (Hj W) (AL (m2 ixA (AF 4) (mC (.int 0))) (AL (m2 ixA (AF 4) (mC (.int 1))) Ay))) Ay))))) Ay)))))))
def Iy(W:Wd):List D->Sto->Res D:=CO 6 (Om W)
def Ss(W:Wd):MS:=
  (Aq (Bp 2 (Dz (El 1 (EV (AF 1)) (tgN 0) Gx (BE 1 (Kv W) (AL (AF 0) Ay)))))
  (Aq (sIf (mOr (OX (Nc (AF 2))) (mOr (mB (m2 (inA false) (mC .non) (AF 2))) (mOr (mB (m2 (eqD true) (AF 2) (Wv (AF 2)))) (mB (m2 geD (m2 ixA (AF 2) (Ww (mC (.int 1)))) (CU W.Web "places" (AF 0))))))) (Ue W.NoPlace (AL (mC (.str "these are no rising places of the web")) Ay)) sNx)
  (By (He (AF 2)))))
def Gm(W:Wd):List D->Sto->Res D:=CO 3 (Ss W)
def Mz(W:Wd):MS:=
  (Aq (sIf (mB (m2 (eqD false) (AF 1) (Dz (Dr (AL (mC (.str "five")) Ay))))) (By (BE 1 (LO W) (AL (BE 1 (ge W) (AL (CU W.Desk "web" (AF 0)) Ay)) Ay))) sNx)
  (Aq (sIf (mOr (mB (m2 ltD (HG (AF 1)) (mC (.int 2)))) (mB (sf true ["one", "all"] (m2 ixA (AF 1) (mC (.int 1)))))) (By (mC (.str "refused"))) sNx)
  (Aq (sIf (bd (mB (m2 (eqD false) (m2 ixA (AF 1) (mC (.int 0))) (mC (.str "fewest")))) (mB (m2 (eqD false) (HG (AF 1)) (mC (.int 2))))) (By (BE 1 (LO W) (AL (Dz (Dr (AL (BE 2 (W5 W) (AL (CU W.Desk "web" (AF 0)) (AL (m2 ixA (AF 1) (mC (.int 1))) Ay))) Ay))) Ay))) sNx)
  (Aq (sIf (mB (m2 (eqD false) (m2 ixA (AF 1) (mC (.int 0))) (mC (.str "lasts")))) (By (FH W.Desk "fate" 3 (PH W) (AF 0) (AL (m2 ixA (AF 1) (mC (.int 1))) (AL (BE 2 (Gm W) (AL (CU W.Desk "web" (AF 0)) (AL (D8 (AF 1) (FV (mC (.int 2))) Gs) Ay))) Ay)))) sNx)
  (Aq (sIf (mB (m2 (eqD false) (m2 ixA (AF 1) (mC (.int 0))) (mC (.str "call")))) (Aq (Bp 2 (m2 ixA (BE 2 (Gm W) (AL (CU W.Desk "web" (AF 0)) (AL (D8 (AF 1) (FV (mC (.int 2))) (FV (mC (.int 3)))) Ay))) (mC (.int 0))))
  (By (FH W.Desk "answer_to" 4 (Iy W) (AF 0) (AL (m2 ixA (AF 1) (mC (.int 1))) (AL (AF 2) (AL (BE 2 (Gm W) (AL (CU W.Desk "web" (AF 0)) (AL (D8 (AF 1) (FV (mC (.int 3))) Gs) Ay))) Ay)))))) sNx)
  (By (mC (.str "refused"))))))))
def Hm(W:Wd):List D->Sto->Res D:=CO 3 (Mz W)
def Ny(W:Wd):MS:=
  (lc W.excs (By (FH W.Desk "right_reply" 2 (Hm W) (AF 0) (AL (AF 1) Ay))) (By (mC (.str "refused"))))
def EA(W:Wd):List D->Sto->Res D:=CO 2 (Ny W)
def Dh(W:Wd):List D->Sto->Res D:=WE ez (EA W)
def F7(W:Wd):MS:=
  (Aq (sIf (mB (m2 (inA true) (AF 1) (CU W.Desk "replies" (AF 0)))) (E4 (CU W.Desk "replies" (AF 0)) (AF 1) (FH W.Desk "reply_anew" 2 (Dh W) (AF 0) (AL (Ew (AF 1) (mC (.str " "))) Ay))) sNx)
  (By (m2 ixA (CU W.Desk "replies" (AF 0)) (AF 1))))
def F4(W:Wd):List D->Sto->Res D:=CO 2 (F7 W)
def Mw(W:Wd):MS:=
  (Aq (Bp 1 (Ew (AF 0) (mC (.str "\n"))))
  (Aq (sIf (mB (m2 (inA true) (mC (.str "")) (AF 1))) (Aq (ER (BE 1 (Iv W) (AL (AF 0) Ay)))
  Pn) sNx)
  (Aq (Bp 2 (QC (AF 1) (mC (.str ""))))
  (Aq (Bp 3 (O6 W.Desk 2 (Gw W) (AL (BE 1 (Iv W) (AL (Jh (mC (.str "\n")) (D8 (AF 1) Gs (FV (AF 2)))) Ay)) Ay)))
  (By (Dz (El 1 (EV (D8 (AF 1) (FV (m2 Hz (AF 2) (mC (.int 1)))) Gs)) (tgN 0) Gx (FH W.Desk "reply" 2 (F4 W) (AF 4) (AL (AF 0) Ay)))))))))
def K3(W:Wd):List D->Sto->Res D:=CO 4 (Mw W)
def Jl(W:Wd):List D->Sto->Res D:=WE Zw (K3 W)
def Ho(W:Wd):MS:=
  (Aq (sIf (mB (m2 ltD (AF 1) (HG (AF 0)))) (By (m2 ixA (AF 0) (AF 1))) sNx)
  (By (mC (.int 0))))
def Hk(W:Wd):List D->Sto->Res D:=CO 2 (Ho W)
def Mx(W:Wd):MS:=
  (Aq (Bp 1 (mC (.str "|five 1|Five| five|five |fewest|fewest two|fewest one all|fewest  one")))
  (Aq (Bp 1 (m2 Sx (AF 1) (mC (.str "|Fewest one|lasts|lasts one|lasts 1|lasts two 1|lasts one 4|lasts one 1 1"))))
  (Aq (Bp 1 (m2 Sx (AF 1) (mC (.str "|lasts one 2 1|lasts one -1|lasts one x|lasts one 01|lasts one 1 |lasts  one 1"))))
  (Aq (Bp 1 (m2 Sx (AF 1) (mC (.str "|lasts one 1,2|lasts one 1 2 9|lasts all 100|lasts one +1|lasts one 1_0|call"))))
  (Aq (Bp 1 (m2 Sx (AF 1) (mC (.str "|call one|call one 1|call 1 2|call one 1 1|call one 4 1|call one 0 1 1"))))
  (Aq (Bp 1 (m2 Sx (AF 1) (mC (.str "|call one 0 2 1|call two 0 1|call one -1 1|call one x 1|call one 00 1"))))
  (Aq (Bp 1 (m2 Sx (AF 1) (mC (.str "|call one 0 4|call one 1 0 1|call all 2 0 2|calls one 0 1|places 4|tie 0 1"))))
  (Aq (Bp 1 (m2 Sx (AF 1) (mC (.str "|last one 1|answer|five five|call one 0  1|call one 0 1 "))))
  (Aq (Bp 2 (Ew (AF 1) (mC (.str "|"))))
  (By (m2 ixA (AF 2) (m2 Wr (AF 0) (HG (AF 2))))))))))))))
def Mt(W:Wd):List D->Sto->Res D:=CO 3 (Mx W)
def Jq(W:Wd):MS:=
  (Aq (Bp 1 (Dz (Dr (AL (Gb (AL (mC (.str "fewest one")) (AL (mC (.str "2")) Ay))) (AL (Gb (AL (mC (.str "fewest all")) (AL (mC (.str "2")) Ay))) (AL (Gb (AL (mC (.str "five")) (AL (mC (.str "2 2 2 2 2")) Ay))) (AL (Gb (AL (mC (.str "lasts one 0 2")) (AL (mC (.str "lasts")) Ay))) Ay)))))))
  (Aq (Bp 1 (m2 Hz (AF 1) (Dz (Dr (AL (Gb (AL (mC (.str "call one 3 0 2")) (AL (mC (.str "0 3")) Ay))) (AL (Gb (AL (mC (.str "lasts one 0 1")) (AL (mC (.str "falls in round 1 at 3")) Ay))) Ay))))))
  (By (m2 ixA (AF 1) (m2 Wr (AF 0) (HG (AF 1)))))))
def Jm(W:Wd):List D->Sto->Res D:=CO 2 (Jq W)
def g9(W:Wd):MS:=
  (Aq (Bp 1 (Dz (Dr (AL (mC (.str "places 4")) (AL (mC (.str "tie 0 1")) (AL (mC (.str "tie 1 2")) (AL (mC (.str "tie 2 3")) (AL (mC (.str "")) Ay))))))))
  (Aq (Bp 2 (Dz (Dr Ay)))
  (Aq (ED (EV (D8 (AF 0) Gs (FV (mC (.int 30))))) (tgN 3)
  (Aq (sIf (mB (m2 (eqD false) (m2 Wr (AF 3) (mC (.int 4))) (mC (.int 1)))) (bG (BE 1 (Jm W) (AL (m2 Tr (AF 3) (mC (.int 4))) Ay)) (Kd 2 (D7 (tgN 4) (D7 (tgN 5) Ls)))) (Aq (Bp 4 (BE 1 (Mt W) (AL (m2 Tr (AF 3) (mC (.int 4))) Ay)))
  (Bp 5 (mC (.str "refused")))))
  (Aq (ER (Ld (AF 1) (AF 4)))
  (ER (Ld (AF 2) (AF 5))))))
  (Aq (sIf (mB (m2 (eqD false) (m2 Wr (BE 2 (Hk W) (AL (AF 0) (AL (mC (.int 0)) Ay))) (mC (.int 3))) (mC (.int 2)))) (Aq (ER (Ld (AF 1) (mC (.str ""))))
  (ER (Ld (AF 2) (mC (.str "refused"))))) sNx)
  (Aq (Bp 6 (BE 1 (Jl W) (AL (Jh (mC (.str "\n")) (AF 1)) Ay)))
  (By (Th (L2.mIs (isB "list") (λ_=>none) (AF 6)) (m2 (eqD false) (AF 6) (AF 2)))))))))
def aI(W:Wd):List D->Sto->Res D:=CO 7 (g9 W)
set_option genInjectivity false in
structure Txt(K:AE)(mg:Str->Option AG)(W:Wd) where
 aac:Dfn K mg "checked_ties" "checked_ties" HY ["places", "ties"]
 aad:Dfn K mg "near_sets_of" "near_sets_of" HR ["places", "ties"]
 aaH:Mtd K "__init__" "Web.__init__" Mc ["self", "places", "ties"]
 v0:Dfn K mg "sets_of" "sets_of" OO ["places", "size"]
 aae:Dfn K mg "ways_to_choose" "ways_to_choose" GX ["places", "size"]
 aaf:Dfn K mg "how_many" "how_many" MZ ["web", "guards"]
 aag:Dfn K mg "standings" "standings" Kg ["web", "guards"]
 aah:Dfn K mg "refuse_no_place" "refuse_no_place" Fo ["web", "place"]
 wP:Dfn K mg "near" "near" YX ["web", "place"]
 aai:Dfn K mg "takes_of" "takes_of" MY ["web"]
 aa0:Dfn K mg "bits_of" "bits_of" OS ["some"]
 aaj:Mtd K "__init__" "Field.__init__" JW ["self", "web", "guards", "kind"]
 aaI:Mtd K "__init__" "Desk.__init__" Kj ["self", "web"]
 v4:Dfn K mg "members" "members" OP ["bits"]
 wS:Dfn K mg "settle" "settle" Qx ["takes", "bits", "holders", "guard", "seen"]
 aak:Dfn K mg "fits" "fits" YZ ["takes", "guards", "bits"]
 aal:Dfn K mg "refuse_no_call" "refuse_no_call" GY ["web", "standing", "call"]
 aam:Dfn K mg "with_step" "with_step" Kf ["standing", "guard", "place"]
 aan:Dfn K mg "first_unwatched" "first_unwatched" Fp ["web", "some"]
 wT:Dfn K mg "first_pair" "first_pair" JT ["web", "some", "wanted"]
 aao:Dfn K mg "first_near" "first_near" JU ["web", "some"]
 aap:Dfn K mg "first_far" "first_far" Ki ["web", "some"]
 aaq:Dfn K mg "is_club" "is_club" OR ["web", "some"]
 aaJ:Mtd K "calls" "Field.calls" IU ["self", "number"]
 aaK:Mtd K "linked_by_one" "Field.linked_by_one" EM ["self", "number"]
 aaL:Mtd K "linked_by_all" "Field.linked_by_all" EN ["self", "number"]
 aaM:Mtd K "linked" "Field.linked" Ha ["self", "number"]
 aar:Mtd K "behind" "Field.behind" Hb ["self", "number", "call"]
 aaN:Mtd K "first_answer" "Field.first_answer" Ej ["self", "number", "call", "wanted"]
 xz:Dfn K mg "falling_now" "falling_now" IT ["field", "left"]
 xL:Dfn K mg "fallen" "fallen" Qz ["field"]
 x0:Dfn K mg "lasting_bits" "lasting_bits" HU ["field", "gone"]
 aas:Dfn K mg "lasting" "lasting" OQ ["web", "guards", "kind"]
 v6:Dfn K mg "refuse_large" "refuse_large" HP ["web"]
 aat:Dfn K mg "fewest_watch" "fewest_watch" HW ["web"]
 zn:Dfn K mg "most_apart" "most_apart" JS ["web"]
 aau:Dfn K mg "clubs_with" "clubs_with" JV ["web", "clubs", "place", "most"]
 BT:Dfn K mg "parting_from" "parting_from" HQ ["web", "clubs", "place", "most"]
 aav:Dfn K mg "fewest_clubs" "fewest_clubs" HX ["web"]
 aaw:Dfn K mg "guide_answer" "guide_answer" HV ["field", "number", "call", "kept"]
 Cl:Dfn K mg "refuse_many_places" "refuse_many_places" Ei ["web"]
 v9:Dfn K mg "least_guards" "least_guards" HS ["web", "kind"]
 aax:Dfn K mg "fewest" "fewest" Qy ["web", "kind"]
 aay:Dfn K mg "five" "five" YY ["web"]
 aaO:Dfn K mg "number_in" "number_in" Kh ["word"]
 Fr:Dfn K mg "numbers_behind" "numbers_behind" GZ ["row", "first", "many"]
 ww:Dfn K mg "web_of" "web_of" Qw ["text"]
 wf:Dfn K mg "written" "written" ON ["numbers"]
 aaz:Mtd K "duel" "Desk.duel" Kl ["self", "kind", "guards"]
 aaP:Mtd K "fate" "Desk.fate" Kk ["self", "kind", "standing"]
 aaQ:Mtd K "answer_to" "Desk.answer_to" Ga ["self", "kind", "call", "standing"]
 wl:Dfn K mg "standing_in" "standing_in" IS ["web", "words"]
 aaR:Mtd K "right_reply" "Desk.right_reply" FQ ["self", "words"]
 Ty:Mtd K "reply_anew" "Desk.reply_anew" Fs ["self", "words"]
 aaS:Mtd K "reply" "Desk.reply" JX ["self", "row"]
 IO:Dfn K mg "answered" "answered" Ma ["text"]
 aaA:Dfn K mg "_law_cell_at" "_law_cell_at" HZ ["script", "k"]
 aaB:Dfn K mg "_law_odd" "_law_odd" Mb ["cell"]
 aaC:Dfn K mg "_law_right" "_law_right" Fq ["cell"]
 KK:Dfn K mg "law" "law" Zl ["script"]
 mt:Own K mg "Web" W.Web aaH.f
 on:Dt K W.Web "places"
 aaD:Dt K W.Web "ties"
 aaE:Dt K W.Web "near_sets"
 dl:Own K mg "Field" W.Field aaj.f
 ut:Dt K W.Field "everything"
 XL:Dt K W.Field "kind"
 LE:Dt K W.Field "takes"
 Id:Dt K W.Field "numbers"
 aaa:Dt K W.Field "having"
 aaF:Dt K W.Field "place_bits"
 LT:Dt K W.Field "known"
 aa7:Li K W.Field "calls" aaJ.f
 aa8:Li K W.Field "linked_by_one" aaK.f
 aa9:Li K W.Field "linked_by_all" aaL.f
 aba:Li K W.Field "linked" aaM.f
 aa2:Li K W.Field "behind" aar.f
 abb:Li K W.Field "first_answer" aaN.f
 pc:Own K mg "Desk" W.Desk aaI.f
 wn:Dt K W.Desk "web"
 ST:Dt K W.Desk "replies"
 Tm:Dt K W.Desk "duels"
 aa3:Li K W.Desk "duel" aaz.f
 abc:Li K W.Desk "fate" aaP.f
 abd:Li K W.Desk "answer_to" aaQ.f
 abe:Li K W.Desk "right_reply" aaR.f
 abf:Li K W.Desk "reply_anew" Ty.f
 abg:Li K W.Desk "reply" aaS.f
 abh:mg "GuardError" = some (.ref W.GuardError)
 aa1:Xcl K mg "NoPlace" W.NoPlace
 aa4:Xcl K mg "NoCall" W.NoCall
 nd:W.excs.Nodup
 abi:∀c∈W.excs,ZK K c W.GuardError
 abj:mg "all" = none
 aaT:mg "enumerate" = none
 abk:mg "int" = none
 abl:mg "isinstance" = none
 ul:mg "len" = none
 abm:mg "list" = none
 abn:mg "max" = none
 aa5:mg "min" = none
 u8:mg "range" = none
 abo:mg "set" = none
 aaU:mg "sorted" = none
 abp:mg "str" = none
 abq:mg "sum" = none
 wE:mg "tuple" = none
 aaG:∃tk,mg "MOST_PLACES" = some (.int 60 tk)
 aaV:∃tk,mg "MOST_STANDINGS" = some (.int 400 tk)
 aaW:∃tk,mg "MOST_PLACES_TRIED" = some (.int 12 tk)
 aaX:∃tk,mg "MOST_PLACES_GUARDED" = some (.int 8 tk)
 aaY:∃tk,mg "FIGURES" = some (.str "0123456789" tk)
 aaZ:∃tk,mg "MOST_FIGURES" = some (.int 2 tk)
 aab:∃tk,mg "REFUSED" = some (.str "refused" tk)
 aa6:∃a,mg "KINDS" = some (.ref a)/\MU K a=some (["one", "all"]:List Str)
section
variable{P:BJ}{w:Bs}{K:AE}{mg:Str->Option AG}{base:Bu}{W:Wd}
theorem Pj:Aw ["places", "ties", "found", "one", "other", "tie"] ["places", "ties"] (Ah HY):=Ch
theorem Pt(T:Txt K mg W):Bm P w K mg base (CXG P w) 1 T.aac.f T.aac.fd ["places", "ties"] (spM K 2 (K0 W)):=by
 refine A5 (k:=0) T.aac.F Pj rfl λ_ _ _ _ _ _ m O g l o s=>?_
 exact(AI (BO 2 l RS)
  (AI (CM (Ag O).own rfl (Cb (gv 1)) (Kt rfl (DE (Bb 3 l) (DE (Bb 4 l) ID)))
  (AI (BO 5 l (En (AD (kY rfl rfl T.aa5 (AD (gv 3) (AD (gv 4) AV))) (AD (kZ rfl rfl T.abn (AD (gv 3) (AD (gv 4) AV))) AV))))
  (AI (CA (B8 (HC g) (Be g (gv 5) ge_int) (Be g (gv 5) ge_int) (B5 _)) (AQ Em) BB)
  (AI (CA (Py (J8 (B8 O5 (Be g (gv 5) ge_int) ge_int (B5 _)) (Ks (B8 ln (Be g (gv 5) ge_int) (gv 0) (B5 _))))) (AQ Em) BB)
  (AI (CA (To g (gv 5) (gv 2)) (AQ Em) BB)
  (AQ (Ey (BW (BP (by decide:1<=64) _) g) (gv 2) (gv 5) Ku rfl)))))))
  (AQ (A3 (FI rfl T.wE (LM rfl rfl T.aaU (gv 2)))))))
theorem Pb:Aw ["places", "ties", "rows", "one", "other"] ["places", "ties"] (Ah HR):=Ch
theorem Po(T:Txt K mg W):Bm P w K mg base (CXG P w) 1 T.aad.f T.aad.fd ["places", "ties"] (spM K 2 (Kw W)):=by
 refine A5 (k:=0) T.aad.F Pb rfl λ_ _ _ _ _ _ m O l g o s=>?_
 exact(AI (Nj (i:=2) (own:=["place"]) (N':=["place", "·1", "·2", "·3", "·4", "·5"]) rfl rfl g rfl (by first | exact Ia rfl | exact Hs rfl) (DT (by kernel_rfl)) (E1 rfl T.u8 (AD (gv 0) AV)) (λ_ _ _ _ _ _=>(Bb 0 (by decide +kernel:(["place", "·1", "·2", "·3", "·4", "·5"]:List Str).Nodup))) (λ_ _ _ _ _ _=>Dg) (λ_ _ _ _ _ _=>(Cm (E6 AV))))
  (AI (CM (Ag O).own rfl (Cb (gv 1)) (Kt rfl (DE (Bb 3 g) (DE (Bb 4 g) ID)))
  (AI (C7 (Dd (Be l (gv 2) (gv 3)) (gv 4)))
  (AQ (C7 (Dd (Be l (gv 2) (gv 4)) (gv 3))))))
  (AQ (A3 (FI rfl T.wE (Cm (E0 (own:=["row"]) (N':=["row", "·1", "·2", "·3", "·4", "·5"]) rfl (DT (by kernel_rfl)) (Cb (gv 2)) (λ_ _ _ _ _ _=>(Bb 0 (by decide +kernel:(["row", "·1", "·2", "·3", "·4", "·5"]:List Str).Nodup))) (λ_ _ _ _ _ _=>Dg) (λ_ _ _ _ _ _=>(FI rfl T.wE (LM rfl rfl T.aaU (gv 0)))))))))))
theorem WT:Aw ["self", "places", "ties"] ["self", "places", "ties"] (Ah Mc):=Ch
theorem Wj(T:Txt K mg W):Bm P w K mg base (CXG P w) 2 T.aaH.f T.aaH.fd ["self", "places", "ties"] (spM K 3 (Ra W)):=by
 refine A5 (k:=1) T.aaH.F WT rfl λ_ _ _ _ _ _ g O l o s A=>?_
 exact(AI (CA (G6 (Hg L6 L6 ge_int (gv 1) (Iu rfl T.aaG.choose_spec))) (AQ Em) BB)
  (AI (Gc T.mt.cl T.on (gv 0) (gv 1) rfl)
  (AI (Gc T.mt.cl T.aaD (gv 0) (Au (Pt T) (Ag O).pass (g.mono (by decide)) rfl T.aac.m T.aac.kp T.aac.b (AD (gv 1) (AD (gv 2) AV))) rfl)
  (AQ (Gc T.mt.cl T.aaE (gv 0) (Au (Po T) (Ag O).pass (g.mono (by decide)) rfl T.aad.m T.aad.kp T.aad.b (AD (gv 1) (AD (BA T.mt.cl T.aaD (gv 0) rfl) AV))) rfl)))))
theorem YS:Aw ["places", "size", "told", "step", "longer", "some", "least", "place"] ["places", "size"] (Ah OO):=Ch
theorem Mj(T:Txt K mg W):Bm P w K mg base (CXG P w) 1 T.v0.f T.v0.fd ["places", "size"] (spM K 2 (LP W)):=by
 refine A5 (k:=0) T.v0.F YS rfl λ_ _ _ _ _ _ m O l g o s=>?_
 exact(AI (BO 2 g (Cm (E6 (AD (En AV) AV))))
  (AI (CM (Ag O).own rfl (E1 rfl T.u8 (AD (gv 1) AV)) (Bb 3 g)
  (AI (BO 4 g (Cm (E6 AV)))
  (AI (CM (Ag O).own rfl (Cb (gv 2)) (Bb 5 g)
  (AI (BO 6 g (Nm (D1 (gv 5)) (BK FR (Be l (gv 5) (Mr ge_int)) ge_int) ge_int))
  (AQ (CM (Ag O).own rfl (LL rfl T.u8 (AD (gv 6) (AD (BK FR (BK FR (BK RA (gv 0) (gv 1)) (gv 3)) ge_int) AV))) (Bb 7 g)
  (AQ (C7 (Dd (gv 4) (BK FR (gv 5) (En (AD (gv 7) AV))))))))))
  (AQ (BO 2 g (gv 4))))))
  (AQ (A3 (gv 2)))))
theorem NJ:Aw ["places", "size", "ways", "step"] ["places", "size"] (Ah GX):=Ch
theorem NU(T:Txt K mg W):Bm P w K mg base (CXG P w) 1 T.aae.f T.aae.fd ["places", "size"] (spM K 2 (Iw W)):=by
 refine A5 (k:=0) T.aae.F NJ rfl λ_ _ _ _ _ _ l O m g o s=>?_
 exact(AI (BO 2 g ge_int)
  (AI (CM (Ag O).own rfl (E1 rfl T.u8 (AD (gv 1) AV)) (Bb 3 g)
  (AQ (BO 2 g (BK Uy (BK oS (gv 2) (BK RA (gv 0) (gv 3))) (BK FR (gv 3) ge_int)))))
  (AQ (A3 (gv 2)))))
theorem WQ:Aw ["web", "guards"] ["web", "guards"] (Ah MZ):=Ch
theorem Wg(T:Txt K mg W):Bm P w K mg base (CXG P w) 2 T.aaf.f T.aaf.fd ["web", "guards"] (spM K 2 (RY W)):=by
 refine A5 (k:=1) T.aaf.F WQ rfl λ_ _ _ _ _ _ g O l o s A=>?_
 exact(AI (CA (G6 (Hg L6 L6 ge_int (gv 1) (BA T.mt.cl T.on (gv 0) rfl))) (AQ Em) BB)
  (AQ (A3 (Au (NU T) (Ag O).pass (g.mono (by decide)) rfl T.aae.m T.aae.kp T.aae.b (AD (BA T.mt.cl T.on (gv 0) rfl) (AD (gv 1) AV))))))
theorem UY:Aw ["web", "guards"] ["web", "guards"] (Ah Kg):=Ch
theorem Ur(T:Txt K mg W):Bm P w K mg base (CXG P w) 3 T.aag.f T.aag.fd ["web", "guards"] (spM K 2 (PD W)):=by
 refine A5 (k:=2) T.aag.F UY rfl λ_ _ _ _ _ _ g O l o s A=>?_
 exact(AI (CA (B8 Wl (Au (Wg T) (Ag O).pass (g.mono (by decide)) rfl T.aaf.m T.aaf.kp T.aaf.b (AD (gv 0) (AD (gv 1) AV))) (Iu rfl T.aaV.choose_spec) (B5 _)) (AQ Em) BB)
  (AQ (A3 (Au (Mj T) (Ag O).pass (g.mono (by decide)) rfl T.v0.m T.v0.kp T.v0.b (AD (BA T.mt.cl T.on (gv 0) rfl) (AD (gv 1) AV))))))
theorem MV:Aw ["web", "place"] ["web", "place"] (Ah Fo):=Ch
theorem Ml(T:Txt K mg W):Bm P w K mg base (CXG P w) 1 T.aah.f T.aah.fd ["web", "place"] (spM K 2 (IF W)):=by
 refine A5 (k:=0) T.aah.F MV rfl λ_ _ _ _ _ _ g O l o s A=>?_
 exact(AQ (CA (G6 (Hg L6 O5 ge_int (gv 1) (BA T.mt.cl T.on (gv 0) rfl))) (AQ (RP (Ag O) rfl T.aa1.xc rfl T.aa1.m (AD BY AV))) BB))
theorem jO:Aw ["web", "place"] ["web", "place"] (Ah YX):=Ch
theorem Us(T:Txt K mg W):Bm P w K mg base (CXG P w) 2 T.wP.f T.wP.fd ["web", "place"] (spM K 2 (U7 W)):=by
 refine A5 (k:=1) T.wP.F jO rfl λ_ _ _ _ _ _ g O l o s A=>?_
 exact(AI (C7 (Au (Ml T) (Ag O).pass (g.mono (by decide)) rfl T.aah.m T.aah.kp T.aah.b (AD (gv 0) (AD (gv 1) AV))))
  (AQ (A3 (Be l (BA T.mt.cl T.aaE (gv 0) rfl) (gv 1)))))
theorem WP:Aw ["web"] ["web"] (Ah MY):=Ch
theorem Wf(T:Txt K mg W):Bm P w K mg base (CXG P w) 3 T.aai.f T.aai.fd ["web"] (spM K 1 (RW W)):=by
 refine A5 (k:=2) T.aai.F WP rfl λ_ _ _ _ _ _ g O l m o s=>?_
 exact(AQ (A3 (Cm (E0 (own:=["place"]) (N':=["place", "web"]) rfl (DT (by kernel_rfl)) (E1 rfl T.u8 (AD (BA T.mt.cl T.on (gv 0) rfl) AV)) (λ_ _ _ _ _ _=>(Bb 0 (by decide +kernel:(["place", "web"]:List Str).Nodup))) (λ_ _ _ _ _ _=>Dg) (λ_ _ _ _ _ _=>(FI rfl T.wE (LM rfl rfl T.aaU (BK FR (En (AD (gv 0) AV)) (gcl T.wP (Us T) g (AD (gv 1) (AD (gv 0) AV)))))))))))
theorem YW:Aw ["some", "bits", "place"] ["some"] (Ah OS):=Ch
theorem Yh(T:Txt K mg W):Bm P w K mg base (CXG P w) 1 T.aa0.f T.aa0.fd ["some"] (spM K 1 (Tu W)):=by
 refine A5 (k:=0) T.aa0.F YW rfl λ_ _ _ _ _ _ l O m g o s=>?_
 exact(AI (BO 1 g ge_int)
  (AI (CM (Ag O).own rfl (Cb (gv 0)) (Bb 2 g)
  (AQ (Tp 1 g aC (BK Mp ge_int (gv 2)))))
  (AQ (A3 (gv 1)))))
theorem Se:Aw ["self", "web", "guards", "kind", "number", "standing", "place"] ["self", "web", "guards", "kind"] (Ah JW):=Ch
theorem Lz(T:Txt K mg W):Bm P w K mg base (CXG P w) 4 T.aaj.f T.aaj.fd ["self", "web", "guards", "kind"] (spM K 4 (Jn W)):=by
 refine A5 (k:=3) T.aaj.F Se rfl λ_ _ _ _ _ _ g O o l s A=>?_
 exact(AI (Gc T.dl.cl T.ut (gv 0) (Au (Ur T) (Ag O).pass (g.mono (by decide)) rfl T.aag.m T.aag.kp T.aag.b (AD (gv 1) (AD (gv 2) AV))) rfl)
  (AI (Gc T.dl.cl T.XL (gv 0) (gv 3) rfl)
  (AI (Gc T.dl.cl T.LE (gv 0) (Au (Wf T) (Ag O).pass (g.mono (by decide)) rfl T.aai.m T.aai.kp T.aai.b (AD (gv 1) AV)) rfl)
  (AI (Gc T.dl.cl T.Id (gv 0) RS rfl)
  (AI (Gc T.dl.cl T.aaa (gv 0) (Cm (E0 (own:=["place"]) (N':=["place", "·1", "·2", "·3", "·4", "·5", "·6", "·7"]) rfl (DT (by kernel_rfl)) (E1 rfl T.u8 (AD (BA T.mt.cl T.on (gv 1) rfl) AV)) (λ_ _ _ _ _ _=>(Bb 0 (by decide +kernel:(["place", "·1", "·2", "·3", "·4", "·5", "·6", "·7"]:List Str).Nodup))) (λ_ _ _ _ _ _=>Dg) (λ_ _ _ _ _ _=>ge_int))) rfl)
  (AI (CM (Ag O).own rfl (QH rfl T.aaT (BA T.dl.cl T.ut (gv 0) rfl)) (Kt rfl (DE (Bb 4 l) (DE (Bb 5 l) ID)))
  (AI (Ey (BW (BP (by decide:1<=64) _) o) (BA T.dl.cl T.Id (gv 0) rfl) (gv 5) (gv 4) rfl)
  (AQ (CM (Ag O).own rfl (Cb (gv 5)) (Bb 6 l)
  (AQ (kR (BA T.dl.cl T.aaa (gv 0) rfl) (gv 6) (BK Mp ge_int (gv 4)) aC))))))
  (AI (Gc T.dl.cl T.aaF (gv 0) (Cm (E0 (own:=["standing"]) (N':=["standing", "·1", "·2", "·3", "·4", "·5", "·6", "·7"]) rfl (DT (by kernel_rfl)) (Cb (BA T.dl.cl T.ut (gv 0) rfl)) (λ_ _ _ _ _ _=>(Bb 0 (by decide +kernel:(["standing", "·1", "·2", "·3", "·4", "·5", "·6", "·7"]:List Str).Nodup))) (λ_ _ _ _ _ _=>Dg) (λ_ _ _ _ _ _=>(gcl T.aa0 (Yh T) g (AD (gv 0) AV))))) rfl)
  (AQ (Gc T.dl.cl T.LT (gv 0) Hh rfl)))))))))
theorem Ub:Aw ["self", "web"] ["self", "web"] (Ah Kj):=Ch
theorem Uu(T:Txt K mg W):Bm P w K mg base (CXG P w) 1 T.aaI.f T.aaI.fd ["self", "web"] (spM K 2 (Gw W)):=by
 refine A5 (k:=0) T.aaI.F Ub rfl λ_ _ _ _ _ _ g O l m o s=>?_
 exact(AI (Gc T.pc.cl T.wn (gv 0) (gv 1) rfl)
  (AI (Gc T.pc.cl T.ST (gv 0) Hh rfl)
  (AQ (Gc T.pc.cl T.Tm (gv 0) RS rfl))))
theorem YT:Aw ["bits", "told", "left"] ["bits"] (Ah OP):=Ch
theorem Mm(T:Txt K mg W):Bm P w K mg base (CXG P w) 1 T.v4.f T.v4.fd ["bits"] (spM K 1 (LQ W)):=by
 refine A5 (k:=0) T.v4.F YT rfl λ_ _ _ _ _ _ l O m g o s=>?_
 exact(AI (BO 1 g (Cm (E6 AV)))
  (AI (BO 2 g (gv 0))
  (AI (W3 wN (Ag O).own (D1 (gv 2)) (AI (C7 (Dd (gv 1) (BK RA (kd (BK Mq (gv 2) (Mr (gv 2)))) ge_int)))
  (AQ (Tp 2 g ot (BK RA (gv 2) ge_int)))))
  (AQ (A3 (gv 1))))))
theorem bD:Aw ["takes", "bits", "holders", "guard", "seen", "wanted", "place"] ["takes", "bits", "holders", "guard", "seen"] (Ah Qx):=Ch
theorem Te(T:Txt K mg W):∀n:Nat,Bm P w K mg base (CXG P w) (0+n) T.wS.f T.wS.fd ["takes", "bits", "holders", "guard", "seen"] (spM K 5 (RX W n))
 | 0=>gb
 | n+1=>by
  refine A5 (k:=0+n) T.wS.F bD rfl λ_ _ _ _ _ _ o O g l s A=>?_
  exact(AI (Nj (i:=5) (own:=["place"]) (N':=["place", "·1", "bits", "·3", "·4", "seen", "·6", "·7"]) rfl rfl l rfl (by first | exact Ia rfl | exact Hs rfl) (DT (by kernel_rfl)) (Cb (Be g (gv 0) (gv 3))) (λ_ _ _ _ _ _=>(Bb 0 (by decide +kernel:(["place", "·1", "bits", "·3", "·4", "seen", "·6", "·7"]:List Str).Nodup))) (λ_ _ _ _ _ _=>(Nk (Py (U4 (D1 (BK Mq (BK Yk (gv 2) (gv 0)) ge_int)) (QF (EE g (gv 0) (gv 5))))))) (λ_ _ _ _ _ _=>(gv 0)))
  (AI (CM (Ag O).own rfl (Cb (gv 5)) (Bb 6 l)
  (AQ (CA (EE g (gv 6) (gv 2)) (AI (Ey (BW (BP (by decide:1<=64) _) g) (gv 2) (gv 6) (gv 3) rfl)
  (AQ (A3 Ku))) BB)))
  (AI (CM (Ag O).own rfl (Cb (gv 5)) (Bb 6 l)
  (AQ (CA (EE g (gv 6) (gv 4)) (AI (Ey (BW (BP (by decide:1<=64) _) g) (gv 4) (gv 6) Ku rfl)
  (AQ (CA (D1 (Au (Te T n) (Ag O).pass (o.mono (AN _)) rfl T.wS.m T.wS.kp T.wS.b (AD (gv 0) (AD (gv 1) (AD (gv 2) (AD (Be g (gv 2) (gv 6)) (AD (gv 4) AV))))))) (AI (Ey (BW (BP (by decide:1<=64) _) g) (gv 2) (gv 6) (gv 3) rfl)
  (AQ (A3 Ku))) BB))) BB)))
  (AQ (A3 Ku)))))
theorem jQ:Aw ["takes", "guards", "bits", "holders", "guard"] ["takes", "guards", "bits"] (Ah YZ):=Ch
theorem kC(T:Txt K mg W):Bm P w K mg base (CXG P w) 11 T.aak.f T.aak.fd ["takes", "guards", "bits"] (spM K 3 (gf W)):=by
 refine A5 (k:=10) T.aak.F jQ rfl λ_ _ _ _ _ _ l O o g s A=>?_
 exact(AI (BO 3 g Hh)
  (AI (CM (Ag O).own rfl (Cb (gv 1)) (Bb 4 g)
  (AQ (CA (D1 (BK Mq (BK Yk (gv 2) (gv 4)) ge_int)) (AQ (Ey (BW (BP (by decide:1<=64) _) o) (gv 3) (gv 4) (gv 4) rfl)) BB)))
  (AI (CM (Ag O).own rfl (Cb (gv 1)) (Bb 4 g)
  (AQ (CA (Py (U4 (G6 (D1 (BK Mq (BK Yk (gv 2) (gv 4)) ge_int))) (QF (G6 (D1 (Au (Te T 9) (Ag O).pass (l.mono (by decide)) rfl T.wS.m T.wS.kp T.wS.b (AD (gv 0) (AD (gv 2) (AD (gv 3) (AD (gv 4) (AD Hh AV))))))))))) (AQ (A3 Ku)) BB)))
  (AQ (A3 Ku)))))
theorem NK:Aw ["web", "standing", "call"] ["web", "standing", "call"] (Ah GY):=Ch
theorem NV(T:Txt K mg W):Bm P w K mg base (CXG P w) 1 T.aal.f T.aal.fd ["web", "standing", "call"] (spM K 3 (Ix W)):=by
 refine A5 (k:=0) T.aal.F NK rfl λ_ _ _ _ _ _ l O g o s A=>?_
 exact(AQ (CA (Py (J8 (G6 (Hg L6 O5 ge_int (gv 2) (BA T.mt.cl T.on (gv 0) rfl))) (Ks (To g (gv 2) (gv 1))))) (AQ (RP (Ag O) rfl T.aa4.xc rfl T.aa4.m (AD BY AV))) BB))
theorem UX:Aw ["standing", "guard", "place"] ["standing", "guard", "place"] (Ah Kf):=Ch
theorem Uq(T:Txt K mg W):Bm P w K mg base (CXG P w) 1 T.aam.f T.aam.fd ["standing", "guard", "place"] (spM K 3 (PB W)):=by
 refine A5 (k:=0) T.aam.F UX rfl λ_ _ _ _ _ _ l O g m o s=>?_
 exact(AQ (A3 (FI rfl T.wE (Cm (E0 (own:=["other"]) (N':=["other", "·1", "guard", "place"]) rfl (DT (by kernel_rfl)) (Cb (gv 0)) (λ_ _ _ _ _ _=>(Bb 0 (by decide +kernel:(["other", "·1", "guard", "place"]:List Str).Nodup))) (λ_ _ _ _ _ _=>Dg) (λ_ _ _ _ _ _=>(Nm (B8 (HC g) (gv 0) (gv 2) (B5 _)) (gv 3) (gv 0))))))))
theorem MW:Aw ["web", "some", "watched", "place", "beside"] ["web", "some"] (Ah Fp):=Ch
theorem Mn(T:Txt K mg W):Bm P w K mg base (CXG P w) 3 T.aan.f T.aan.fd ["web", "some"] (spM K 2 (IG W)):=by
 refine A5 (k:=2) T.aan.F MW rfl λ_ _ _ _ _ _ o O l g s A=>?_
 exact(AI (BO 2 g Hh)
  (AI (CM (Ag O).own rfl (Cb (gv 1)) (Bb 3 g)
  (AI (Ey (BW (BP (by decide:1<=64) _) l) (gv 2) (gv 3) Ku rfl)
  (AQ (CM (Ag O).own rfl (Cb (Au (Us T) (Ag O).pass (o.mono (by decide)) rfl T.wP.m T.wP.kp T.wP.b (AD (gv 0) (AD (gv 3) AV)))) (Bb 4 g)
  (AQ (Ey (BW (BP (by decide:1<=64) _) l) (gv 2) (gv 4) Ku rfl))))))
  (AI (CM (Ag O).own rfl (E1 rfl T.u8 (AD (BA T.mt.cl T.on (gv 0) rfl) AV)) (Bb 3 g)
  (AQ (CA (EE l (gv 3) (gv 2)) (AQ (A3 (gv 3))) BB)))
  (AQ (A3 FS)))))
theorem SZ:Aw ["web", "some", "wanted", "number", "one", "beside", "other"] ["web", "some", "wanted"] (Ah JT):=Ch
theorem Ly(T:Txt K mg W):Bm P w K mg base (CXG P w) 3 T.wT.f T.wT.fd ["web", "some", "wanted"] (spM K 3 (Jk W)):=by
 refine A5 (k:=2) T.wT.F SZ rfl λ_ _ _ _ _ _ o O l g s A=>?_
 exact(AI (CM (Ag O).own rfl (QH rfl T.aaT (gv 1)) (Kt rfl (DE (Bb 3 g) (DE (Bb 4 g) ID)))
  (AI (BO 5 g (Au (Us T) (Ag O).pass (o.mono (by decide)) rfl T.wP.m T.wP.kp T.wP.b (AD (gv 0) (AD (gv 4) AV))))
  (AQ (CM (Ag O).own rfl (Cb (EG (gv 1) (Ez (BK FR (gv 3) ge_int)) Fy)) (Bb 6 g)
  (AQ (CA (B8 (HC l) (tN l (gv 6) (gv 5)) (gv 2) (B5 _)) (AQ (A3 (En (AD (gv 4) (AD (gv 6) AV))))) BB))))))
  (AQ (A3 FS)))
theorem Sa:Aw ["web", "some"] ["web", "some"] (Ah JU):=Ch
theorem Sh(T:Txt K mg W):Bm P w K mg base (CXG P w) 4 T.aao.f T.aao.fd ["web", "some"] (spM K 2 (Np W)):=by
 refine A5 (k:=3) T.aao.F Sa rfl λ_ _ _ _ _ _ g O l o s A=>?_
 exact(AQ (A3 (Au (Ly T) (Ag O).pass (g.mono (by decide)) rfl T.wT.m T.wT.kp T.wT.b (AD (gv 0) (AD (gv 1) (AD Ku AV))))))
theorem Ua:Aw ["web", "some"] ["web", "some"] (Ah Ki):=Ch
theorem Ut(T:Txt K mg W):Bm P w K mg base (CXG P w) 4 T.aap.f T.aap.fd ["web", "some"] (spM K 2 (PF W)):=by
 refine A5 (k:=3) T.aap.F Ua rfl λ_ _ _ _ _ _ g O l o s A=>?_
 exact(AQ (A3 (Au (Ly T) (Ag O).pass (g.mono (by decide)) rfl T.wT.m T.wT.kp T.wT.b (AD (gv 0) (AD (gv 1) (AD Ku AV))))))
theorem YV:Aw ["web", "some"] ["web", "some"] (Ah OR):=Ch
theorem Yg(T:Txt K mg W):Bm P w K mg base (CXG P w) 5 T.aaq.f T.aaq.fd ["web", "some"] (spM K 2 (Tt W)):=by
 refine A5 (k:=4) T.aaq.F YV rfl λ_ _ _ _ _ _ g O l o s A=>?_
 exact(AQ (A3 (L2.gV (RT Wl (Eo rfl T.ul (gv 1)) ge_int (B5 _)) (gP (RT RB (Au (Ut T) (Ag O).pass (g.mono (by decide)) rfl T.aap.m T.aap.kp T.aap.b (AD (gv 0) (AD (gv 1) AV))) FS (B5 _))))))
theorem Qv:Aw ["self", "number", "standing"] ["self", "number"] (Ah IU):=Ch
theorem Q6(T:Txt K mg W):Bm P w K mg base (CXG P w) 1 T.aaJ.f T.aaJ.fd ["self", "number"] (spM K 2 (L8 W)):=by
 refine A5 (k:=0) T.aaJ.F Qv rfl λ_ _ _ _ _ _ m O g l o s=>?_
 exact(AI (BO 2 l (Be g (BA T.dl.cl T.ut (gv 0) rfl) (gv 1)))
  (AQ (A3 (Cm (E0 (own:=["place"]) (N':=["place", "·1", "·2", "standing"]) rfl (DT (by kernel_rfl)) (E1 rfl T.u8 (AD (Eo rfl T.ul (BA T.dl.cl T.LE (gv 0) rfl)) AV)) (λ_ _ _ _ _ _=>(Bb 0 (by decide +kernel:(["place", "·1", "·2", "standing"]:List Str).Nodup))) (λ_ _ _ _ _ _=>(Nk (EE g (gv 0) (gv 3)))) (λ_ _ _ _ _ _=>(gv 0)))))))
theorem JQ:Aw ["self", "number", "standing", "told", "guard", "place"] ["self", "number"] (Ah EM):=Ch
theorem Jc(T:Txt K mg W):Bm P w K mg base (CXG P w) 2 T.aaK.f T.aaK.fd ["self", "number"] (spM K 2 (GP W)):=by
 refine A5 (k:=1) T.aaK.F JQ rfl λ_ _ _ _ _ _ o O l g s A=>?_
 exact(AI (BO 2 g (Be l (BA T.dl.cl T.ut (gv 0) rfl) (gv 1)))
  (AI (BO 3 g ge_int)
  (AI (CM (Ag O).own rfl (Cb (gv 2)) (Bb 4 g)
  (AQ (CM (Ag O).own rfl (Cb (Be l (BA T.dl.cl T.LE (gv 0) rfl) (gv 4))) (Bb 5 g)
  (AQ (CA (EE l (gv 5) (gv 2)) (AQ (Tp 3 g aC (BK Mp ge_int (Be l (BA T.dl.cl T.Id (gv 0) rfl) (FI rfl T.wE (LM rfl rfl T.aaU (Au (Uq T) (Ag O).pass (o.mono (by decide)) rfl T.aam.m T.aam.kp T.aam.b (AD (gv 2) (AD (gv 4) (AD (gv 5) AV)))))))))) BB)))))
  (AQ (A3 (gv 3))))))
theorem JR:Aw ["self", "number", "standing", "told", "other", "bits"] ["self", "number"] (Ah EN):=Ch
theorem Jd(T:Txt K mg W):Bm P w K mg base (CXG P w) 12 T.aaL.f T.aaL.fd ["self", "number"] (spM K 2 (GR W)):=by
 refine A5 (k:=11) T.aaL.F JR rfl λ_ _ _ _ _ _ l O o g s A=>?_
 exact(AI (BO 2 g (Be o (BA T.dl.cl T.ut (gv 0) rfl) (gv 1)))
  (AI (BO 3 g ge_int)
  (AI (CM (Ag O).own rfl (QH rfl T.aaT (BA T.dl.cl T.aaF (gv 0) rfl)) (Kt rfl (DE (Bb 4 g) (DE (Bb 5 g) ID)))
  (AQ (CA (D1 (Au (kC T) (Ag O).pass (l.mono (by decide)) rfl T.aak.m T.aak.kp T.aak.b (AD (BA T.dl.cl T.LE (gv 0) rfl) (AD (gv 2) (AD (gv 5) AV))))) (AQ (Tp 3 g aC (BK Mp ge_int (gv 4)))) BB)))
  (AQ (A3 (gv 3))))))
theorem Pl:Aw ["self", "number"] ["self", "number"] (Ah Ha):=Ch
theorem Pv(T:Txt K mg W):Bm P w K mg base (CXG P w) 13 T.aaM.f T.aaM.fd ["self", "number"] (spM K 2 (K1 W)):=by
 refine A5 (k:=12) T.aaM.F Pl rfl λ_ _ _ _ _ _ l O g m o s=>?_
 exact(AI (CA (EE g (gv 1) (BA T.dl.cl T.LT (gv 0) rfl)) (AQ (Ey (BW (BP (by decide:1<=64) _) g) (BA T.dl.cl T.LT (gv 0) rfl) (gv 1) (Nm (B8 (HC g) (BA T.dl.cl T.XL (gv 0) rfl) BY (B5 _)) (ES (gv 0) T.dl.cl T.aa8 (Jc T) (Ag O).pass (l.mono (by decide)) T.aaK.b (AD (gv 1) AV)) (ES (gv 0) T.dl.cl T.aa9 (Jd T) (Ag O).pass (l.mono (by decide)) T.aaL.b (AD (gv 1) AV))) rfl)) BB)
  (AQ (A3 (Be g (BA T.dl.cl T.LT (gv 0) rfl) (gv 1)))))
theorem Pm:Aw ["self", "number", "call"] ["self", "number", "call"] (Ah Hb):=Ch
theorem J7(T:Txt K mg W):Bm P w K mg base (CXG P w) 14 T.aar.f T.aar.fd ["self", "number", "call"] (spM K 3 (Hl W)):=by
 refine A5 (k:=13) T.aar.F Pm rfl λ_ _ _ _ _ _ g O l m o s=>?_
 exact(AQ (A3 (BK Mq (ES (gv 0) T.dl.cl T.aba (Pv T) (Ag O).pass (g.mono (by decide)) T.aaM.b (AD (gv 1) AV)) (Be l (BA T.dl.cl T.aaa (gv 0) rfl) (gv 2)))))
theorem KC:Aw ["self", "number", "call", "wanted", "standing", "told", "other"] ["self", "number", "call", "wanted"] (Ah Ej):=Ch
theorem KG(T:Txt K mg W):Bm P w K mg base (CXG P w) 2 T.aaN.f T.aaN.fd ["self", "number", "call", "wanted"] (spM K 4 (Gv W)):=by
 refine A5 (k:=1) T.aaN.F KC rfl λ_ _ _ _ _ _ o O g l s A=>?_
 exact(AI (BO 4 l (Be g (BA T.dl.cl T.ut (gv 0) rfl) (gv 1)))
  (AI (CA (B8 (HC g) (BA T.dl.cl T.XL (gv 0) rfl) BY (B5 _)) (AQ (A3 pM)) BB)
  (AI (BO 5 l (Cm (E6 AV)))
  (AI (CM (Ag O).own rfl (Cb (Au (Mm T) (Ag O).pass (o.mono (by decide)) rfl T.v4.m T.v4.kp T.v4.b (AD (gv 3) AV))) (Bb 6 l)
  (AQ (C7 (Dd (gv 5) (FI rfl T.wE (Cm (E0 (own:=["guard"]) (N':=["guard", "self", "·2", "call", "·4", "·5", "·6", "other"]) rfl (DT (by kernel_rfl)) (Cb (gv 4)) (λ_ _ _ _ _ _=>(Bb 0 (by decide +kernel:(["guard", "self", "·2", "call", "·4", "·5", "·6", "other"]:List Str).Nodup))) (λ_ _ _ _ _ _=>Dg) (λ_ _ _ _ _ _=>(Nm (To g (gv 0) (Be g (BA T.dl.cl T.ut (gv 1) rfl) (gv 7))) (gv 0) (gv 3))))))))))
  (AQ (A3 (kX g rfl rfl T.aa5 (gv 5))))))))
theorem Qu:Aw ["field", "left", "told", "number", "lost"] ["field", "left"] (Ah IT):=Ch
theorem Kp(T:Txt K mg W):Bm P w K mg base (CXG P w) 15 T.xz.f T.xz.fd ["field", "left"] (spM K 2 (IX W)):=by
 refine A5 (k:=14) T.xz.F Qu rfl λ_ _ _ _ _ _ g O l o s A=>?_
 exact(AI (BO 2 o Hh)
  (AI (CM (Ag O).own rfl (Cb (Au (Mm T) (Ag O).pass (g.mono (by decide)) rfl T.v4.m T.v4.kp T.v4.b (AD (gv 1) AV))) (Bb 3 o)
  (AI (Nj (i:=4) (own:=["call"]) (N':=["call", "field", "left", "·3", "number", "·5"]) rfl rfl o rfl (by first | exact Ia rfl | exact Hs rfl) (DT (by kernel_rfl)) (Cb (ES (gv 0) T.dl.cl T.aa7 (Q6 T) (Ag O).pass (g.mono (by decide)) T.aaJ.b (AD (gv 3) AV))) (λ_ _ _ _ _ _=>(Bb 0 (by decide +kernel:(["call", "field", "left", "·3", "number", "·5"]:List Str).Nodup))) (λ_ _ _ _ _ _=>(Nk (B8 (HC l) (BK Mq (ES (gv 1) T.dl.cl T.aa2 (J7 T) (good_none rfl).pass (g.mono (by decide)) T.aar.b (AD (gv 4) (AD (gv 0) AV))) (gv 2)) ge_int (B5 _)))) (λ_ _ _ _ _ _=>(gv 0)))
  (AQ (CA (D1 (gv 4)) (AQ (Ey (BW (BP (by decide:1<=64) _) l) (gv 2) (gv 3) (Be l (gv 4) ge_int) rfl)) BB))))
  (AQ (A3 (gv 2)))))
theorem bF:Aw ["field", "told", "left", "stage", "falling", "number"] ["field"] (Ah Qz):=Ch
theorem Tf(T:Txt K mg W):Bm P w K mg base (CXG P w) 16 T.xL.f T.xL.fd ["field"] (spM K 1 (RZ W)):=by
 refine A5 (k:=15) T.xL.F bF rfl λ_ _ _ _ _ _ l O o g s A=>?_
 exact(AI (BO 1 g Hh)
  (AI (BO 2 g (BK RA (BK Mp ge_int (Eo rfl T.ul (BA T.dl.cl T.ut (gv 0) rfl))) ge_int))
  (AI (BO 3 g ge_int)
  (AI (BO 4 g (Au (Kp T) (Ag O).pass (l.mono (by decide)) rfl T.xz.m T.xz.kp T.xz.b (AD (gv 0) (AD (gv 2) AV))))
  (AI (W3 wN (Ag O).own (D1 (gv 4)) (AI (tK (i:=4) (CM (Ag O).own rfl (kS (gv 4)) (Bb 5 g)
  (AI (Ey (BW (BP (by decide:1<=64) _) o) (gv 1) (gv 5) (En (AD (gv 3) (AD (Be o (gv 4) (gv 5)) AV))) rfl)
  (AQ (Tp 2 g oq (BK Mp ge_int (gv 5)))))))
  (AI (Tp 3 g ou ge_int)
  (AQ (BO 4 g (Au (Kp T) (Ag O).pass (l.mono (by decide)) rfl T.xz.m T.xz.kp T.xz.b (AD (gv 0) (AD (gv 2) AV))))))))
  (AQ (A3 (gv 1))))))))
theorem Pd:Aw ["field", "gone"] ["field", "gone"] (Ah HU):=Ch
theorem J5(T:Txt K mg W):Bm P w K mg base (CXG P w) 1 T.x0.f T.x0.fd ["field", "gone"] (spM K 2 (Hj W)):=by
 refine A5 (k:=0) T.x0.F Pd rfl λ_ _ _ _ _ _ l O g m o s=>?_
 exact(AQ (A3 (pK rfl rfl T.abq (Cm (E0 (own:=["number"]) (N':=["number", "·1", "gone"]) rfl (DT (by kernel_rfl)) (E1 rfl T.u8 (AD (Eo rfl T.ul (BA T.dl.cl T.ut (gv 0) rfl)) AV)) (λ_ _ _ _ _ _=>(Bb 0 (by decide +kernel:(["number", "·1", "gone"]:List Str).Nodup))) (λ_ _ _ _ _ _=>(Nk (EE g (gv 0) (gv 2)))) (λ_ _ _ _ _ _=>(BK Mp ge_int (gv 0))))))))
theorem YU:Aw ["web", "guards", "kind", "field"] ["web", "guards", "kind"] (Ah OQ):=Ch
theorem Yf(T:Txt K mg W):Bm P w K mg base (CXG P w) 17 T.aas.f T.aas.fd ["web", "guards", "kind"] (spM K 3 (Ts W)):=by
 refine A5 (k:=16) T.aas.F YU rfl λ_ _ _ _ _ _ g O l o s A=>?_
 exact(AI (BO 3 o (QI T.dl.mk' (Lz T) (Ag O).pass (g.mono (by decide)) rfl T.dl.m T.aaj.b (AD (gv 0) (AD (gv 1) (AD (gv 2) AV)))))
  (AQ (A3 (Cm (E0 (own:=["number"]) (N':=["number", "·1", "·2", "·3", "field"]) rfl (DT (by kernel_rfl)) (Cb (Au (Mm T) (Ag O).pass (g.mono (by decide)) rfl T.v4.m T.v4.kp T.v4.b (AD (Au (J5 T) (Ag O).pass (g.mono (by decide)) rfl T.x0.m T.x0.kp T.x0.b (AD (gv 3) (AD (Au (Tf T) (Ag O).pass (g.mono (by decide)) rfl T.xL.m T.xL.kp T.xL.b (AD (gv 3) AV)) AV))) AV))) (λ_ _ _ _ _ _=>(Bb 0 (by decide +kernel:(["number", "·1", "·2", "·3", "field"]:List Str).Nodup))) (λ_ _ _ _ _ _=>Dg) (λ_ _ _ _ _ _=>(Be l (BA T.dl.cl T.ut (gv 4) rfl) (gv 0))))))))
theorem PZ:Aw ["web"] ["web"] (Ah HP):=Ch
theorem G3(T:Txt K mg W):Bm P w K mg base (CXG P w) 1 T.v6.f T.v6.fd ["web"] (spM K 1 (F0 W)):=by
 refine A5 (k:=0) T.v6.F PZ rfl λ_ _ _ _ _ _ g O l m o s=>?_
 exact(AQ (CA (B8 Wl (BA T.mt.cl T.on (gv 0) rfl) (Iu rfl T.aaW.choose_spec) (B5 _)) (AQ Em) BB))
theorem Ph:Aw ["web", "size", "some"] ["web"] (Ah HW):=Ch
theorem Pr(T:Txt K mg W):Bm P w K mg base (CXG P w) 4 T.aat.f T.aat.fd ["web"] (spM K 1 (Ky W)):=by
 refine A5 (k:=3) T.aat.F Ph rfl λ_ _ _ _ _ _ g O o l s A=>?_
 exact(AI (C7 (Au (G3 T) (Ag O).pass (g.mono (by decide)) rfl T.v6.m T.v6.kp T.v6.b (AD (gv 0) AV)))
  (AI (CM (Ag O).own rfl (LL rfl T.u8 (AD ge_int (AD (BA T.mt.cl T.on (gv 0) rfl) AV))) (Bb 1 l)
  (AQ (CM (Ag O).own rfl (Cb (Au (Mj T) (Ag O).pass (g.mono (by decide)) rfl T.v0.m T.v0.kp T.v0.b (AD (BA T.mt.cl T.on (gv 0) rfl) (AD (gv 1) AV)))) (Bb 2 l)
  (AQ (CA (B8 RB (Au (Mn T) (Ag O).pass (g.mono (by decide)) rfl T.aan.m T.aan.kp T.aan.b (AD (gv 0) (AD (gv 2) AV))) FS (B5 _)) (AQ (A3 (gv 2))) BB)))))
  (AQ (A3 (gN rfl rfl T.wE rfl T.u8 (AD (BA T.mt.cl T.on (gv 0) rfl) AV))))))
theorem SY:Aw ["web", "size", "some"] ["web"] (Ah JS):=Ch
theorem Lx(T:Txt K mg W):Bm P w K mg base (CXG P w) 5 T.zn.f T.zn.fd ["web"] (spM K 1 (Jj W)):=by
 refine A5 (k:=4) T.zn.F SY rfl λ_ _ _ _ _ _ g O o l s A=>?_
 exact(AI (C7 (Au (G3 T) (Ag O).pass (g.mono (by decide)) rfl T.v6.m T.v6.kp T.v6.b (AD (gv 0) AV)))
  (AI (CM (Ag O).own rfl (bv rfl T.u8 (AD (BA T.mt.cl T.on (gv 0) rfl) (AD ge_int (AD (Mr ge_int) AV)))) (Bb 1 l)
  (AQ (CM (Ag O).own rfl (Cb (Au (Mj T) (Ag O).pass (g.mono (by decide)) rfl T.v0.m T.v0.kp T.v0.b (AD (BA T.mt.cl T.on (gv 0) rfl) (AD (gv 1) AV)))) (Bb 2 l)
  (AQ (CA (B8 RB (Au (Sh T) (Ag O).pass (g.mono (by decide)) rfl T.aao.m T.aao.kp T.aao.b (AD (gv 0) (AD (gv 2) AV))) FS (B5 _)) (AQ (A3 (gv 2))) BB)))))
  (AQ (A3 (En (AD ge_int AV))))))
theorem Sb:Aw ["web", "clubs", "place", "most", "told", "number", "club", "joined"] ["web", "clubs", "place", "most"] (Ah JV):=Ch
theorem Si(T:Txt K mg W):Bm P w K mg base (CXG P w) 6 T.aau.f T.aau.fd ["web", "clubs", "place", "most"] (spM K 4 (Nq W)):=by
 refine A5 (k:=5) T.aau.F Sb rfl λ_ _ _ _ _ _ l O o g s A=>?_
 exact(AI (BO 4 g (Cm (E6 AV)))
  (AI (CM (Ag O).own rfl (QH rfl T.aaT (gv 1)) (Kt rfl (DE (Bb 5 g) (DE (Bb 6 g) ID)))
  (AI (BO 7 g (BK FR (gv 6) (En (AD (gv 2) AV))))
  (AQ (CA (D1 (Au (Yg T) (Ag O).pass (l.mono (by decide)) rfl T.aaq.m T.aaq.kp T.aaq.b (AD (gv 0) (AD (gv 7) AV)))) (AQ (C7 (Dd (gv 4) (BK FR (BK FR (EG (gv 1) Fy (Ez (gv 5))) (Cm (E6 (AD (gv 7) AV)))) (EG (gv 1) (Ez (BK FR (gv 5) ge_int)) Fy))))) BB))))
  (AI (CA (B8 O5 (Eo rfl T.ul (gv 1)) (gv 3) (B5 _)) (AQ (C7 (Dd (gv 4) (BK FR (gv 1) (Cm (E6 (AD (En (AD (gv 2) AV)) AV))))))) BB)
  (AQ (A3 (gv 4))))))
theorem Pa:Aw ["web", "clubs", "place", "most", "tried", "parting"] ["web", "clubs", "place", "most"] (Ah HQ):=Ch
theorem Jz(T:Txt K mg W):∀n:Nat,Bm P w K mg base (CXG P w) (6+n) T.BT.f T.BT.fd ["web", "clubs", "place", "most"] (spM K 4 (Hi W n))
 | 0=>gb
 | n+1=>by
  refine A5 (k:=6+n) T.BT.F Pa rfl λ_ _ _ _ _ _ g O o l s A=>?_
  exact(AI (CA (B8 (HC o) (gv 2) (BA T.mt.cl T.on (gv 0) rfl) (B5 _)) (AQ (A3 (gv 1))) BB)
  (AI (CM (Ag O).own rfl (Cb (Au (Si T) (Ag O).pass (g.mono (Ap (show 6<=6 by decide) (DU _ _))) rfl T.aau.m T.aau.kp T.aau.b (AD (gv 0) (AD (gv 1) (AD (gv 2) (AD (gv 3) AV)))))) (Bb 4 l)
  (AI (BO 5 l (Au (Jz T n) (Ag O).pass (g.mono (AN _)) rfl T.BT.m T.BT.kp T.BT.b (AD (gv 0) (AD (gv 4) (AD (BK FR (gv 2) ge_int) (AD (gv 3) AV))))))
  (AQ (CA (B8 Z1 (gv 5) FS (B5 _)) (AQ (A3 (gv 5))) BB))))
  (AQ (A3 FS))))
theorem Pi:Aw ["web", "most", "parting"] ["web"] (Ah HX):=Ch
theorem Ps(T:Txt K mg W):Bm P w K mg base (CXG P w) 17 T.aav.f T.aav.fd ["web"] (spM K 1 (Kz W)):=by
 refine A5 (k:=16) T.aav.F Pi rfl λ_ _ _ _ _ _ g O o l s A=>?_
 exact(AI (C7 (Au (G3 T) (Ag O).pass (g.mono (by decide)) rfl T.v6.m T.v6.kp T.v6.b (AD (gv 0) AV)))
  (AI (CM (Ag O).own rfl (LL rfl T.u8 (AD (Eo rfl T.ul (Au (Lx T) (Ag O).pass (g.mono (by decide)) rfl T.zn.m T.zn.kp T.zn.b (AD (gv 0) AV))) (AD (BA T.mt.cl T.on (gv 0) rfl) AV))) (Bb 1 l)
  (AI (BO 2 l (Au (Jz T 9) (Ag O).pass (g.mono (by decide)) rfl T.BT.m T.BT.kp T.BT.b (AD (gv 0) (AD (Cm (E6 AV)) (AD ge_int (AD (gv 1) AV))))))
  (AQ (CA (B8 Z1 (gv 2) FS (B5 _)) (AQ (A3 (gv 2))) BB))))
  (AQ (A3 (Cm (E0 (own:=["place"]) (N':=["place", "·1", "·2", "·3"]) rfl (DT (by kernel_rfl)) (E1 rfl T.u8 (AD (BA T.mt.cl T.on (gv 0) rfl) AV)) (λ_ _ _ _ _ _=>(Bb 0 (by decide +kernel:(["place", "·1", "·2", "·3"]:List Str).Nodup))) (λ_ _ _ _ _ _=>Dg) (λ_ _ _ _ _ _=>(En (AD (gv 0) AV)))))))))
theorem Pe:Aw ["field", "number", "call", "kept"] ["field", "number", "call", "kept"] (Ah HV):=Ch
theorem Pp(T:Txt K mg W):Bm P w K mg base (CXG P w) 15 T.aaw.f T.aaw.fd ["field", "number", "call", "kept"] (spM K 4 (Kx W)):=by
 refine A5 (k:=14) T.aaw.F Pe rfl λ_ _ _ _ _ _ g O l m o s=>?_
 exact(AQ (A3 (ES (gv 0) T.dl.cl T.abb (KG T) (Ag O).pass (g.mono (by decide)) T.aaN.b (AD (gv 1) (AD (gv 2) (AD (BK Mq (ES (gv 0) T.dl.cl T.aa2 (J7 T) (Ag O).pass (g.mono (by decide)) T.aar.b (AD (gv 1) (AD (gv 2) AV))) (gv 3)) AV))))))
theorem KB:Aw ["web"] ["web"] (Ah Ei):=Ch
theorem GN(T:Txt K mg W):Bm P w K mg base (CXG P w) 1 T.Cl.f T.Cl.fd ["web"] (spM K 1 (Ep W)):=by
 refine A5 (k:=0) T.Cl.F KB rfl λ_ _ _ _ _ _ g O l m o s=>?_
 exact(AQ (CA (B8 Wl (BA T.mt.cl T.on (gv 0) rfl) (Iu rfl T.aaX.choose_spec) (B5 _)) (AQ Em) BB))
theorem Pc:Aw ["web", "kind", "guards"] ["web", "kind"] (Ah HS):=Ch
theorem G4(T:Txt K mg W):Bm P w K mg base (CXG P w) 18 T.v9.f T.v9.fd ["web", "kind"] (spM K 2 (F3 W)):=by
 refine A5 (k:=17) T.v9.F Pc rfl λ_ _ _ _ _ _ g O o l s A=>?_
 exact(AI (CM (Ag O).own rfl (LL rfl T.u8 (AD ge_int (AD (BA T.mt.cl T.on (gv 0) rfl) AV))) (Bb 2 l)
  (AQ (CA (D1 (Au (Yf T) (Ag O).pass (g.mono (by decide)) rfl T.aas.m T.aas.kp T.aas.b (AD (gv 0) (AD (gv 2) (AD (gv 1) AV))))) (AQ (A3 (gv 2))) BB)))
  (AQ (A3 (BA T.mt.cl T.on (gv 0) rfl))))
theorem bE:Aw ["web", "kind"] ["web", "kind"] (Ah Qy):=Ch
theorem bU(T:Txt K mg W):Bm P w K mg base (CXG P w) 19 T.aax.f T.aax.fd ["web", "kind"] (spM K 2 (W5 W)):=by
 refine A5 (k:=18) T.aax.F bE rfl λ_ _ _ _ _ _ g O l o s A=>?_
 exact(AI (C7 (Au (GN T) (Ag O).pass (g.mono (by decide)) rfl T.Cl.m T.Cl.kp T.Cl.b (AD (gv 0) AV)))
  (AQ (A3 (Au (G4 T) (Ag O).pass (g.mono (by decide)) rfl T.v9.m T.v9.kp T.v9.b (AD (gv 0) (AD (gv 1) AV))))))
theorem jP:Aw ["web", "of_all", "of_one"] ["web"] (Ah YY):=Ch
theorem kB(T:Txt K mg W):Bm P w K mg base (CXG P w) 19 T.aay.f T.aay.fd ["web"] (spM K 1 (ge W)):=by
 refine A5 (k:=18) T.aay.F jP rfl λ_ _ _ _ _ _ g O o l s A=>?_
 exact(AI (C7 (Au (GN T) (Ag O).pass (g.mono (by decide)) rfl T.Cl.m T.Cl.kp T.Cl.b (AD (gv 0) AV)))
  (AI (BO 1 l (Au (G4 T) (Ag O).pass (g.mono (by decide)) rfl T.v9.m T.v9.kp T.v9.b (AD (gv 0) (AD BY AV))))
  (AI (BO 2 l (Au (G4 T) (Ag O).pass (g.mono (by decide)) rfl T.v9.m T.v9.kp T.v9.b (AD (gv 0) (AD BY AV))))
  (AQ (A3 (En (AD (Eo rfl T.ul (Au (Pr T) (Ag O).pass (g.mono (by decide)) rfl T.aat.m T.aat.kp T.aat.b (AD (gv 0) AV))) (AD (gv 1) (AD (Eo rfl T.ul (Au (Lx T) (Ag O).pass (g.mono (by decide)) rfl T.zn.m T.zn.kp T.zn.b (AD (gv 0) AV))) (AD (gv 2) (AD (Eo rfl T.ul (Au (Ps T) (Ag O).pass (g.mono (by decide)) rfl T.aav.m T.aav.kp T.aav.b (AD (gv 0) AV))) AV)))))))))))
theorem UZ:Aw ["word"] ["word"] (Ah Kh):=Ch
theorem NW(T:Txt K mg W):Bm P w K mg base (CXG P w) 1 T.aaO.f T.aaO.fd ["word"] (spM K 1 (Kv W)):=by
 refine A5 (k:=0) T.aaO.F UZ rfl λ_ _ _ _ _ _ l O g m o s=>?_
 exact(AI (CA (Py (J8 (G6 (Hg L6 L6 ge_int (aE rfl T.ul (gv 0)) (Iu rfl T.aaZ.choose_spec))) (Ks (G6 (o0 (pN rfl rfl T.abj (Cm (E0 (own:=["sign"]) (N':=["sign", "·1"]) rfl (DT (by kernel_rfl)) (pG (gv 0)) (λ_ _ _ _ _ _=>(Bb 0 (by decide +kernel:(["sign", "·1"]:List Str).Nodup))) (λ_ _ _ _ _ _=>Dg) (λ_ _ _ _ _ _=>(RT oW (gv 0) (Nn rfl T.aaY.choose_spec) (by with_unfolding_all rfl))))))))))) (AQ (A3 FS)) BB)
  (AI (CA (Py (U4 (B8 Wl (aE rfl T.ul (gv 0)) ge_int (B5 _)) (QF (B8 (HC g) (l8 oV (gv 0) ge_int) BY (B5 _))))) (AQ (A3 FS)) BB)
  (AQ (A3 (kb rfl T.abk (gv 0))))))
theorem NM:Aw ["row", "first", "many", "words", "numbers"] ["row", "first", "many"] (Ah GZ):=Ch
theorem IC(T:Txt K mg W):Bm P w K mg base (CXG P w) 2 T.Fr.f T.Fr.fd ["row", "first", "many"] (spM K 3 (Ge W)):=by
 refine A5 (k:=1) T.Fr.F NM rfl λ_ _ _ _ _ _ m O g l o s=>?_
 exact(AI (BO 3 l (Ir (gv 0) BY))
  (AI (Nj (i:=4) (own:=["word"]) (N':=["word", "·1", "·2", "·3", "·4", "·5"]) rfl rfl l rfl (by first | exact Ia rfl | exact Hs rfl) (DT (by kernel_rfl)) (Cb (EG (gv 3) (Ez ge_int) Fy)) (λ_ _ _ _ _ _=>(Bb 0 (by decide +kernel:(["word", "·1", "·2", "·3", "·4", "·5"]:List Str).Nodup))) (λ_ _ _ _ _ _=>Dg) (λ_ _ _ _ _ _=>(gcl T.aaO (NW T) m (AD (gv 0) AV))))
  (AI (CA (Py (J8 (B8 (fM g) (Be g (gv 3) ge_int) (gv 1) (B5 _)) (J8 (B8 (fM g) (Eo rfl T.ul (gv 4)) (gv 2) (B5 _)) (Ks (To g FS (gv 4)))))) (AQ (A3 FS)) BB)
  (AQ (A3 (gv 4))))))
theorem bC:Aw ["text", "rows", "head", "ties", "number", "row", "ends"] ["text"] (Ah Qw):=Ch
theorem Yi(T:Txt K mg W):Bm P w K mg base (CXG P w) 4 T.ww.f T.ww.fd ["text"] (spM K 1 (Of W)):=by
 refine A5 (k:=3) T.ww.F bC rfl λ_ _ _ _ _ _ o O g l s A=>?_
 exact(AI (BO 1 l (Ir (gv 0) BY))
  (AI (BO 2 l (Au (IC T) (Ag O).pass (o.mono (by decide)) rfl T.Fr.m T.Fr.kp T.Fr.b (AD (Be g (gv 1) ge_int) (AD BY (AD ge_int AV)))))
  (AI (CA (Py (J8 (B8 RB (gv 2) FS (B5 _)) (Ks (G6 (Hg L6 L6 ge_int (Be g (gv 2) ge_int) (Iu rfl T.aaG.choose_spec)))))) (AQ Em) BB)
  (AI (BO 3 l (Cm (E6 (AD (En (AD (Mr ge_int) (AD (Mr ge_int) AV))) AV))))
  (AI (CM (Ag O).own rfl (gH rfl T.aaT (EG (gv 1) (Ez ge_int) Fy)) (Kt rfl (DE (Bb 4 l) (DE (Bb 5 l) ID)))
  (AI (BO 6 l (Au (IC T) (Ag O).pass (o.mono (by decide)) rfl T.Fr.m T.Fr.kp T.Fr.b (AD (gv 5) (AD BY (AD ge_int AV)))))
  (AI (CA (Py (J8 (B8 RB (gv 6) FS (B5 _)) (J8 (G6 (Hg O5 O5 (Be g (gv 6) ge_int) (Be g (gv 6) ge_int) (Be g (gv 2) ge_int))) (Ks (G6 (B8 (oU g) (Be g (gv 3) (Mr ge_int)) (FI rfl T.wE (gv 6)) (B5 _))))))) (AQ Em) BB)
  (AQ (C7 (Dd (gv 3) (FI rfl T.wE (gv 6))))))))
  (AQ (A3 (QI T.mt.mk' (Wj T) (Ag O).pass (o.mono (by decide)) rfl T.mt.m T.aaH.b (AD (Be g (gv 2) ge_int) (AD (EG (gv 3) (Ez ge_int) Fy) AV))))))))))
theorem Td(T:Txt K mg W):Bm P w K mg base (CXG P w) 4 T.ww.f T.ww.fd ["text"] (spM K 1 (Iv W)):=Y0 (Yi T)
theorem YR:Aw ["numbers"] ["numbers"] (Ah ON):=Ch
theorem Mi(T:Txt K mg W):Bm P w K mg base (CXG P w) 1 T.wf.f T.wf.fd ["numbers"] (spM K 1 (LO W)):=by
 refine A5 (k:=0) T.wf.F YR rfl λ_ _ _ _ _ _ g O l m o s=>?_
 exact(AQ (A3 (RQ BY (Cm (E0 (own:=["number"]) (N':=["number", "·1"]) rfl (DT (by kernel_rfl)) (Cb (gv 0)) (λ_ _ _ _ _ _=>(Bb 0 (by decide +kernel:(["number", "·1"]:List Str).Nodup))) (λ_ _ _ _ _ _=>Dg) (λ_ _ _ _ _ _=>(kW rfl T.abp (gv 0))))))))
theorem Ud:Aw ["self", "kind", "guards", "field"] ["self", "kind", "guards"] (Ah Kl):=Ch
theorem NX(T:Txt K mg W):Bm P w K mg base (CXG P w) 17 T.aaz.f T.aaz.fd ["self", "kind", "guards"] (spM K 3 (K2 W)):=by
 refine A5 (k:=16) T.aaz.F Ud rfl λ_ _ _ _ _ _ l O g o s A=>?_
 exact(AI (CA (EE g (En (AD (gv 1) (AD (gv 2) AV))) (BA T.pc.cl T.Tm (gv 0) rfl)) (AI (BO 3 o (QI T.dl.mk' (Lz T) (Ag O).pass (l.mono (by decide)) rfl T.dl.m T.aaj.b (AD (BA T.pc.cl T.wn (gv 0) rfl) (AD (gv 2) (AD (gv 1) AV)))))
  (AQ (Ey (BW (BP (by decide:1<=64) _) g) (BA T.pc.cl T.Tm (gv 0) rfl) (En (AD (gv 1) (AD (gv 2) AV))) (En (AD (gv 3) (AD (Au (Tf T) (Ag O).pass (l.mono (by decide)) rfl T.xL.m T.xL.kp T.xL.b (AD (gv 3) AV)) AV))) rfl))) BB)
  (AQ (A3 (Be g (BA T.pc.cl T.Tm (gv 0) rfl) (En (AD (gv 1) (AD (gv 2) AV)))))))
theorem Uc:Aw ["self", "kind", "standing", "duel", "number", "stage", "call"] ["self", "kind", "standing"] (Ah Kk):=Ch
theorem Uv(T:Txt K mg W):Bm P w K mg base (CXG P w) 18 T.aaP.f T.aaP.fd ["self", "kind", "standing"] (spM K 3 (PH W)):=by
 refine A5 (k:=17) T.aaP.F Uc rfl λ_ _ _ _ _ _ m O g l o s=>?_
 exact(AI (BO 3 l (ES (gv 0) T.pc.cl T.aa3 (NX T) (Ag O).pass (m.mono (by decide)) T.aaz.b (AD (gv 1) (AD (Eo rfl T.ul (gv 2)) AV))))
  (AI (BO 4 l (Be g (BA T.dl.cl T.Id (Be g (gv 3) ge_int) rfl) (gv 2)))
  (AI (CA (EE g (gv 4) (Be g (gv 3) ge_int)) (AQ (A3 BY)) BB)
  (AI (BO 5 l (Be g (Be g (Be g (gv 3) ge_int) (gv 4)) ge_int))
  (AI (BO 6 l (Be g (Be g (Be g (gv 3) ge_int) (gv 4)) ge_int))
  (AQ (A3 (ka (QG BY (QG (gR (gv 5)) (QG BY (QG (gR (gv 6)) pE))))))))))))
theorem NN:Aw ["self", "kind", "call", "standing", "duel", "number"] ["self", "kind", "call", "standing"] (Ah Ga):=Ch
theorem NY(T:Txt K mg W):Bm P w K mg base (CXG P w) 18 T.aaQ.f T.aaQ.fd ["self", "kind", "call", "standing"] (spM K 4 (Iy W)):=by
 refine A5 (k:=17) T.aaQ.F NN rfl λ_ _ _ _ _ _ l O g o s A=>?_
 exact(AI (C7 (Au (NV T) (Ag O).pass (l.mono (by decide)) rfl T.aal.m T.aal.kp T.aal.b (AD (BA T.pc.cl T.wn (gv 0) rfl) (AD (gv 3) (AD (gv 2) AV)))))
  (AI (BO 4 o (ES (gv 0) T.pc.cl T.aa3 (NX T) (Ag O).pass (l.mono (by decide)) T.aaz.b (AD (gv 1) (AD (Eo rfl T.ul (gv 3)) AV))))
  (AI (BO 5 o (Be g (BA T.dl.cl T.Id (Be g (gv 4) ge_int) rfl) (gv 3)))
  (AI (CA (To g (gv 5) (Be g (gv 4) ge_int)) (AQ (A3 BY)) BB)
  (AQ (A3 (Au (Mi T) (Ag O).pass (l.mono (by decide)) rfl T.wf.m T.wf.kp T.wf.b (AD (Au (Pp T) (Ag O).pass (l.mono (by decide)) rfl T.aaw.m T.aaw.kp T.aaw.b (AD (Be g (gv 4) ge_int) (AD (gv 5) (AD (gv 2) (AD (Au (J5 T) (Ag O).pass (l.mono (by decide)) rfl T.x0.m T.x0.kp T.x0.b (AD (Be g (gv 4) ge_int) (AD (Be g (gv 4) ge_int) AV))) AV))))) AV))))))))
theorem Qt:Aw ["web", "words", "places"] ["web", "words"] (Ah IS):=Ch
theorem Hd(T:Txt K mg W):Bm P w K mg base (CXG P w) 2 T.wl.f T.wl.fd ["web", "words"] (spM K 2 (Gm W)):=by
 refine A5 (k:=1) T.wl.F Qt rfl λ_ _ _ _ _ _ l O g o s A=>?_
 exact(AI (Nj (i:=2) (own:=["word"]) (N':=["word", "·1", "·2", "·3"]) rfl rfl o rfl (by first | exact Ia rfl | exact Hs rfl) (DT (by kernel_rfl)) (Cb (gv 1)) (λ_ _ _ _ _ _=>(Bb 0 (by decide +kernel:(["word", "·1", "·2", "·3"]:List Str).Nodup))) (λ_ _ _ _ _ _=>Dg) (λ_ _ _ _ _ _=>(gcl T.aaO (NW T) l (AD (gv 0) AV))))
  (AI (CA (Py (J8 (G6 (D1 (gv 2))) (J8 (To g FS (gv 2)) (J8 (B8 (fM g) (gv 2) (Yz rfl rfl T.aaU rfl T.abo (gv 2)) (B5 _)) (Ks (B8 ln (Be g (gv 2) (Mr ge_int)) (BA T.mt.cl T.on (gv 0) rfl) (B5 _))))))) (AQ (RP (Ag O) rfl T.aa1.xc rfl T.aa1.m (AD BY AV))) BB)
  (AQ (A3 (FI rfl T.wE (gv 2))))))
theorem LY:Aw ["self", "words", "call"] ["self", "words"] (Ah FQ):=Ch
theorem La(T:Txt K mg W):Bm P w K mg base (CXG P w) 20 T.aaR.f T.aaR.fd ["self", "words"] (spM K 2 (Hm W)):=by
 refine A5 (k:=19) T.aaR.F LY rfl λ_ _ _ _ _ _ l O g o s A=>?_
 exact(AI (CA (B8 (HC g) (gv 1) (Cm (E6 (AD BY AV))) (B5 _)) (AQ (A3 (Au (Mi T) (Ag O).pass (l.mono (by decide)) rfl T.wf.m T.wf.kp T.wf.b (AD (Au (kB T) (Ag O).pass (l.mono (by decide)) rfl T.aay.m T.aay.kp T.aay.b (AD (BA T.pc.cl T.wn (gv 0) rfl) AV)) AV)))) BB)
  (AI (CA (Py (J8 (B8 O5 (Eo rfl T.ul (gv 1)) ge_int (B5 _)) (Ks (kP (Be g (gv 1) ge_int) rfl T.aa6.choose_spec.1 T.aa6.choose_spec.2)))) (AQ (A3 (Nn rfl T.aab.choose_spec))) BB)
  (AI (CA (Py (U4 (B8 (HC g) (Be g (gv 1) ge_int) BY (B5 _)) (QF (B8 (HC g) (Eo rfl T.ul (gv 1)) ge_int (B5 _))))) (AQ (A3 (Au (Mi T) (Ag O).pass (l.mono (by decide)) rfl T.wf.m T.wf.kp T.wf.b (AD (Cm (E6 (AD (Au (bU T) (Ag O).pass (l.mono (by decide)) rfl T.aax.m T.aax.kp T.aax.b (AD (BA T.pc.cl T.wn (gv 0) rfl) (AD (Be g (gv 1) ge_int) AV))) AV))) AV)))) BB)
  (AI (CA (B8 (HC g) (Be g (gv 1) ge_int) BY (B5 _)) (AQ (A3 (ES (gv 0) T.pc.cl T.abc (Uv T) (Ag O).pass (l.mono (by decide)) T.aaP.b (AD (Be g (gv 1) ge_int) (AD (Au (Hd T) (Ag O).pass (l.mono (by decide)) rfl T.wl.m T.wl.kp T.wl.b (AD (BA T.pc.cl T.wn (gv 0) rfl) (AD (EG (gv 1) (Ez ge_int) Fy) AV))) AV))))) BB)
  (AI (CA (B8 (HC g) (Be g (gv 1) ge_int) BY (B5 _)) (AI (BO 2 o (Be g (Au (Hd T) (Ag O).pass (l.mono (by decide)) rfl T.wl.m T.wl.kp T.wl.b (AD (BA T.pc.cl T.wn (gv 0) rfl) (AD (EG (gv 1) (Ez ge_int) (Ez ge_int)) AV))) ge_int))
  (AQ (A3 (ES (gv 0) T.pc.cl T.abd (NY T) (Ag O).pass (l.mono (by decide)) T.aaQ.b (AD (Be g (gv 1) ge_int) (AD (gv 2) (AD (Au (Hd T) (Ag O).pass (l.mono (by decide)) rfl T.wl.m T.wl.kp T.wl.b (AD (BA T.pc.cl T.wn (gv 0) rfl) (AD (EG (gv 1) (Ez ge_int) Fy) AV))) AV))))))) BB)
  (AQ (A3 (Nn rfl T.aab.choose_spec))))))))
theorem MX:Aw ["self", "words"] ["self", "words"] (Ah Fs):=Ch
theorem Lb(T:Txt K mg W):Bm P w K mg base (CXG P w) 21 T.Ty.f T.Ty.fd ["self", "words"] (spM K 2 (EA W)):=by
 refine A5 (k:=20) T.Ty.F MX rfl λ_ _ _ _ _ _ g O o s A l=>?_
 exact(AQ (kQ O rfl T.abh T.abi (λm l=>(AQ (A3 (ES (gv 0) T.pc.cl T.abe (La T) (Ag O).pass (g.mono (by decide)) T.aaR.b (AD (gv 1) AV))))) (λm B=>(AQ (A3 (Nn rfl T.aab.choose_spec))))))
theorem Mo(T:Txt K mg W):Bm P w K mg base (CXG P w) 21 T.Ty.f T.Ty.fd ["self", "words"] (spM K 2 (Dh W)):=Y0 (Lb T)
theorem Sf:Aw ["self", "row"] ["self", "row"] (Ah JX):=Ch
theorem Sk(T:Txt K mg W):Bm P w K mg base (CXG P w) 22 T.aaS.f T.aaS.fd ["self", "row"] (spM K 2 (F4 W)):=by
 refine A5 (k:=21) T.aaS.F Sf rfl λ_ _ _ _ _ _ l O g m o s=>?_
 exact(AI (CA (EE g (gv 1) (BA T.pc.cl T.ST (gv 0) rfl)) (AQ (Ey (BW (BP (by decide:1<=64) _) g) (BA T.pc.cl T.ST (gv 0) rfl) (gv 1) (ES (gv 0) T.pc.cl T.abf (Mo T) (Ag O).pass (l.mono (by decide)) T.Ty.b (AD (Ir (gv 1) BY) AV)) rfl)) BB)
  (AQ (A3 (Be g (BA T.pc.cl T.ST (gv 0) rfl) (gv 1)))))
theorem WR:Aw ["text", "rows", "end", "desk"] ["text"] (Ah Ma):=Ch
theorem Uw(T:Txt K mg W):Bm P w K mg base (CXG P w) 23 T.IO.f T.IO.fd ["text"] (spM K 1 (K3 W)):=by
 refine A5 (k:=22) T.IO.F WR rfl λ_ _ _ _ _ _ g O o l s A=>?_
 exact(AI (BO 1 l (Ir (gv 0) BY))
  (AI (CA (EE o BY (gv 1)) (AI (C7 (Au (Td T) (Ag O).pass (g.mono (by decide)) rfl T.ww.m T.ww.kp T.ww.b (AD (gv 0) AV)))
  (AQ Em)) BB)
  (AI (BO 2 l (bw (gv 1) BY))
  (AI (BO 3 l (QI T.pc.mk' (Uu T) (Ag O).pass (g.mono (by decide)) rfl T.pc.m T.aaI.b (AD (Au (Td T) (Ag O).pass (g.mono (by decide)) rfl T.ww.m T.ww.kp T.ww.b (AD (RQ BY (EG (gv 1) Fy (Ez (gv 2)))) AV)) AV)))
  (AQ (A3 (Cm (E0 (own:=["row"]) (N':=["row", "·1", "·2", "·3", "desk"]) rfl (DT (by kernel_rfl)) (Cb (EG (gv 1) (Ez (BK FR (gv 2) ge_int)) Fy)) (λ_ _ _ _ _ _=>(Bb 0 (by decide +kernel:(["row", "·1", "·2", "·3", "desk"]:List Str).Nodup))) (λ_ _ _ _ _ _=>Dg) (λ_ _ _ _ _ _=>(ES (gv 4) T.pc.cl T.abg (Sk T) (good_none rfl).pass (g.mono (by decide)) T.aaS.b (AD (gv 0) AV)))))))))))
theorem Wh(T:Txt K mg W):Bm P w K mg base (CXG P w) 23 T.IO.f T.IO.fd ["text"] (spM K 1 (Jl W)):=Y0 (Uw T)
theorem Pk:Aw ["script", "k"] ["script", "k"] (Ah HZ):=Ch
theorem Pu(T:Txt K mg W):Bm P w K mg base (CXG P w) 1 T.aaA.f T.aaA.fd ["script", "k"] (spM K 2 (Hk W)):=by
 refine A5 (k:=0) T.aaA.F Pk rfl λ_ _ _ _ _ _ l O g m o s=>?_
 exact(AI (CA (B8 O5 (gv 1) (Eo rfl T.ul (gv 0)) (B5 _)) (AQ (A3 (Be g (gv 0) (gv 1)))) BB)
  (AQ (A3 ge_int)))
theorem WS:Aw ["cell", "some", "odd"] ["cell"] (Ah Mb):=Ch
theorem Wi(T:Txt K mg W):Bm P w K mg base (CXG P w) 1 T.aaB.f T.aaB.fd ["cell"] (spM K 1 (Mt W)):=by
 refine A5 (k:=0) T.aaB.F WS rfl λ_ _ _ _ _ _ m O l g o s=>?_
 exact(AI (BO 1 g BY)
  (AI (BO 1 g (BK Je (gv 1) BY))
  (AI (BO 1 g (BK Je (gv 1) BY))
  (AI (BO 1 g (BK Je (gv 1) BY))
  (AI (BO 1 g (BK Je (gv 1) BY))
  (AI (BO 1 g (BK Je (gv 1) BY))
  (AI (BO 1 g (BK Je (gv 1) BY))
  (AI (BO 1 g (BK Je (gv 1) BY))
  (AI (BO 2 g (Ir (gv 1) BY))
  (AQ (A3 (Be l (gv 2) (BK Ux (gv 0) (Eo rfl T.ul (gv 2)))))))))))))))
theorem Sd:Aw ["cell", "some"] ["cell"] (Ah Fq):=Ch
def es1:List Expr:=sh ((F6 Fq).getD 0 (.Pass ⟨0,0,0,0⟩))
def es2:List Expr:=sh ((F6 Fq).getD 1 (.Pass ⟨0,0,0,0⟩))
theorem pT:es1=Nu (Yb es1):=by kernel_rfl
theorem pS:es2=Nu (Yb es2):=by kernel_rfl
theorem Sj(T:Txt K mg W):Bm P w K mg base (CXG P w) 1 T.aaC.f T.aaC.fd ["cell"] (spM K 1 (Jm W)):=by
 refine A5 (k:=0) T.aaC.F Sd rfl λ_ _ _ _ _ _ B O o m C E=>?_
 change GSs _ _ [.Assign [.Name "some" _] (.List es1 _) _,.Assign [.Name "some" _] (.BinOp (.Name "some" _) .Add (.List es2 _) _) _,_] (Aq (Bp 1 (Dz (Dr (Na (Yb es1))))) (Aq (Bp 1 (m2 Hz (AF 1) (Dz (Dr (Na (Yb es2)))))) _))
 have g:=pT;have l:=pS;generalize Yb es1=s at g ⊢;generalize Yb es2=A at l ⊢;generalize es1=G at g ⊢;generalize es2=H at l ⊢
 exact(AI (BO 1 m (Cm (E6 (gX s g))))
  (AI (BO 1 m (BK FR (gv 1) (Cm (E6 (gX A l)))))
  (AQ (A3 (Be o (gv 1) (BK Ux (gv 0) (Eo rfl T.ul (gv 1))))))))
theorem nO:Aw ["script", "rows", "due", "cell", "row", "answer", "found"] ["script"] (Ah Zl):=Ch
theorem oR(T:Txt K mg W):Bm P w K mg base (CXG P w) 24 T.KK.f T.KK.fd ["script"] (spM K 1 (aI W)):=by
 refine A5 (k:=23) T.KK.F nO rfl λ_ _ _ _ _ _ l O o g s A=>?_
 exact(AI (BO 1 g (Cm (E6 (AD BY (AD BY (AD BY (AD BY (AD BY AV))))))))
  (AI (BO 2 g (Cm (E6 AV)))
  (AI (CM (Ag O).own rfl (Cb (EG (gv 0) Fy (Ez ge_int))) (Bb 3 g)
  (AI (CA (B8 (HC o) (BK Ux (gv 3) ge_int) ge_int (B5 _)) (AQ (pD (Au (Sj T) (Ag O).pass (l.mono (by decide)) rfl T.aaC.m T.aaC.kp T.aaC.b (AD (BK Uy (gv 3) ge_int) AV)) (Kt rfl (DE (Bb 4 g) (DE (Bb 5 g) ID))))) (AI (BO 4 g (Au (Wi T) (Ag O).pass (l.mono (by decide)) rfl T.aaB.m T.aaB.kp T.aaB.b (AD (BK Uy (gv 3) ge_int) AV)))
  (AQ (BO 5 g BY))))
  (AI (C7 (Dd (gv 1) (gv 4)))
  (AQ (C7 (Dd (gv 2) (gv 5)))))))
  (AI (CA (B8 (HC o) (BK Ux (Au (Pu T) (Ag O).pass (l.mono (by decide)) rfl T.aaA.m T.aaA.kp T.aaA.b (AD (gv 0) (AD ge_int AV))) ge_int) ge_int (B5 _)) (AI (C7 (Dd (gv 1) BY))
  (AQ (C7 (Dd (gv 2) BY)))) BB)
  (AI (BO 6 g (Au (Wh T) (Ag O).pass (l.mono (by decide)) rfl T.IO.m T.IO.kp T.IO.b (AD (RQ BY (gv 1)) AV)))
  (AQ (A3 (L2.gV (tM (tabC:=λ_=>none) (c:=.ty "list") (cv:=.type "list") (λ_ r=>r) fq (λ_ _ z=>nomatch z) rfl T.abl (gv 6) (jy rfl T.abm uF rfl)) (gP (RT (HC o) (gv 6) (gv 2) (B5 _)))))))))))
end
open L2
def W0:Wd:=⟨24,61,97,135,336,529⟩
def sO(sel:List Nat):Res D->Option (Str×List (Option Ob))
 | .ok (.str x) S=>some (x,sel.map λn=>S[n]?)
 | _=>none
def SX(b:Bool)(x:Str):List Nat:=match b with
 | true=>[0,1,2,3,4,5,6,7,8,9,10,11]
 | false=>if x = "lasts one 0 2"∨x = "lasts one 0 1" then[0,1,2,3,11,24,14,19,20,21,22,23]else if x = "call one 3 0 2" then[0,1,2,3,15,28,18,23,24,25,26,27]else[0,1,2,3]
def fO(b:Bool)(x:Str):Bool:=b||decide (x = "lasts one 0 2"∨x = "lasts one 0 1")||decide (x = "call one 3 0 2")
def tR(b:Bool)(sel:List Nat)(l:List (Key×D)):List (Option Ob):=((stD b []).map λo=>some (Ek (λj=>sel.getD j 0) o)).set 2 (some (.dK l))
def jR(b:Bool)(l:List (Key×D))(x:Str):Option (Str×List (Option Ob)):=sO (SX b x) (EA W0 [.ref 0,.ref (stN b)] (stW b l ((PySem.Txt.split x " ").map D.str)))
def ZZ(b:Bool)(l:List (Key×D))(p:Str×Str):Option (Str×List (Option Ob)):=some (p.2,tR (fO b p.1) (SX b p.1) l)
theorem eT1(l:List (Key×D)):jR true l "five"=ZZ true l ("five","2 2 2 2 2"):=by kernel_rfl
theorem eF1(l:List (Key×D)):jR false l "five"=ZZ false l ("five","2 2 2 2 2"):=by kernel_rfl
theorem eT2(l:List (Key×D)):((Fi.take 2++Fi.drop 3).map λp=>jR true l p.1)=(Fi.take 2++Fi.drop 3).map (ZZ true l):=by kernel_rfl
theorem eF2(l:List (Key×D)):((Fi.take 2++Fi.drop 3).map λp=>jR false l p.1)=(Fi.take 2++Fi.drop 3).map (ZZ false l):=by kernel_rfl
theorem eQ0:Fi=Fi.take 2++(("five":Str),("2 2 2 2 2":Str))::Fi.drop 3:=by kernel_rfl
theorem eQ1(p:Str×Str)(h:p∈Fi):p=(("five":Str),("2 2 2 2 2":Str))∨p∈Fi.take 2++Fi.drop 3:=by
 rw[eQ0]at h
 rcases List.mem_append.mp h with h | h
 ·exact .inr (List.mem_append_left _ h)
 ·rcases List.mem_cons.mp h with h | h
  ·exact .inl h
  ·exact .inr (List.mem_append_right _ h)
theorem Yn{m o:Type}{f g:m->o}:∀{l:List m},l.map f=l.map g->∀x∈l,f x=g x
 | [],_,x,h=>by cases h
 | y :: l,e,x,h=>by
  rw[A2,A2]at e
  injection e with s A
  rcases Ax.mp h with rfl | h
  ·exact s
  ·exact Yn A x h
theorem ev(b:Bool)(l:List (Key×D))(p:Str×Str)(h:p∈Fi):jR b l p.1=ZZ b l p:=by
 rcases eQ1 p h with rfl | h
 ·cases b
  ·exact eF1 l
  ·exact eT1 l
 ·cases b
  ·exact Yn (eF2 l) p h
  ·exact Yn (eT2 l) p h
end M
namespace L2
mutual
def okD(M:Nat):D->Bool
 | .non=>true
 | .bl _=>true
 | .int _=>true
 | .str _=>true
 | .tup g=>bV M g
 | .fro g=>bV M g
 | .ref n=>decide (n < M)
 | .exc _=>true
def bV(M:Nat):List D->Bool
 | []=>true
 | d :: g=>okD M d&&bV M g
end
def okK{g:Type}(M:Nat)(l:List (g×D)):Bool:=l.all λx=>okD M x.2
def fJ(M:Nat):Ob->Bool
 | .lst g=>bV M g
 | .dK l=>okK M l
 | .dT l=>okK M l
 | .ins _ l=>okK M l
 | .fK l=>okK M l
 | .fT l=>okK M l
 | .mem _=>true
section
variable{g g':Nat->Nat}{M:Nat}
mutual
theorem Zp(h:∀j,j < M->g j=g' j):∀d:D,okD M d=true->KF g d=KF g' d
 | .non,_=>rfl
 | .bl _,_=>rfl
 | .int _,_=>rfl
 | .str _,_=>rfl
 | .tup l,o=>congrArg D.tup (NR h l o)
 | .fro l,o=>congrArg D.fro (NR h l o)
 | .ref n,o=>congrArg D.ref (h n (of_decide_eq_true o))
 | .exc _,_=>rfl
theorem NR(h:∀j,j < M->g j=g' j):∀d:List D,bV M d=true->FG g d=FG g' d
 | [],_=>rfl
 | d :: l,o=>by
  have o:(okD M d&&bV M l)=true:=o;rw[Bv]at o;show KF g d :: FG g l=KF g' d :: FG g' l;rw[Zp h d o.1,NR h l o.2]
end
theorem NP{m:Type}(h:∀j,j < M->g j=g' j){l:List (m×D)}(o:okK M l=true):KD g l=KD g' l:=DK λx s=>by rw[Zp h x.2 (BU.mp o x s)]
theorem Q1(h:∀j,j < M->g j=g' j){o:Ob}(k:fJ M o=true):Ek g o=Ek g' o:=by
 cases o with
 | lst m=>exact congrArg Ob.lst (NR h m k)
 | dK l=>exact congrArg Ob.dK (NP h k)
 | dT l=>exact congrArg Ob.dT (NP h k)
 | ins C l=>exact congrArg (Ob.ins C) (NP h k)
 | fK l=>exact congrArg Ob.fK (NP h k)
 | fT l=>exact congrArg Ob.fT (NP h k)
 | mem L=>rfl
mutual
theorem Zo:∀d:D,KF g (KF g' d)=KF (λj=>g (g' j)) d
 | .non=>rfl
 | .bl _=>rfl
 | .int _=>rfl
 | .str _=>rfl
 | .tup l=>congrArg D.tup (NQ l)
 | .fro l=>congrArg D.fro (NQ l)
 | .ref n=>rfl
 | .exc _=>rfl
theorem NQ:∀d:List D,FG g (FG g' d)=FG (λj=>g (g' j)) d
 | []=>rfl
 | d :: l=>by
  show KF g (KF g' d) :: FG g (FG g' l)=_;rw[Zo d,NQ l];rfl
end
theorem NO{m:Type}(l:List (m×D)):KD g (KD g' l)=KD (λj=>g (g' j)) l:=by
 unfold KD;rw[Cq]
 exact DK λx _=>by show(x.1,KF g (KF g' x.2))=_;rw[Zo]
theorem eV(o:Ob):Ek g (Ek g' o)=Ek (λj=>g (g' j)) o:=by
 cases o with
 | lst m=>exact congrArg Ob.lst (NQ m)
 | dK l=>exact congrArg Ob.dK (NO l)
 | dT l=>exact congrArg Ob.dT (NO l)
 | ins C l=>exact congrArg (Ob.ins C) (NO l)
 | fK l=>exact congrArg Ob.fK (NO l)
 | fT l=>exact congrArg Ob.fT (NO l)
 | mem L=>rfl
end
section
variable{S C C' T:Sto}{sel wA:List Nat}
theorem E7{N j:Nat}(h:j < sel.length):sel[j]?=some (gSl sel N j):=by
 have q:=An h;rw[Ji q];exact q
theorem OT(g:Nat->Nat):∀l:List Str,FG g (l.map D.str)=l.map D.str
 | []=>rfl
 | w :: l=>by
  show D.str w :: FG g (l.map D.str)=_;rw[OT g l];rfl
theorem G7.push(h:G7 S sel T)(ok:∀o∈T,fJ T.length o=true)(m:List Str):G7 (S++[.lst (m.map D.str)]) (sel++[S.length]) (T++[.lst (m.map D.str)]):=by
 have big:∀i,i < T.length->gSl sel S.length i=gSl (sel++[S.length]) (S++[Ob.lst (m.map D.str)]).length i:=λi s=>by
  have q:=E7 (sel:=sel) (N:=S.length) (j:=i) (by rw[h.len];exact s);exact(Ji (by rw[AM (by rw[h.len];exact s)];exact q)).symm
 refine⟨by rw[Ai,Ai,h.len];rfl,λi j n s A=>?_,λj n o A g=>?_⟩
 ·rcases EF s with⟨a,l⟩ | ⟨a,l⟩ <;> rcases EF A with⟨b,B⟩ | ⟨b,B⟩
  ·exact h.nd i j n a b
  ·have:=h.lt i n a;lia
  ·have:=h.lt j n b;lia
  ·lia
 ·rcases EF A with⟨a,l⟩ | ⟨a,l⟩
  ·rw[AM (by rw[<-h.len];exact l)]at g
   rw[AM (h.lt j n a),h.ob j n o a g];exact congrArg some (Q1 big (ok o (C6 g)))
  ·subst a l
   rw[h.len,Jr]at g;cases g;rw[Jr];exact congrArg (λz=>some (Ob.lst z)) (OT _ m).symm
theorem ke(h:G7 S sel C){x y:Nat}(e:gSl sel S.length x=gSl sel S.length y):x=y:=by
 by_cases a:x < sel.length <;> by_cases b:y < sel.length
 ·have q:=E7 (N:=S.length) a
  rw[e]at q;exact h.nd x y _ q (E7 b)
 ·have:=h.lt x _ (E7 (N:=S.length) a)
  rw[e,IE (Bd.mp b)]at this
  lia
 ·have:=h.lt y _ (E7 (N:=S.length) b)
  rw[<-e,IE (Bd.mp a)]at this
  lia
 ·rw[IE (Bd.mp a),IE (Bd.mp b)]at e
  lia
theorem VR(h:G7 S sel C){x:Nat}{o:Ob}(e:C'[x]?=some o):(Gy sel C' S)[gSl sel S.length x]?=some (Ek (gSl sel S.length) o):=by
 unfold Gy
 by_cases a:x < sel.length
 ·have q:=E7 (N:=S.length) a
  have l:=h.lt x _ q;rw[AM (by rw[DP];exact l)];exact OU _ sel C' S x h.nd l q e
 ·have a:=Bd.mp a
  rw[IE a,Aj (by rw[DP];exact DU _ _),DP,Ak,B4,show sel.length+(S.length+(x - sel.length) - S.length)=x by lia,e];rfl
theorem XH{n:Nat}(h:n < S.length)(g:∀j:Nat,sel[j]?≠some n):(Gy sel C' S)[n]?=S[n]?:=by
 unfold Gy;rw[AM (by rw[DP];exact h)];exact LG _ sel C' S g
theorem gz:S.length<=(Gy sel C' S).length:=by
 unfold Gy;rw[Ai,DP];exact DU _ _
theorem G7.back(h:G7 S sel C)(t:G7 C' wA T)(ok:∀o∈T,fJ T.length o=true):G7 (Gy sel C' S) (wA.map (gSl sel S.length)) T:=by
 have l:∀(j n:Nat),(wA.map (gSl sel S.length))[j]?=some n->∃x,wA[j]?=some x/\gSl sel S.length x=n:=λj n e=>by
  rw[Ak]at e
  cases q:wA[j]? with
  | none=>rw[q]at e;cases e
  | some x=>rw[q]at e;cases e;exact⟨x,rfl,rfl⟩
 refine⟨by rw[AT];exact t.len,λi j n g m=>?_,λj n o m s=>?_⟩
 ·obtain⟨x,a,b⟩:=l i n g
  obtain⟨y,c,d⟩:=l j n m;have:=ke h (b.trans d.symm);subst this;exact t.nd i j x a c
 ·obtain⟨x,a,rfl⟩:=l j n m
  rw[VR h (t.ob j x o a s),eV];refine congrArg some (Q1 (λi g=>?_) (ok o (C6 s)));rw[<-t.len]at g;refine(Ji ?_).symm;rw[Ak,E7 (N:=C'.length) g];rfl
theorem jN(s:∀(i j n:Nat),sel[i]?=some n->sel[j]?=some n->i=j)(g:sel.length=T.length)(ok:∀o∈T,fJ T.length o=true)(h:(sel.map λn=>S[n]?)=T.map λo=>some (Ek (λj=>sel.getD j 0) o)):G7 S sel T:=
 ⟨g,s,λj n o A m=>by
  have:=congrArg (λl=>l[j]?) h;rw[Ak,Ak,A,m]at this
  injection this with this
  refine(show S[n]?=some (Ek (λj=>sel.getD j 0) o)from this).trans ?_;refine congrArg some (Q1 (λi B=>?_) (ok o (C6 m)));rw[List.getD_eq_getElem?_getD,E7 (sel:=sel) (N:=S.length) (by rw[g];exact B)]
  rfl⟩
end
end L2
namespace M
open L2 L4
theorem Q2(g:Nat->Nat)(rs:List (Str×Str)):KD g (Dw rs)=Dw rs:=by
 unfold KD Dw;rw[Cq];rfl
theorem Zz(m:Nat)(g:List (Str×Str)):okK m (Dw g)=true:=by
 unfold okK Dw;rw[Ov,BU];intro x _;rfl
theorem YI(b:Bool)(g:List (Str×Str)):∀o∈stD b (Dw g),fJ (stD b (Dw g)).length o=true:=by
 refine BU.mp ?_;cases b
 ·show(true&&(true&&(okK _ (Dw g)&&true)))=true
  rw[Zz];rfl
 ·show(true&&(true&&(okK _ (Dw g)&&true)))=true
  rw[Zz];rfl
theorem IB(b:Bool)(l:List (Key×D)):(stD b l).length=stN b:=by cases b <;> rfl
theorem nI(b:Bool)(l g:List (Key×D))(j:Nat)(h:j≠2):(stD b l)[j]?=(stD b g)[j]?:=by
 match j,h with
 | 0,_=>cases b <;> rfl
 | 1,_=>cases b <;> rfl
 | 2,h=>exact zX rfl h
 | j+3,_=>cases b <;> rfl
theorem lZ(b:Bool)(l:List (Key×D)):(stD b l)[2]?=some (.dK l):=by cases b <;> rfl
theorem pY(b:Bool)(sel:List Nat)(g:List (Str×Str)):tR b sel (Dw g)=(stD b (Dw g)).map λo=>some (Ek (λj=>sel.getD j 0) o):=by
 have:Ek (λj=>sel.getD j 0) (.dK (Dw g))=.dK (Dw g):=congrArg Ob.dK (Q2 _ g);cases b
 ·show[_,_,some (Ob.dK (Dw g)),_]=[_,_,some (Ek (λj=>sel.getD j 0) (.dK (Dw g))),_]
  rw[this]
 ·show _ :: _ :: some (Ob.dK (Dw g)) :: _=_ :: _ :: some (Ek (λj=>sel.getD j 0) (.dK (Dw g))) :: _
  rw[this]
theorem jM(b:Bool)(x:Str):∀(i j n:Nat),(SX b x)[i]?=some n->(SX b x)[j]?=some n->i=j:=by
 have g:∀l:List Nat,l.Nodup->∀(i j n:Nat),l[i]?=some n->l[j]?=some n->i=j:=λl h i j n m o=>by
  obtain⟨a,b⟩:=AH.mp m;obtain⟨c,d⟩:=AH.mp o;exact(P4 h).mp (b.trans d.symm)
 refine g _ ?_;unfold SX;split
 ·decide
 ·split
  ·decide
  ·split <;> decide
theorem eS(b:Bool)(x:Str):(SX b x).length=stN (fO b x):=by
 unfold SX fO;cases b
 ·dsimp only
  split
  ·rename_i h;rw[wX h];rfl
  ·rename_i h
   rw[wY h];split
   ·rename_i h;rw[wX h];rfl
   ·rename_i h;rw[wY h];rfl
 ·rfl
theorem nM(b:Bool)(x:Str):(SX b x)[0]?=some 0:=by
 unfold SX;cases b
 ·dsimp only;split
  ·rfl
  ·split <;> rfl
 ·rfl
def Dk(S:Sto)(a N v m:Nat):Prop:=∃(b:Bool) (l:List (Str×Str)) (g:List Nat),(∀p∈l,p∈Fi)/\l.length<=m/\G7 S g (stD b (Dw l))/\g[0]?=some a/\∀j n:Nat,g[j]?=some n->N<=n/\n≠v
theorem jB:(Mf.all λp=>Fi.all λq=>!decide (p.1=q.1)||decide (p.2=q.2))=true:=by kernel_rfl
theorem YF:(Fi.all λp=>Gj p.1 " ")=true:=by kernel_rfl
theorem ax:∀p∈Fi,Gj p.1 " " = true:=BU.mp YF
theorem dr:∀p∈Fi,∀q∈Fi,p.1=q.1->p.2=q.2:=by
 have l:∀p∈Mf,∀q∈Fi,p.1=q.1->p.2=q.2:=λp g q o e=>by
  have:=BU.mp (BU.mp jB p g) q o;rw[wX e]at this;exact of_decide_eq_true this
 have m:∀p∈Fi,p∈Mf∨p.2 = "refused":=λp g=>by
  rcases Bg.mp g with h | h
  ·exact .inl h
  ·obtain⟨x,_,rfl⟩:=B3.mp h
   exact .inr rfl
 intro p g q o e
 rcases m p g with h | h
 ·exact l p h q o e
 ·rcases m q o with s | s
  ·exact(l q s p g e.symm).symm
  ·rw[h,s]
theorem kJ{k v:Str}:∀{l:List (Str×Str)} {p:Str×Str},p∈IV l k v->p∈l∨p=(k,v):=λ{l p} h=>by
 unfold IV at h;split at h
 ·obtain⟨x,g,e⟩:=B3.mp h
  split at e
  ·rename_i c;right;rw[<-e,<-c]
  ·left;rw[<-e];exact g
 ·rcases Bg.mp h with h | h
  ·exact .inl h
  ·exact .inr (A1.mp h)
theorem jY{k v:Str}(l:List (Str×Str)):(IV l k v).length<=l.length+1:=by
 unfold IV;split
 ·rw[AT];exact EJ _
 ·rw[Ai];exact AN _
section
variable{S:Sto}{sel:List Nat}{b:Bool}{rs:List (Str×Str)}{a:Nat}
theorem Nt(h:G7 S sel (stD b (Dw rs)))(g:sel[0]?=some a):S[a]?=some (.ins FZ [("web",.ref (gSl sel S.length 1)),("replies",.ref (gSl sel S.length 2)),("duels",.ref (gSl sel S.length 3))]):=by
 rw[h.ob 0 a (.ins FZ [("web",.ref 1),("replies",.ref 2),("duels",.ref 3)]) g (by cases b <;> rfl)];rfl
theorem len3(h:G7 S sel (stD b (Dw rs))){j:Nat}(g:j < 4):j < sel.length:=by
 rw[h.len,IB];cases b
 ·exact g
 ·exact PR g (by decide)
theorem Uk(h:G7 S sel (stD b (Dw rs))):S[gSl sel S.length 2]?=some (.dK (Dw rs)):=by
 rw[h.ob 2 _ _ (E7 (len3 h (by decide))) (lZ b _)];exact congrArg (λz=>some (Ob.dK z)) (Q2 _ rs)
theorem U9{n:Nat}(h:S[n]?=some (.dK (Dw rs)))(x:Str):XB (.ref n) (.str x) S=some ((Ev rs x).map D.str):=by
 unfold XB;dsimp only;rw[h];show some (Ev (Dw rs) (.inr x))=_;exact congrArg some (dh (kk:=(KP:Str->Key)) (λ_ _ e=>Vw e) D.str rs x)
theorem YQ{n:Nat}(h:S[n]?=some (.dK (Dw rs))):HN (.ref n) S=none:=by unfold HN;dsimp only;rw[h]
theorem kj{n:Nat}(h:S[n]?=some (.dK (Dw rs)))(g:rs.length < 1000000)(x y:Str):kn (.ref n) (.str x) (.str y) S=some (S.set n (.dK (Dw (IV rs x y)))):=by
 unfold kn;dsimp only;rw[h];show(if (Dw rs).length < sizeLine then some (S.set n (.dK (IV (Dw rs) (.inr x) (.str y))))else none)=_;rw[qX (by unfold Dw;rw[AT];exact PR g (by decide))];exact congrArg (λz=>some (S.set n (.dK z))) (eZ (kk:=(KP:Str->Key)) (λ_ _ e=>Vw e) D.str rs x y)
theorem ji(h:G7 S sel (stD b (Dw rs)))(m:sel[0]?=some a)(g:List Str):ez [.ref a,.ref S.length] (S++[.lst (g.map D.str)])=(sel++[S.length],stW b (Dw rs) (g.map D.str),[.ref 0,.ref (stN b)]):=by
 have up:∀{n:Nat} {o:Ob},S[n]?=some o->(S++[Ob.lst (g.map D.str)])[n]?=some o:=λ{n o} e=>by rw[AM (AH.mp e).1];exact e
 have A:=up (Uk h);have B:=up (Nt h m)
 have sl:sel=(CV sel.length).map (gSl sel S.length):=Eg λj=>by
  rw[Ak]
  by_cases c:j < sel.length
  ·rw[HJ c,E7 (N:=S.length) c];rfl
  ·rw[BZ (Bd.mp c),BZ (by rw[dN];exact Bd.mp c)];rfl
 have s:a=gSl sel S.length 0:=(Ji m).symm;unfold ez;dsimp only;rw[B,Jr];dsimp only;rw[A]
 cases b with
 | false=>
  have l:=up (h.ob 3 _ (.dT []) (E7 (N:=S.length) (len3 h (by decide))) rfl);rw[l];dsimp only[Ek,KD,Lm];rw[s]
  have:sel=[gSl sel S.length 0,gSl sel S.length 1,gSl sel S.length 2,gSl sel S.length 3]:=by
   conv=>lhs;rw[sl,h.len,IB]
   rfl
  conv=>rhs;rw[this]
  rfl
 | true=>
  have l:=up (h.ob 3 _ (.dT [([.inr "one",.inl 2],.tup [.ref 4,.ref 5])]) (E7 (N:=S.length) (len3 h (by decide))) rfl);have C:=up (h.ob 4 _ (.ins fv [("everything",.ref 6),("kind",.str "one"),("takes",.ref 7),("numbers",.ref 8),("having",.ref 9),("place_bits",.ref 10),("known",.ref 11)]) (E7 (N:=S.length) (by rw[h.len,IB];decide)) rfl);rw[l];dsimp only[Ek,KD,Lm,KF,FG];rw[C];dsimp only[Ek,KD,Lm,KF,FG];rw[s]
  have:sel=[gSl sel S.length 0,gSl sel S.length 1,gSl sel S.length 2,gSl sel S.length 3,gSl sel S.length 4,gSl sel S.length 5,gSl sel S.length 6,gSl sel S.length 7,gSl sel S.length 8,gSl sel S.length 9,gSl sel S.length 10,gSl sel S.length 11]:=by
   conv=>lhs;rw[sl,h.len,IB]
   rfl
  conv=>rhs;rw[this]
  rfl
end
section
variable{S:Sto}{sel:List Nat}{b:Bool}{rs:List (Str×Str)}{a N v m:Nat}{p:Str×Str}
theorem p8(R:∀q∈rs,q∈Fi)(h:G7 S sel (stD b (Dw rs)))(s:sel[0]?=some a)(B:∀j n:Nat,sel[j]?=some n->N<=n/\n≠v)(T:v < S.length)(I:N<=S.length)(J:p∈Fi) :
  ∃l L A,Dh W0 [.ref a,.ref S.length] (S++[.lst ((DF p.1 " ").map D.str)])=.ok (.str p.2) l/\G7 l A (stD L (Dw rs))/\A[0]?=some a/\(∀j n:Nat,A[j]?=some n->N<=n/\n≠v)/\S.length<=l.length/\∀n,n < S.length->(n < N∨n=v)->l[n]?=S[n]?:=by
 have C:=h.push (YI b rs) (DF p.1 " ");have e:=ev b (Dw rs) p J;unfold jR ZZ at e
 cases o:EA W0 [.ref 0,.ref (stN b)] (stW b (Dw rs) ((DF p.1 " ").map D.str))with
 | bad=>rw[o]at e;cases e
 | err c E=>rw[o]at e;cases e
 | ok d E=>
  rw[o]at e
  cases d with
  | str x=>
   unfold sO at e;dsimp only at e
   injection e with e
   obtain⟨O,G⟩:=Vy e;subst O;rw[pY]at G;have P:=jN (jM b p.1) (by rw[eS,IB]) (YI _ rs) G;refine⟨Gy (sel++[S.length]) E (S++[.lst ((DF p.1 " ").map D.str)]),_,_,?_,C.back P (YI _ rs),?_,?_,?_,?_⟩
   ·unfold Dh WE
    rw[ji h s];dsimp only;rw[qX,o]
    ·rfl
    ·refine⟨C,?_⟩
     show _=[D.ref (gSl _ _ 0),D.ref (gSl _ _ (stN b))]
     have Q:sel.length=stN b:=by rw[h.len,IB]
     rw[Ji (n:=a) (by rw[AM (len3 h (by decide))];exact s),Ji (n:=S.length) (by rw[<-Q];exact List.getElem?_concat_length)]
   ·rw[Ak,nM]
    exact congrArg some (Ji (by rw[AM (len3 h (by decide))];exact s))
   ·intro j n g
    rw[Ak]at g
    cases q:(SX b p.1)[j]? with
    | none=>rw[q]at g;cases g
    | some x=>
     rw[q]at g;cases g
     by_cases c:x < (sel++[S.length]).length
     ·rcases EF (E7 (N:=(S++[Ob.lst ((DF p.1 " ").map D.str)]).length) c)with⟨z,_⟩ | ⟨_,z⟩
      ·exact B x _ z
      ·rw[z];exact⟨I,by lia⟩
     ·rw[IE (Bd.mp c),Ai]
      exact⟨by lia,by simp;lia⟩
   ·refine Ap ?_ gz
    rw[Ai];exact DU _ _
   ·intro n H U
    rw[XH (by rw[Ai];exact Aa H (DU _ _)),AM H];intro j g
    rcases EF g with⟨z,_⟩ | ⟨_,z⟩
    ·have:=B j n z;lia
    ·lia
  | _=>cases e
theorem nN(h:G7 S sel (stD b (Dw rs)))(g:List (Str×Str)):G7 (S.set (gSl sel S.length 2) (.dK (Dw g))) sel (stD b (Dw g)):=by
 have s:=E7 (N:=S.length) (len3 h (show 2 < 4 by decide));refine⟨h.len.trans (by rw[IB,IB]),h.nd,λj n o l A=>?_⟩;rw[Do]
 by_cases c:j=2
 ·subst c
  rw[lZ]at A;cases A;rw[s]at l;cases l;rw[CS (h.lt 2 _ s)];exact congrArg (λz=>some (Ob.dK z)) (Q2 _ g).symm
 ·rw[BI (λe=>c (h.nd j 2 n l (by rw[s,e])))]
  exact h.ob j n o l (by rw[nI b _ (Dw g) j c];exact A)
theorem jU(h:Dk S a N v m)(hv:v < S.length)(hN:N<=S.length)(hm:m < 1000)(o:p∈Fi):∃s,F4 W0 [.ref a,.str p.1] S=.ok (.str p.2) s/\Dk s a N v (m+1)/\S.length<=s.length/\∀n,n < S.length->(n < N∨n=v)->s[n]?=S[n]?:=by
 obtain⟨b,rs,sel,A,U,B,L,X⟩:=h;have O:=Nt B L;have E:=Uk B
 have G:∀{S:Sto} {x y z:Nat},S[a]?=some (.ins FZ [("web",.ref x),("replies",.ref y),("duels",.ref z)])->CU W0.Desk "replies" (AF 0) [sR a,some (.str p.1)] S=.ok (.ref y) S:=λ{S x y z} e=>pR (C:=FZ) (FP rfl) e rfl
 have H:mB (m2 (inA true) (AF 1) (CU W0.Desk "replies" (AF 0))) [sR a,some (.str p.1)] S=.ok (!((Ev rs p.1).map D.str).isSome) S:=qE (L7 (FP rfl) (G O) (pe (YQ E) (U9 E p.1) true))
 cases g:Ev rs p.1 with
 | some x=>
  refine⟨S,?_,⟨b,rs,sel,A,PU U,B,L,X⟩,AN _,λ_ _ _=>rfl⟩
  have hx:x=p.2:=by
   have:(p.1,x)∈rs:=by
    unfold Ev at g;obtain⟨kv,I,P⟩:=Vl.mp g;have h3:=List.find?_some I;have Y:=List.mem_of_find?_eq_some I;rw[show kv=(p.1,x)from Prod.ext (of_decide_eq_true h3) P]at Y;exact Y
   exact dr _ (A _ this) p o rfl
  subst hx;rw[g]at H;refine L2.Uh ?_;show F7 W0 [sR a,some (.str p.1)] S=_;unfold F7;rw[JP (e1:=[sR a,some (.str p.1)]) (S1:=S) (by rw[W1 H];rfl)];exact Uj (L7 (G O) (FP rfl) (gs (YQ E) (by rw[U9 E,g];rfl)))
 | none=>
  rw[g]at H;obtain⟨S3,b3,Q,e1,J,R,Z,l3,k3⟩:=p8 A B L X hv hN o;have d0:=Nt J R;have d2:=Uk J
  have B':rs.length < 1000000:=by lia
  have g2:=E7 (N:=S3.length) (len3 J (show 2 < 4 by decide));have T:=nN J (IV rs p.1 p.2);have f0:=Nt T R;have f2:=Uk T;refine⟨S3.set (gSl Q S3.length 2) (.dK (Dw (IV rs p.1 p.2))),?_,⟨b3,IV rs p.1 p.2,Q,λq xG=>?_,?_,T,R,Z⟩,by rw[Do];exact l3,λn I P=>?_⟩
  ·refine L2.Uh ?_
   show F7 W0 [sR a,some (.str p.1)] S=_;unfold F7
   rw[JP (e1:=[sR a,some (.str p.1)]) (S1:=S3.set (gSl Q S3.length 2) (.dK (Dw (IV rs p.1 p.2)))) (by
    rw[W1 H]
    have vT:FH W0.Desk "reply_anew" 2 (Dh W0) (AF 0) (AL (Ew (AF 1) (mC (.str " "))) Ay) [sR a,some (.str p.1)] S=.ok (.str p.2) S3:=by
     unfold FH;rw[FP rfl];dsimp only[Res.bind];rw[O];dsimp only;rw[qX ⟨rfl,rfl⟩]
     have:AL (Ew (AF 1) (mC (.str " "))) Ay [sR a,some (.str p.1)] S=.ok [.ref S.length] (S++[.lst ((DF p.1 " ").map D.str)]):=by
      refine Jp (d:=.ref S.length) ?_ rfl;unfold Ew;rw[FP rfl];show(if Gj p.1 " " = true then _ else _)=_;rw[qX (ax p o)]
     rw[this];exact(qX rfl).trans e1
    show E4 _ _ _ _ _=_;unfold E4;rw[vT];dsimp only[Res.lift];rw[G d0];dsimp only;rw[FP rfl];dsimp only
    rw[kj d2 B'])]
   have l:=G f0;rw[Do]at l f2;exact Uj (L7 l (FP rfl) (gs (YQ f2) (by rw[U9 f2,dg,qX rfl];rfl)))
  ·rcases kJ xG with h | h
   ·exact A q h
   ·rw[h];exact o
  ·exact Ap (jY _) (iW U)
  ·rw[BI,k3 n I P]
   intro e;have:=Z 2 _ g2
   lia
end
def dZ:Str:="places 4\ntie 0 1\ntie 1 2\ntie 2 3"
def sM:Res D->Option (Nat×Nat×Option Ob)
 | .ok (.ref n) S=>some (n,S.length,S[n]?)
 | _=>none
theorem mX:sM (Of W0 [.str dZ] [])=some (23,36,some Z2):=by kernel_rfl
theorem kM:PM "\n" ["places 4", "tie 0 1", "tie 1 2", "tie 2 3"]=dZ:=by kernel_rfl
theorem fj:dP "\n" ["places 4", "tie 0 1", "tie 1 2", "tie 2 3"]=true:=by kernel_rfl
def hd5:List Str:=["places 4", "tie 0 1", "tie 1 2", "tie 2 3", ""]
theorem lD{S:Sto}{a v:Nat}{e:Lo}{o:List (Str×Str)}(J:∀p∈o,p∈Fi)(hn:o.length<=100)(G:S[v]?=some (.lst ((o.map (·.1)).map D.str)))(L:Dk S a 0 v 0)(N:e[3]?=some (some (.ref a))) :
  ∃S',HD (Kb (.ref v)) (tgN 0) Gx (FH W0.Desk "reply" 2 (F4 W0) (AF 4) (AL (AF 0) Ay)) (EQ (Kb (.ref v)) S) 0 (BF 1 none++e) S []=.ok ((o.map (·.2)).map D.str) S':=by
 obtain⟨r,S',O,e',P⟩:=ku (v:=Kb (.ref v)) (g:=tgN 0) (c:=Gx) (m:=FH W0.Desk "reply" 2 (F4 W0) (AF 4) (AL (AF 0) Ay)) (xs:=(o.map (·.1)).map D.str) (e:=BF 1 none++e) (S:=S)
  (λi C l s=>(∃x,C=x :: e)/\l[v]?=some (.lst ((o.map (·.1)).map D.str))/\v < l.length/\Dk l a 0 v i/\s=((o.take i).map (·.2)).map D.str)
  ⟨⟨none,rfl⟩,G,(AH.mp G).1,L,rfl⟩ (λi C l s h=>OH h.2.1)<|by
   rintro i d C l s A ⟨⟨x,Q⟩,R,E,H,I⟩
   subst Q;rw[Ak,Ak]at A
   cases B:o[i]? with
   | none=>rw[B]at A;cases A
   | some p=>
    rw[B]at A;cases A;have hi:=(AH.mp B).1;obtain⟨T,U,X,Y,Z⟩:=jU (p:=p) H E (Bk _) (by lia) (J p (C6 B));refine⟨?_,some (.str p.1) :: e,l,rfl,true,l,rfl,.inl ⟨rfl,.str p.2,T,?_,⟨_,rfl⟩,by rw[Z v E (.inr rfl)];exact R,Aa E Y,X,?_⟩⟩
    ·rw[I,AT,AT,D4]
     have:100 < sizeLine:=by decide
     lia
    ·obtain⟨b,rs,sel,_,_,hs,h0,_⟩:=H
     unfold FH;rw[FP (d:=.ref a) (show(some (D.str p.1) :: e)[4]?=_ from N)];dsimp only[Res.bind];rw[Nt hs h0];dsimp only;rw[qX ⟨rfl,rfl⟩,show AL (AF 0) Ay (some (D.str p.1) :: e) l=.ok [.str p.1] l from rfl];exact(qX rfl).trans U
    ·rw[I,Ot,B,DG,DG]
     rfl
 refine⟨S',?_⟩;rw[O,P.2.2.2.2,AT,AT,List.take_length]
def jn(c:Nat):List (List Nat)->List Nat
 | []=>[]
 | [x]=>x
 | x :: r=>x++c :: jn c r
theorem aV{c:Nat}:∀{x y a b:List Nat},c∉x->c∉y->x++c :: a=y++c :: b->x=y/\a=b
 | [],[],a,b,_,_,h=>⟨rfl,(Hw h).2⟩
 | [],y :: m,a,b,_,g,h=>zX (by rw[(Hw h).1];exact Am) g
 | x :: o,[],a,b,l,_,h=>zX (by rw[<-(Hw h).1];exact Am) l
 | x :: o,y :: m,a,b,l,g,h=>by
  obtain⟨s,A⟩:=Hw h;obtain⟨B,C⟩:=aV (λz=>l (Ab _ z)) (λz=>g (Ab _ z)) A;exact⟨by rw[s,B],C⟩
theorem fk{c:Nat}:∀{xs g:List (List Nat)},xs≠[]->g≠[]->(∀x∈xs,c∉x)->(∀y∈g,c∉y)->jn c xs=jn c g->xs=g
 | [],_,h,_,_,_,_=>zX rfl h
 | _,[],_,h,_,_,_=>zX rfl h
 | [x],[y],_,_,_,_,h=>by rw[show x=y from h]
 | [x],y :: A :: r,_,_,l,_,h=>by
  have h:x=y++c :: jn c (A :: r):=h;exact zX (by rw[h];simp) (l x Am)
 | x :: B :: r,[y],_,_,_,m,h=>by
  have h:x++c :: jn c (B :: r)=y:=h;exact zX (by rw[<-h];simp) (m y Am)
 | x :: B :: r,y :: A :: s,_,_,l,m,h=>by
  obtain⟨C,E⟩:=aV (l x Am) (m y Am) h;rw[C,fk (by simp) (by simp) (λz o=>l z (Ab _ o)) (λz o=>m z (Ab _ o)) E]
theorem Ni(c:Nat):∀g:List Str,(C1 ⟨#[c]⟩ g).cps.toList=jn c (g.map (·.cps.toList))
 | []=>rfl
 | [x]=>rfl
 | x :: y :: r=>by
  show((x++⟨#[c]⟩++C1 ⟨#[c]⟩ (y :: r)).cps).toList=_;rw[DZ,DZ,Al,Al,Ni c (y :: r)];show x.cps.toList++[c]++_=x.cps.toList++c :: _;simp
theorem YJ{c:Nat}{ps:List Str}(A:ps≠[])(h:∀p∈ps,c∉p.cps.toList):DF (C1 ⟨#[c]⟩ ps) ⟨#[c]⟩=ps:=by
 have o:=StrLaws.join_split (C1 ⟨#[c]⟩ ps) ⟨#[c]⟩;have s:=StrLaws.split_free (C1 ⟨#[c]⟩ ps) c;have g:=t6 (C1 ⟨#[c]⟩ ps) ⟨#[c]⟩;generalize DF (C1 ⟨#[c]⟩ ps) ⟨#[c]⟩=B at o s g
 have C:jn c (B.map (·.cps.toList))=jn c (ps.map (·.cps.toList)):=by rw[<-Ni,<-Ni,o]
 have E:=fk (by simp;intro e;rw[e]at g;simp at g) (by simpa using A) (λx l=>by
  obtain⟨q,m,rfl⟩:=B3.mp l
  exact s q m) (λx l=>by
  obtain⟨q,m,rfl⟩:=B3.mp l
  exact h q m) C
 have inj:∀{as bs:List Str},as.map (λx:Str=>x.cps.toList)=bs.map (λx:Str=>x.cps.toList)->as=bs:=λ{as}=>by
  induction as with
  | nil=>intro bs e;cases bs with
   | nil=>rfl
   | cons _ _=>cases e
  | cons a as G=>
   intro bs e
   cases bs with
   | nil=>cases e
   | cons b bs=>
    obtain⟨H,I⟩:=Hw e;rw[G I,Str.ext' (dW.mp H)]
 exact inj E
theorem O2{c:Nat}{ps:List Str}(g:ps≠[])(h:∀p∈ps,c∉p.cps.toList)(l:(C1 ⟨#[c]⟩ ps).length<=100000):IQ (C1 ⟨#[c]⟩ ps) ⟨#[c]⟩=some ps:=by
 have m:=t7 (C1 ⟨#[c]⟩ ps) ⟨#[c]⟩;have o:=StrLaws.occ_length_le (C1 ⟨#[c]⟩ ps) ⟨#[c]⟩ 0 (C1 ⟨#[c]⟩ ps).length ((C1 ⟨#[c]⟩ ps).length+1);unfold IQ Gj;rw[qX,YJ g h];rw[t9];simp only[Bv,GM,decide_eq_true_eq];exact⟨⟨⟨rfl,by omega⟩,by omega⟩,by omega⟩
theorem RL(g:Str)(k:Nat):∀l:List Str,(∀p∈l,p.length<=k)->(C1 g l).length<=l.length * (k+g.length)
 | [],_=>Bk _
 | [x],h=>by
  have:=h x Am;show x.length<=1 * _;omega
 | x :: y :: r,h=>by
  have o:=h x Am
  have s:=RL g k (y :: r) λp m=>h p (Ab _ m)
  show(x++g++C1 g (y :: r)).length<=_;rw[PN,PN,A0,uJ];omega
theorem joinOk_of{g:Str}{k:Nat}{l:List Str}(h:∀p∈l,p.length<=k)(A:l.length * (k+g.length)<=100000):Tk g l=some (C1 g l):=by
 have m:∀(l:List Str) (a:Nat),(∀p∈l,p.length<=k)->l.foldl (λa p=>a+p.length+g.length) a<=a+l.length * (k+g.length):=by
  intro l
  induction l with
  | nil=>intro a _;simp
  | cons x r o=>
   intro a h;have B:=h x Am
   have C:=o (a+x.length+g.length) λp s=>h p (Ab _ s)
   rw[List.foldl_cons,A0,uJ];omega
 unfold Tk;rw[qX,show PM g l=C1 g l from StrLaws.glued_eq_join g l];unfold dP Builtin.Str.tooLong;have:=m l 0 h;rw[List.foldl_toArray];simp only[GM,decide_eq_false_iff_not]
 have E:100000<=sizeLine:=by decide
 omega
theorem sY:("\n" : Str)=⟨#[10]⟩:=by decide +kernel
theorem kr{g:Type}(l:List g){k:Int}(m:0<=k):Iz l (some k) none=l.drop k.toNat:=by
 unfold Iz;rw[show(k:Int)=((k.toNat:Nat):Int) by omega,HT.Uf,HT.Q0,CZ]
 by_cases c:k.toNat<=l.length
 ·rw[SK c,CP (by simp)]
 ·rw[iX (by omega),Xi (AN _),Xi (by omega)]
  simp
def fI(r:Str):Bool:=decide (r.length<=60)&&!r.cps.toList.contains 10
theorem lg:(hd5.all fI&&Fi.all λp=>fI p.1)=true:=by kernel_rfl
theorem Q7{r:Str}(h:fI r=true):r.length<=60/\10∉r.cps.toList:=by
 obtain⟨l,g⟩:=Lq.mp h;refine⟨of_decide_eq_true l,λz=>?_⟩;rw[X3.mpr z]at g;cases g
abbrev O0(g:List Str):Str:=C1 ⟨#[10]⟩ (hd5++g)
section
variable{ps:List (Str×Str)}(ht:∀p∈ps,p∈Fi)(hn:ps.length<=100)
include ht in
theorem Ui:∀r∈hd5++ps.map (·.1),r.length<=60/\10∉r.cps.toList:=λr g=>by
 obtain⟨l,m⟩:=Lq.mp lg
 rcases Bg.mp g with h | h
 ·exact Q7 (BU.mp l r h)
 ·obtain⟨p,o,rfl⟩:=B3.mp h
  exact Q7 (BU.mp m p (ht p o))
include ht hn in
theorem Me:IQ (O0 (ps.map (·.1))) "\n" = some (hd5++ps.map (·.1)):=by
 rw[sY];refine O2 (by simp[hd5]) (λp g=>(Ui ht p g).2) (Ap (RL _ 60 _ λp g=>(Ui ht p g).1) ?_);rw[Ai,AT];show(5+ps.length) * (60+1)<=100000;omega
include ht hn in
theorem bH:Tk "\n" (hd5++ps.map (·.1))=some (O0 (ps.map (·.1))):=by
 rw[sY];refine joinOk_of (k:=60) (λp g=>(Ui ht p g).1) ?_;rw[Ai,AT];show(5+ps.length) * (60+1)<=100000;omega
theorem UV{g:Type}(S:List g)(x y:g)(T:List g):(S++x :: T).set S.length y=S++y :: T:=by
 rw[X0 _ _ (AN _),Xx];rfl
theorem ox(S:Sto)(w:Nat):Gw W0 [.ref S.length,.ref w] (S++[.ins FZ []])=.ok .non (S++[.ins FZ [("web",.ref w),("replies",.ref (S.length+1)),("duels",.ref (S.length+2))],.dK [],.dT []]):=by
 refine L2.nQ (e:=[sR S.length,sR w]) ?_;show LB W0 [sR S.length,sR w] _=_
 have g:∀(x:Ob) (T:Sto),(S++x :: T)[S.length]?=some x:=λx T=>by rw[Aj (AN _),Xx];rfl
 unfold LB;show Aq (Ft FZ "web" (AF 0) (AF 1)) (Aq (Ft FZ "replies" (AF 0) IW) (Ft FZ "duels" (AF 0) OY)) _ _=_;rw[JP (UU (C:=FZ) (v:=.ref w) (n:=S.length) (FP rfl) (FP rfl) (g _ []) (by decide)),UV]
 rw[JP (UU (C:=FZ) (v:=.ref (S.length+1)) (n:=S.length) (S1:=S++[.ins FZ [("web",.ref w)],.dK []]) (by
  unfold IW;rw[Ai,Bj]
  rfl) (FP rfl) (g _ _) (ZS rfl)),UV]
 rw[UU (C:=FZ) (v:=.ref (S.length+2)) (n:=S.length) (S1:=S++[.ins FZ [("web",.ref w),("replies",.ref (S.length+1))],.dK [],.dT []]) (by
  unfold OY;rw[Ai,Bj]
  rfl) (FP rfl) (g _ _) (ZS rfl),UV]
 rfl
theorem Zk(S:Sto):G7 S [] []:=⟨rfl,λ_ _ _ h=>by simp at h,λ_ _ _ h=>by simp at h⟩
theorem rE(S:Sto):∃C:Sto,C.length=36/\Iv W0 [.str dZ] S=.ok (.ref (S.length+23)) (Gy [] C S)/\(Gy [] C S)[S.length+23]?=some Z2:=by
 have e:=mX;unfold sM at e;split at e
 ·rename_i n C g
  injection e with e
  obtain⟨l,e⟩:=Vy e;obtain⟨m,o⟩:=Vy e;subst l;refine⟨C,m,?_,VR (Zk S) o⟩;unfold Iv WE Zw;dsimp only;rw[qX ⟨Zk S,rfl⟩,g];rfl
 ·cases e
include ht hn in
theorem ZE:∃(O:Sto) (n:Nat),K3 W0 [.str (O0 (ps.map (·.1)))] []=.ok (.ref n) O/\O[n]?=some (.lst ((ps.map (·.2)).map D.str)):=by
 have G:=Me ht hn;generalize O0 (ps.map (·.1))=t at G
 have H:Gj t "\n" = true/\DF t "\n" = hd5++ps.map (·.1):=by
  unfold IQ at G;split at G
  ·rename_i c;exact⟨c,CB G⟩
  ·cases G
 obtain⟨C,Y,P,Q⟩:=rE [.lst ((hd5++ps.map (·.1)).map D.str),.lst ((hd5.take 4).map D.str)];generalize I:Gy [] C [.lst ((hd5++ps.map (·.1)).map D.str),.lst ((hd5.take 4).map D.str)]=A at P Q
 have E:A.length=38:=by
  rw[<-I];unfold Gy;rw[Ai,DP,AT,FD,Y];rfl
 have Z:A[0]?=some (.lst ((hd5++ps.map (·.1)).map D.str)):=by
  rw[<-I,XH (Nat.succ_pos _) λj h=>by simp at h];rfl
 have hA:Bp 1 (Ew (AF 0) (mC (.str "\n"))) [some (.str t),none,none,none] []=oN [some (.str t),sR 0,none,none] [.lst ((hd5++ps.map (·.1)).map D.str)]:=OM (d:=.ref 0) (by
  unfold Ew;rw[FP rfl];show(if Gj t "\n" = true then _ else _)=_;rw[qX H.1,H.2]
  rfl)
 have hq:HN (.ref 0) [.lst ((hd5++ps.map (·.1)).map D.str)]=some ((hd5++ps.map (·.1)).map D.str):=Qs rfl
 have hC:Bp 2 (QC (AF 1) (mC (.str ""))) [some (.str t),sR 0,none,none] [.lst ((hd5++ps.map (·.1)).map D.str)]=oN [some (.str t),sR 0,sI 4,none] [.lst ((hd5++ps.map (·.1)).map D.str)]:=OM (d:=.int 4) (by
  unfold QC;rw[FP (d:=.ref 0) rfl]
  show(match Ke ((hd5++ps.map (·.1)).map D.str)with
   | some zs=>(match zs.findIdx? (·==("" : Str))with
    | some j=>Res.ok (D.int j) _
    | none=>.bad)
   | none=>.bad)=_
  rw[Qk];dsimp only
  have:(hd5++ps.map (·.1)).findIdx? (·==("" : Str))=some 4:=by
   rw[List.findIdx?_append,show hd5.findIdx? (·==("" : Str))=some 4 by kernel_rfl];rfl
  rw[this]
  rfl)
 have L:D8 (AF 1) Gs (FV (AF 2)) [some (.str t),sR 0,sI 4,none] [.lst ((hd5++ps.map (·.1)).map D.str)]=.ok (.ref 1) [.lst ((hd5++ps.map (·.1)).map D.str),.lst ((hd5.take 4).map D.str)]:=by
  show Res.ok (D.ref 1) [.lst ((hd5++ps.map (·.1)).map D.str),.lst (Iz ((hd5++ps.map (·.1)).map D.str) none (some ((4:Nat):Int)))]=_;rw[pj _ (by rw[AT,Ai];show 4<=5+_;omega)];rfl
 have g:AL (Jh (mC (.str "\n")) (D8 (AF 1) Gs (FV (AF 2)))) Ay [some (.str t),sR 0,sI 4,none] [.lst ((hd5++ps.map (·.1)).map D.str)]=.ok [.str dZ] [.lst ((hd5++ps.map (·.1)).map D.str),.lst ((hd5.take 4).map D.str)]:=by
  refine Jp (d:=.str dZ) ?_ rfl;unfold Jh;rw[show ∀e S,mC (.str "\n") e S=.ok (.str "\n") S from λ_ _=>rfl];dsimp only[Res.bind];rw[L];show(if dP "\n" ["places 4", "tie 0 1", "tie 1 2", "tie 2 3"]=true then Res.ok (D.str (PM "\n" ["places 4", "tie 0 1", "tie 1 2", "tie 2 3"])) _ else .bad)=_;rw[qX fj,kM]
 have R:Bp 3 (O6 W0.Desk 2 (Gw W0) (AL (BE 1 (Iv W0) (AL (Jh (mC (.str "\n")) (D8 (AF 1) Gs (FV (AF 2)))) Ay)) Ay)) [some (.str t),sR 0,sI 4,none] [.lst ((hd5++ps.map (·.1)).map D.str)] =
   oN [some (.str t),sR 0,sI 4,sR 38] (A++[.ins FZ [("web",.ref 25),("replies",.ref 39),("duels",.ref 40)],.dK [],.dT []]):=OM (d:=.ref 38) (by
  have i:=ox A 25;rw[E]at i;have m:=kK (C:=FZ) (n:=2) (f:=Gw W0) (S1:=A) (ds:=[.ref 25]) (Jp ((aS g rfl).trans P) (r:=Ay) rfl) rfl (by rw[E];exact i);rw[E]at m
  exact m)
 generalize B:A++[.ins FZ [("web",.ref 25),("replies",.ref 39),("duels",.ref 40)],.dK [],.dT []]=l at R
 have T:l.length=41:=by rw[<-B,Ai,E];rfl
 have lo:∀{n:Nat} {o:Ob},A[n]?=some o->l[n]?=some o:=λ{n o} e=>by rw[<-B,AM (AH.mp e).1];exact e
 have J:∀j:Nat,l[38+j]?=[Ob.ins FZ [("web",.ref 25),("replies",.ref 39),("duels",.ref 40)],.dK [],.dT []][j]?:=λj=>by
  rw[<-B,Aj (by rw[E];omega),E,show 38+j - 38=j by omega]
 have hE:D8 (AF 1) (FV (m2 Hz (AF 2) (mC (.int 1)))) Gs [some (.str t),sR 0,sI 4,sR 38] l=.ok (.ref 41) (l++[.lst ((ps.map (·.1)).map D.str)]):=by
  show okR (Qp (.ref 0) (some 5) none l)=_;unfold Qp;dsimp only;rw[show OZ (.ref 0) l=some ((hd5++ps.map (·.1)).map D.str) by unfold OZ;dsimp only;rw[lo Z]];dsimp only;rw[kr _ (by decide),T,DG];rfl
 have up:∀{n:Nat} {o:Ob},l[n]?=some o->(l++[Ob.lst ((ps.map (·.1)).map D.str)])[n]?=some o:=λ{n o} e=>by rw[AM (AH.mp e).1];exact e
 have U:(l++[Ob.lst ((ps.map (·.1)).map D.str)])[41]?=some (.lst ((ps.map (·.1)).map D.str)):=by rw[<-T];exact Jr _ _
 have dk:Dk (l++[.lst ((ps.map (·.1)).map D.str)]) 38 0 41 0:=by
  refine⟨false,[],[38,25,39,40],(λp hp=>nomatch hp),AN _,⟨rfl,λi j n J g=>?_,λj n o g s=>?_⟩,rfl,λj n g=>⟨Bk _,λe=>?_⟩⟩
  ·have N:([38,25,39,40]:List Nat).Nodup:=by decide
   obtain⟨a,b⟩:=AH.mp J;obtain⟨c,d⟩:=AH.mp g;exact(P4 N).mp (b.trans d.symm)
  ·match j,g,s with
   | 0,g,s=>cases g;cases s;exact up (J 0)
   | 1,g,s=>cases g;cases s;exact up (lo Q)
   | 2,g,s=>cases g;cases s;exact up (J 1)
   | 3,g,s=>cases g;cases s;exact up (J 2)
   | j+4,g,s=>cases g
  ·subst e
   have:(41:Nat)∈([38,25,39,40]:List Nat):=C6 g;exact zX this (by decide)
 obtain⟨X,q1⟩:=lD (e:=[some (.str t),sR 0,sI 4,sR 38]) ht hn U dk rfl;refine⟨X++[.lst ((ps.map (·.2)).map D.str)],X.length,L2.Uh ?_,Jr _ _⟩;show Mw W0 [some (.str t),none,none,none] []=_;unfold Mw
 rw[JP hA,JP (e1:=[some (.str t),sR 0,none,none]) (S1:=[.lst ((hd5++ps.map (·.1)).map D.str)]) (by
  rw[W1 (c:=false) (qE (L7 (x:=.str "") (y:=.ref 0) rfl (FP rfl) (by
   rw[oy aM true ("" : Str) hq,qX rfl,wX (Du _ (by simp[hd5]))]
   rfl)))]
  rfl),JP hC,JP R]
 refine Uj (fP ?_);rw[kt (W2 hE U)];exact q1
end
open Classical in
def Hc(t:Str):Option (List Str):=if h:∃g:List (Str×Str),(∀p∈g,p∈Fi)/\g.length<=100/\t=O0 (g.map (·.1))then some (h.choose.map (·.2))else none
theorem X7(t:Str):VF (Jl W0) [.v (D.str t)] (rN (oL D.str)) (Hc t):=λv g S m o=>by
 unfold Hc at g;split at g
 ·rename_i h
  obtain⟨s,A,B⟩:=h.choose_spec
  injection g with g
  obtain⟨C,n,E,l⟩:=ZE s A;rw[g]at l
  match m,o with
  | [d],⟨e,_⟩=>
   cases e;refine⟨.ref (gSl [] S.length n),Gy [] C S,?_,Keeps.app S _,gSl [] S.length n,rfl,DU _ _,?_⟩
   ·unfold Jl WE Zw
    dsimp only;rw[qX ⟨Zk S,rfl⟩,B,E];rfl
   ·rw[VR (Zk S) l]
    exact congrArg (λz=>some (Ob.lst z)) (OT _ v)
 ·cases g
theorem hX:∀{g l:List (Str×Str)},(∀p∈g,p∈Fi)->(∀p∈l,p∈Fi)->g.map (·.1)=l.map (·.1)->g.map (·.2)=l.map (·.2)
 | [],[],_,_,_=>rfl
 | [],_ :: _,_,_,h=>nomatch h
 | _ :: _,[],_,_,h=>nomatch h
 | p :: g,q :: l,o,s,h=>by
  rw[A2,A2]at h ⊢
  injection h with a b
  rw[dr p (o p Am) q (s q Am) a,hX (λx m=>o x (Ab _ m)) (λx m=>s x (Ab _ m)) b]
theorem XT{g:List (Str×Str)}(l:∀p∈g,p∈Fi)(o:g.length<=100):Hc (O0 (g.map (·.1)))=some (g.map (·.2)):=by
 have h:∃m:List (Str×Str),(∀p∈m,p∈Fi)/\m.length<=100/\O0 (g.map (·.1))=O0 (m.map (·.1)):=⟨g,l,o,rfl⟩
 unfold Hc;rw[dif_pos h];obtain⟨s,B,C⟩:=h.choose_spec;have A:=Me l o;rw[C,Me s B]at A;exact congrArg some (hX s l (List.append_cancel_left (CB A)))
def Fu(g:ZLi)(l:Int):Option (Fw Int Unit):=
 C0 (((some l).bind λm=>((some g).bind λo=>some (o.length:Int)).bind λs=>some (decide (m < s))).bind λA=>if A=true then((some g).bind λB=>(some l).bind λC=>atI B C).bind λE=>some (.rt E)else some (.nx ())) λ_=>(some (0:Int)).bind λG=>some (.rt G)
def Fv(g:ZLi)(l:Int):Option Int:=We (Fu g l)
theorem Qj(W:Wd)(g:ZLi)(l:Int):VF (Hk W) [.v (eF g),.v (D.int l)] (rV D.int) (Fv g l):=by
 refine Zb (n:=2) (b:=Ho W) (p:=Fu g l) (B:=λ_=>[]) ?_;show VS [.v (eF g),.v (D.int l)] _ _ _ _;unfold Ho Fu;exact(Dp (da (B:=(λ(_:Unit)=>[.v (eF g),.v (D.int l)])) (mw (rG (Dq rfl) (i5 (Dq rfl)))) (Qc (md (Dq rfl) (Dq rfl))) (lU (.refl _))) (λ_=>(Qc (Eh rfl))))
def Mg(m:Int):Option (Fw Str Unit):=
 C0 ((some ("|five 1|Five| five|five |fewest|fewest two|fewest one all|fewest  one" : Str)).bind λo=>some (.nx o)) λs=>C0 (((some s).bind λA=>(some ("|Fewest one|lasts|lasts one|lasts 1|lasts two 1|lasts one 4|lasts one 1 1" : Str)).bind λB=>Gz A B).bind λC=>some (.nx C)) λE=>C0 (((some E).bind λG=>(some ("|lasts one 2 1|lasts one -1|lasts one x|lasts one 01|lasts one 1 |lasts  one 1" : Str)).bind λH=>Gz G H).bind λI=>some (.nx I)) λJ=>C0 (((some J).bind λL=>(some ("|lasts one 1,2|lasts one 1 2 9|lasts all 100|lasts one +1|lasts one 1_0|call" : Str)).bind λN=>Gz L N).bind λO=>some (.nx O)) λg=>C0 (((some g).bind λP=>(some ("|call one|call one 1|call 1 2|call one 1 1|call one 4 1|call one 0 1 1" : Str)).bind λQ=>Gz P Q).bind λR=>some (.nx R)) λS=>C0 (((some S).bind λT=>(some ("|call one 0 2 1|call two 0 1|call one -1 1|call one x 1|call one 00 1" : Str)).bind λU=>Gz T U).bind λX=>some (.nx X)) λY=>C0 (((some Y).bind λZ=>(some ("|call one 0 4|call one 1 0 1|call all 2 0 2|calls one 0 1|places 4|tie 0 1" : Str)).bind λzI=>Gz Z zI).bind λyq=>some (.nx yq)) λL'=>C0 (((some L').bind λyr=>(some ("|last one 1|answer|five five|call one 0  1|call one 0 1 " : Str)).bind λxg=>Gz yr xg).bind λyt=>some (.nx yt)) λMy=>C0 (((some My).bind λϜ=>(some ("|" : Str)).bind λxh=>IQ Ϝ xh).bind λϝ=>some (.nx ϝ)) λl=>((some l).bind λϞ=>((some m).bind λyu=>((some l).bind λxi=>some (xi.length:Int)).bind λzJ=>Wq yu zJ).bind λϟ=>atI Ϟ ϟ).bind λϠ=>some (.rt Ϡ)
def Mh(g:Int):Option Str:=We (Mg g)
theorem X8(W:Wd)(g:Int):VF (Mt W) [.v (D.int g)] (rV D.str) (Mh g):=by
 refine Zb (n:=3) (b:=Mx W) (p:=Mg g) (B:=λ_=>[]) ?_;show VS [.v (D.int g),.u,.u] _ _ _ _;unfold Mx Mg;exact(Dp (IP (Eh rfl)) (λm=>(Dp (IP (JL (Dq rfl) (Eh rfl))) (λo=>(Dp (IP (JL (Dq rfl) (Eh rfl))) (λs=>(Dp (IP (JL (Dq rfl) (Eh rfl))) (λl=>(Dp (IP (JL (Dq rfl) (Eh rfl))) (λA=>(Dp (IP (JL (Dq rfl) (Eh rfl))) (λC=>(Dp (IP (JL (Dq rfl) (Eh rfl))) (λE=>(Dp (IP (JL (Dq rfl) (Eh rfl))) (λG=>(Dp (P9 (aq (Dq rfl) (Eh rfl))) (λH=>(Qc (df (JK rfl) (dc (Dq rfl) (Ze (JK rfl)))))))))))))))))))))))
def JY(B:Int):Option (Fw (Str×Str) Unit):=
 C0 (((((some ("fewest one" : Str)).bind λC=>(some ("2" : Str)).bind λE=>some (C,E)).bind λG=>(((some ("fewest all" : Str)).bind λH=>(some ("2" : Str)).bind λI=>some (H,I)).bind λJ=>(((some ("five" : Str)).bind λL=>(some ("2 2 2 2 2" : Str)).bind λN=>some (L,N)).bind λO=>(((some ("lasts one 0 2" : Str)).bind λP=>(some ("lasts" : Str)).bind λQ=>some (P,Q)).bind λR=>(some []).bind λS=>some (R :: S)).bind λg=>some (O :: g)).bind λl=>some (J :: l)).bind λm=>some (G :: m)).bind U6).bind λT=>some (.nx T)) λU=>C0 (((some U).bind λX=>((((some ("call one 3 0 2" : Str)).bind λY=>(some ("0 3" : Str)).bind λZ=>some (Y,Z)).bind λyq=>(((some ("lasts one 0 1" : Str)).bind λyo=>(some ("falls in round 1 at 3" : Str)).bind λϢ=>some (yo,Ϣ)).bind λyp=>(some []).bind λo=>some (yp :: o)).bind λs=>some (yq :: s)).bind U6).bind λxg=>gh X xg).bind λyt=>some (.nx yt)) λA=>((some A).bind λϣ=>((some B).bind λzK=>((some A).bind λzL=>some (zL.length:Int)).bind λxh=>Wq zK xh).bind λxi=>atI ϣ xi).bind λyu=>some (.rt yu)
def Ja(g:Int):Option (Str×Str):=We (JY g)
theorem UQ(W:Wd)(g:Int):VF (Jm W) [.v (D.int g)] (rV (eP D.str D.str)) (Ja g):=by
 refine Zb (n:=2) (b:=Jq W) (p:=JY g) (B:=λ_=>[]) ?_;show VS [.v (D.int g),.u] _ _ _ _;unfold Jq JY;exact(Dp (P9 (UO (NG (Fm (LF (Eh rfl) (Eh rfl)) (Fm (LF (Eh rfl) (Eh rfl)) (Fm (LF (Eh rfl) (Eh rfl)) (Fm (LF (Eh rfl) (Eh rfl)) UM))))))) (λl=>(Dp (P9 (i7 (JK rfl) (rF (UO (NG (Fm (LF (Eh rfl) (Eh rfl)) (Fm (LF (Eh rfl) (Eh rfl)) UM))))))) (λm=>(Qc (df (JK rfl) (dc (Dq rfl) (Ze (JK rfl)))))))))
def Zt(CH:ZLi):Option (Fw Bool Unit):=
 C0 ((((some ("places 4" : Str)).bind λxb=>((some ("tie 0 1" : Str)).bind λx8=>((some ("tie 1 2" : Str)).bind λx6=>((some ("tie 2 3" : Str)).bind λx4=>((some ("" : Str)).bind λx2=>(some []).bind λl3=>some (x2 :: l3)).bind λl5=>some (x4 :: l5)).bind λl7=>some (x6 :: l7)).bind λl9=>some (x8 :: l9)).bind λϡ=>some (xb :: ϡ)).bind U6).bind λyk=>some (.nx yk)) λv1=>C0 (((some []).bind U6).bind λym=>some (.nx ym)) λϤ=>C0 (((some CH).bind λl=>(some none).bind λzH=>((some (30:Int)).bind λm=>some (some m)).bind λxf=>some (Iz l zH xf)).bind λo=>Ms o (v1,Ϥ) λ(zM:(List Str)×(List Str)) s=>C0 ((((some s).bind λϢ=>some (Ϣ % 4)).bind λyn=>(some (1:Int)).bind λyo=>some (decide (yn=yo))).bind λA=>if A=true then bZ (λϥ=>(ϥ.1,ϥ.2)) (((((some s).bind λyp=>some (yp / 4)).bind λzI=>(some ()).bind λyq=>some (zI,yq)).bind λϦ=>Ja Ϧ.1).bind λxg=>some (.nx xg))else C0 (((((some s).bind λzL=>some (zL / 4)).bind λzK=>(some ()).bind λxh=>some (zK,xh)).bind λϧ=>Mh ϧ.1).bind λxi=>some (.nx xi)) λB=>bZ (λC=>(B,C)) ((some ("refused" : Str)).bind λzJ=>some (.nx zJ))) λϨ=>C0 ((some Ϩ.1).bind λE=>(Va zM.1 E).bind λϩ=>some (.nx ϩ)) λyj=>bZ (λM'=>(yj,M')) ((some Ϩ.2).bind λG=>(Va zM.2 G).bind λϪ=>some (.nx Ϫ))) λg=>C0 ((((((some CH).bind λH=>((some (0:Int)).bind λI=>(some ()).bind λJ=>some (I,J)).bind λL=>some (H,L)).bind λzO=>Fv zO.1 zO.2.1).bind λN=>some (N % 3)).bind λO=>(some (2:Int)).bind λP=>some (decide (O=P))).bind λQ=>if Q=true then C0 ((some ("" : Str)).bind λR=>(Va g.1 R).bind λS=>some (.nx S)) λT=>bZ (λU=>(T,U)) ((some ("refused" : Str)).bind λX=>(Va g.2 X).bind λY=>some (.nx Y))else some (.nx (g.1,g.2))) λϫ=>C0 (((((some ("\n" : Str)).bind λZ=>(some ϫ.1).bind λx69=>Tk Z x69).bind λx70=>(some ()).bind λx71=>some (x70,x71)).bind λϬ=>Hc Ϭ.1).bind λx73=>some (.nx x73)) λϭ=>(((some ϭ).bind λx74=>some true).bind λx77=>if x77=true then(some ϭ).bind λx75=>(some ϫ.2).bind λx76=>some (decide (x75=x76))else some false).bind λx78=>some (.rt x78)
def ll(g:ZLi):Option Bool:=We (Zt g)
theorem rJ(g:ZLi):VF (aI W0) [.v (eF g)] (rV D.bl) (ll g):=by
 refine Zb (n:=7) (b:=g9 W0) (p:=Zt g) (B:=λ_=>[]) ?_;show VS [.v (eF g),.u,.u,.u,.u,.u,.u] _ _ _ _;unfold g9 Zt;exact(Dp (Za (UO (NG (Fm (Eh rfl) (Fm (Eh rfl) (Fm (Eh rfl) (Fm (Eh rfl) (Fm (Eh rfl) UM)))))))) (λC=>(Dp (Za (UO (NG UM))) (λϤ=>(Dp (mY (s0:=(C,Ϥ)) (B:=(λ(l:(List Str)×(List Str))=>[.v (eF g),.w 1 ((oL D.str) l.1),.w 2 ((oL D.str) l.2),.u,.u,.u,.u])) (mZ (i6 (Dq rfl) i0 (iz (Eh rfl)))) iu (.refl _) (λs E=>(Dp (da (B:=(λ(m:Str×Str)=>[.v (eF g),.w 1 ((oL D.str) s.1),.w 2 ((oL D.str) s.2),.v (D.int E),.v (D.str m.1),.v (D.str m.2),.u])) (mw (lV aN fN (Zd rfl (Dq rfl)) (Eh rfl))) (UK (iy (QA (di (V6 rfl (Dq rfl)) UP) (λϦ=>UQ W0 Ϧ.1) (λ_=>rfl) eX)) (λϥ=>(.refl _))) (Dp (IP (QA (di (V6 rfl (Dq rfl)) UP) (λϧ=>X8 W0 ϧ.1) (λ_=>rfl) eX)) (λG=>(UK (IP (Eh rfl)) (λH=>(.refl _)))))) (λϨ=>(Dp (UL rfl (Dq rfl) rfl) (λL=>(UK (UL rfl (Dq rfl) rfl) (λN=>(.same (.same (.same (.drop (.drop (.drop (.same .nil))))))))))))))) (λO=>(Dp (da (B:=(λ(o:(List Str)×(List Str))=>[.v (eF g),.w 1 ((oL D.str) o.1),.w 2 ((oL D.str) o.2),.u,.u,.u,.u])) (mw (lV aN fN (Zd rfl (QA (di (Dq rfl) (di (Eh rfl) UP)) (λA=>Qj W0 A.1 A.2.1) (λ_=>rfl) eX)) (Eh rfl))) (Dp (UL rfl (Eh rfl) rfl) (λI=>(UK (UL rfl (Eh rfl) rfl) (λJ=>(.refl _))))) (lU (.refl _))) (λϫ=>(Dp (P9 (QA (di (de (Eh rfl) (Zc rfl)) UP) (λϬ=>X7 Ϭ.1) (λ_=>rfl) rk)) (λϭ=>(Qc (i8 (me (JK rfl) (by decide +kernel)) (mn aM (JK rfl) (Zc rfl))))))))))))))
theorem bsP{g l:Type}(x:g)(f:g->Option l):(some x).bind f=f x:=Eq.trans rfl (Eq.refl _)
theorem bnP{ρ g l:Type}(s:g)(q:g->Option (Fw ρ l)):C0 (some (.nx s)) q=q s:=Eq.trans rfl (Eq.refl _)
theorem M0{x y:Str}(h:x.length+y.length<=1000):Gz x y=some (x++y):=qX (Ap h (by decide))
theorem IR(x y:Str):(x++y).length=x.length+y.length:=PN x y
def sD(a b c d e f g h i:Str)(o:Int):Option (Fw Str Unit):=
 C0 ((some a).bind λs=>some (.nx s)) λA=>C0 (((some A).bind λB=>(some b).bind λC=>Gz B C).bind λE=>some (.nx E)) λG=>C0 (((some G).bind λH=>(some c).bind λI=>Gz H I).bind λJ=>some (.nx J)) λL=>C0 (((some L).bind λN=>(some d).bind λO=>Gz N O).bind λP=>some (.nx P)) λl=>C0 (((some l).bind λQ=>(some e).bind λR=>Gz Q R).bind λS=>some (.nx S)) λT=>C0 (((some T).bind λU=>(some f).bind λX=>Gz U X).bind λY=>some (.nx Y)) λZ=>C0 (((some Z).bind λyp=>(some g).bind λzI=>Gz yp zI).bind λyq=>some (.nx yq)) λL'=>C0 (((some L').bind λyr=>(some h).bind λxg=>Gz yr xg).bind λyt=>some (.nx yt)) λMy=>C0 (((some My).bind λϜ=>(some i).bind λxh=>IQ Ϝ xh).bind λϝ=>some (.nx ϝ)) λm=>((some m).bind λϞ=>((some o).bind λyu=>((some m).bind λxi=>some (xi.length:Int)).bind λzJ=>Wq yu zJ).bind λϟ=>atI Ϟ ϟ).bind λϠ=>some (.rt Ϡ)
theorem kE(a b c d e f g h i:Str)(m:Int){l:List Str}(o:(0:Int) < (l.length:Int))(C:a.length+b.length+c.length+d.length+e.length+f.length+g.length+h.length<=1000)(A:IQ (a++b++c++d++e++f++g++h) i=some l):Ok (We (sD a b c d e f g h i m)) (·∈l):=by
 unfold sD;simp only[bsP,bnP];rw[M0 (x:=a) (y:=b) (by omega)];simp only[bsP,bnP];rw[M0 (x:=a++b) (y:=c) (by rw[IR];omega)];simp only[bsP,bnP];rw[M0 (x:=a++b++c) (y:=d) (by rw[IR,IR];omega)];simp only[bsP,bnP];rw[M0 (x:=a++b++c++d) (y:=e) (by rw[IR,IR,IR];omega)];simp only[bsP,bnP];rw[M0 (x:=a++b++c++d++e) (y:=f) (by rw[IR,IR,IR,IR];omega)];simp only[bsP,bnP];rw[M0 (x:=a++b++c++d++e++f) (y:=g) (by rw[IR,IR,IR,IR,IR];omega)];simp only[bsP,bnP];rw[M0 (x:=a++b++c++d++e++f++g) (y:=h) (by rw[IR,IR,IR,IR,IR,IR];omega)];simp only[bsP,bnP];rw[A];simp only[bsP,bnP];rw[show Wq m (l.length:Int)=some (m % (l.length:Int))from qX o];simp only[bsP];have B:=lR m (qv o);have E:=dR m o
 have s:(m % (l.length:Int)).toNat < l.length:=by omega
 rw[ZC (x:=l[(m % (l.length:Int)).toNat]) B (An s)];exact⟨_,rfl,Jw s⟩
theorem app8(a b c d e f g h:Str):(a++b++c++d++e++f++g++h).cps.toList=a.cps.toList++b.cps.toList++c.cps.toList++d.cps.toList++e.cps.toList++f.cps.toList++g.cps.toList++h.cps.toList:=by
 rw[DZ,DZ,DZ,DZ,DZ,DZ,DZ,Al,Al,Al,Al,Al,Al,Al]
theorem sU:("|five 1|Five| five|five |fewest|fewest two|fewest one all|fewest  one" : Str)++("|Fewest one|lasts|lasts one|lasts 1|lasts two 1|lasts one 4|lasts one 1 1" : Str)++("|lasts one 2 1|lasts one -1|lasts one x|lasts one 01|lasts one 1 |lasts  one 1" : Str)++("|lasts one 1,2|lasts one 1 2 9|lasts all 100|lasts one +1|lasts one 1_0|call" : Str)++("|call one|call one 1|call 1 2|call one 1 1|call one 4 1|call one 0 1 1" : Str)++("|call one 0 2 1|call two 0 1|call one -1 1|call one x 1|call one 00 1" : Str)++("|call one 0 4|call one 1 0 1|call all 2 0 2|calls one 0 1|places 4|tie 0 1" : Str)++("|last one 1|answer|five five|call one 0  1|call one 0 1 " : Str)=C1 ⟨#[124]⟩ Q9:=Str.ext' (dW.mp ((app8 _ _ _ _ _ _ _ _).trans ((show _=jn 124 (Q9.map (·.cps.toList)) by decide +kernel).trans (Ni 124 Q9).symm)))
theorem sW:(Q9.all λr=>!r.cps.toList.contains 124)=true:=by decide +kernel
theorem tV:("|" : Str)=⟨#[124]⟩:=by decide +kernel
theorem Yj{x:Str}(h:x∈Q9):(x,("refused" : Str))∈Fi:=BG _ (B3.mpr ⟨x,h,rfl⟩)
theorem bX:IQ (C1 ⟨#[124]⟩ Q9) ("|" : Str)=some Q9:=by
 rw[tV];refine O2 (by decide +kernel) (λp g z=>?_) (Ap (RL ⟨#[124]⟩ 60 Q9 λp g=>(Q7 (BU.mp (Lq.mp lg).2 _ (Yj g))).1) (by decide +kernel));have:=BU.mp sW p g;rw[X3.mpr z]at this;cases this
theorem sV(c:Int):Ok (Mh c) (·∈Q9):=kE _ _ _ _ _ _ _ _ _ c (by decide +kernel) (by decide +kernel) (by rw[sU];exact bX)
def sC(z:List (Str×Str))(y:List (Str×Str))(l:Int):Option (Fw (Str×Str) Unit):=
 C0 (((some z).bind U6).bind λm=>some (.nx m)) λo=>C0 (((some o).bind λs=>((some y).bind U6).bind λA=>gh s A).bind λB=>some (.nx B)) λg=>((some g).bind λϣ=>((some l).bind λC=>((some g).bind λE=>some (E.length:Int)).bind λG=>Wq C G).bind λH=>atI ϣ H).bind λI=>some (.rt I)
theorem bJ(z y:List (Str×Str))(g:Int)(m:(0:Int) < ((z++y).length:Int))(A:z.length+y.length<=1000):Ok (We (sC z y g)) (·∈z++y):=by
 unfold sC;simp only[bsP,bnP];rw[QJ (by omega),QJ (by omega)];simp only[bsP,bnP];rw[kf (by omega)];simp only[bsP,bnP];generalize z++y=l at m;rw[show Wq g (l.length:Int)=some (g % (l.length:Int))from qX m];simp only[bsP];have s:=lR g (qv m);have B:=dR g m
 have o:(g % (l.length:Int)).toNat < l.length:=by omega
 rw[ZC (x:=l[(g % (l.length:Int)).toNat]) s (An o)];exact⟨_,rfl,Jw o⟩
theorem jT(c:Int):Ok (Ja c) (·∈Mf):=bJ (Mf.take 4) (Mf.drop 4) c (by decide +kernel) (by decide +kernel)
theorem pX:(("" : Str),("refused" : Str))∈Fi:=Yj (show("" : Str)∈Q9 by decide +kernel)
theorem pp(g:ZLi):∃z,Fv g 0=some z:=by
 unfold Fv Fu
 cases g with
 | nil=>exact⟨_,rfl⟩
 | cons n r=>exact⟨n,by
   simp only[bsP,bnP];rw[qX (wX (show(0:Int) < ((n :: r).length:Int) by rw[A0];omega)),ZC (x:=n) (by decide) rfl]
   rfl⟩
def N3(k:Nat)(s:List Str×List Str):Prop:=∃g:List (Str×Str),(∀p∈g,p∈Fi)/\g.length<=k/\s.1=hd5++g.map (·.1)/\s.2=g.map (·.2)
theorem N3.more{k:Nat}{s:List Str×List Str}(h:N3 k s){p:Str×Str}(g:p∈Fi):N3 (k+1) (s.1++[p.1],s.2++[p.2]):=by
 obtain⟨l,m,o,A,B⟩:=h;refine⟨l++[p],λq C=>?_,by rw[Ai];exact iW o,?_,?_⟩
 ·rcases Bg.mp C with h | h
  ·exact m q h
  ·rw[A1.mp h];exact g
 ·rw[A,DG,Bj];rfl
 ·rw[B,DG];rfl
theorem N3.few{k:Nat}{s:List Str×List Str}(h:N3 k s)(m:k<=100):s.1.length < 1000000/\s.2.length < 1000000:=by
 obtain⟨o,A,B,g,l⟩:=h;rw[g,l,Ai,AT,AT];show 5+_ < _/\_;omega
theorem ko{g:Type}(l:List g){k:Int}(m:0<=k):Iz l none (some k)=l.take k.toNat:=by
 unfold Iz;rw[show(k:Int)=((k.toNat:Nat):Int) by omega,HT.Uf,HT.Q0,CZ,TD,Nat.sub_zero]
 by_cases c:k.toNat<=l.length
 ·rw[SK c]
 ·rw[iX (by omega),CP (AN _),CP (by omega)]
theorem sw(G:ZLi):ll G=some true:=by
 refine Ok.is (OkF.out ?_);unfold Zt;simp only[bsP,bnP];rw[QJ (l:=[("places 4" : Str), "tie 0 1", "tie 1 2", "tie 2 3", ""]) (by show 5<=1000000;omega),QJ (l:=([]:List Str)) (Bk _)];simp only[bsP,bnP];rw[ko G (by decide)]
 refine OkF.seq (N:=λs=>N3 31 s) (OkF.imp (OkF.for (λg s=>N3 g.length s) ⟨[],λp o=>(nomatch o),AN _,rfl,rfl⟩ λg x s S I m=>?_) (λs h=>?_) λr h=>h) λs m=>?_
 ·have J:g.length<=100:=by
   have:=I.length_le;rw[Ai,D4]at this;have:(30:Int).toNat=30:=rfl;omega
  obtain⟨H,f2⟩:=m.few J
  have st:∀p:Str×Str,p∈Fi->OkF (ρ:=Bool) (C0 ((Va s.1 p.1).bind λϩ=>some (.nx ϩ)) λL=>bZ (λO=>(L,O)) ((Va s.2 p.2).bind λϪ=>some (.nx Ϫ))) (λs=>N3 (g++[x]).length s) (· = true):=λp o=>by
   rw[QM H,QM f2];rw[Ai];exact OkF.nx (m.more o)
  refine OkF.seq (N:=λp=>p∈Fi) ?_ λp o=>st p o
  rcases Vq (decide (x % 4=1))with c | c
  ·rw[c,qX rfl]
   obtain⟨p,e,o⟩:=jT (x / 4);rw[e];exact OkF.nx (Du _ o)
  ·rw[c,qY Af]
   obtain⟨y,e,P⟩:=sV (x / 4);rw[e];exact OkF.nx (Yj P)
 ·obtain⟨E,A,B,C⟩:=h
  refine⟨E,A,?_,C⟩;rw[D4]at B;have:(30:Int).toNat=30:=rfl;omega
 ·obtain⟨z,Q⟩:=pp G
  rw[Q];simp only[bsP]
  refine OkF.seq (N:=λs=>N3 32 s) ?_ λs m=>?_
  ·obtain⟨H,f2⟩:=m.few (by decide)
   rcases Vq (decide (z % 3=2))with c | c
   ·rw[c,qX rfl,QM H,QM f2]
    exact OkF.nx (m.more pX)
   ·rw[c,qY Af]
    obtain⟨E,A,B,C⟩:=m;exact OkF.nx ⟨E,A,PU B,C⟩
  ·obtain⟨E,A,B,C,R⟩:=m
   rw[C,R,bH A (Ap B (by decide))];simp only[bsP];rw[XT A (Ap B (by decide))];simp only[bsP,bnP];rw[qX trivial];exact OkF.rt (wX trivial)
theorem tL:∀g:ZLi,g.length<=63->∃S',aI W0 [.fro (g.map D.int)] []=.ok (.bl true) S':=λg _=>by
 obtain⟨d,S',l,_,m⟩:=rJ g true (sw g) [] [.fro (g.map D.int)] ⟨rfl,trivial⟩;cases m;exact⟨S',l⟩
end M
structure PySem.W.Fast:Prop where(tw7298689123892034184 tw16564182331288509116 tw15676199712464919925 tw11538609954714508128 tw7052674677591838130 tw14392669899244319701 tw1982862933210678081 tw17904504069367557840 tw4206392727524004848 tw11622139026664934982 tw17096602093801919892 tw17215277852734202757 tw14088813679925768034 tw16619287822218507467 tw9036831576889042790 tw7929477860133716702 tw12256382408740443082 tw4133351931139371217 tw11714108676041942459 tw7582661443880047159 tw3188389836367678194 tw17027327169958270330 tw3667936306163158877 tw13417917558871621954 tw17202963350098900962 tw8422335898998870423 tw11421617485703724349 tw15738711116638916656 tw14125446166711843409 tw14497390256286004964 tw14574818994034787372 tw334517997752858709 tw10774765239490392862 tw4166490498572393375 tw4098505591403335864 tw10835749627246904885 tw5429473619286667889 tw5643451624426775381 tw16109270101079743086 tw16555757258218168954 tw18223670943162132048 tw1149159856119235234 tw13105810178391785111 tw6456593739599894397 tw18320504133985689134 tw8025075014540994565 tw9558159975649309689 tw12702113196495358221 tw3531796288069316254 tw11920473759181215195 tw16647921297227692018 tw12182798507317001370 tw2938486815974166555 tw11338325090097339474 tw9905533404996234892 tw6196348140080723088 tw17043545864493732826 tw13265197114795967686 tw4822423973928915209 tw8726745191266124803 tw10999429628915117727 tw17676745540187149649 tw1665625958602450527 tw17798661849626639917 tw2231612951235400067 tw14627751785599596648 tw1731166078905587424 tw17426898019122247740 tw4664601136382320382 tw15852934621748608445 tw6069927801856589501 tw9846103152789815860 tw5019436478936190329 tw7045123644849724124 tw13385340945099406524 tw15243880424902693923 tw9733211388057978771 tw6871581517629086675 tw3337914146719232286 tw3212596659866164743 tw1313856518954525095 tw6326919523391414614 tw7374801146398810440 tw3692469885593017934 tw17576656242319784337 tw3757620415771603794 tw2467420065233496675 tw3920372772217443330 tw5292233346115268804 tw15065008122593814690 tw11574693521449008134 tw1358843805103330631 tw7181974077766494746 tw9464719540918025434 tw14345291779256497515 tw17234404068281733100 tw2929261982135375688 tw17722554724605642474 tw17405758774087437384 tw2314887594174591766 tw3585727715351300547 tw10567356813966840342 tw16764436040275700452 tw16648127585993698297 tw14894456967997584121 tw7291963156624167393 tw17495012245366752460 tw4859500817209920737 tw9549739297379404283 tw3918630334197757048 tw15803852795152984437 tw13939222340940584739 tw6658951474365482032 tw10876959460719844800 tw2949640012551999356 tw208597220917356555 tw4905214588188024733 tw1015595918487107447 tw13630289754012668830 tw11077731824988712489 tw6982734863448719601 tw3625522010064648687 tw1756730617216769420 tw2063527644057016067 tw16196272690974484279 tw6252752559652389591 tw5334241742780639160 tw6712822113577444412 tw4558488203077199663 tw4139475525755099259 tw14089299237017401271 tw7175231937867071795 tw6871758147119020184 tw4980859444440869636 tw6743444130077355875 tw5767518214192356408 tw10428217508198164411 tw15804337755234271479 tw1327891493003442359 tw6125408936664512506 tw10833824484734551537 tw10206391768988656430 tw10116001451251693523 tw1620886009770055763 tw16473274402635310657 tw10202078128602969943 tw11749423391794168401 tw10691049065184373605 tw9652811282191049285 tw13716536393507985580 tw15718771332429641343 tw11409659033833611984 tw2681676413166980513 tw870659875122488997 tw7421491787887199742 tw17766532367878079771 tw2992407628405251204 tw447721633347044300 tw14533962057515119955 tw10547330567802161819 tw5417747769351183546 tw2305094681324455694 tw10858571852701058520 tw2940538323511519290 tw5493809417873271112 tw3112525301751054540 tw11454777699731305937 tw3807374042865256754 tw6954789484259750327 tw8870249747667315328 tw10459153723755313545 tw14924392439189346129 tw15255145864470846783 tw7942518530266634616 tw10014005198000856071 tw7537212856395260369 tw9698799819531174766 tw17433017646538974806 tw7108329411204278735 tw5702156453153956081 tw9402868072190137055 tw16495073353571854738 tw17076246433682274816 tw7774485357969022785 tw4284978464079269302 tw1254459574532760793 tw11859839932317992116 tw12642589319918929604 tw13635545899395886758 tw16431149789474640536 tw5535686748042133171 tw15484146578085913398 tw16349169262604321910 tw3526494765061315297:True)
namespace M
open L2 PySem.W
theorem TR{K:Frag}{a:AR}{cs:List Str}{o:Obj}(h:K.lookup a=some o)(l:(match o.data with
  | .seq g _=>if o.cls==.type "tuple"&&decide (g.size<=100)then OJ g.toList else none
  | _=>none)=some cs):MU K a=some cs:=by
 unfold MU;rw[h];exact l
theorem p9{l:OpenLaw}{w:Bs}{K:Frag}{h:Bu}{C:Str->Option AG}{fa:AR}(X:K.In h)(G:h.Ns Av C)(E:C "law" = some (.ref fa))
  {f1 f2 f3 f4 f5 f6 f7 f8 f9 Η H I J L N O P Q R S U Y Z f24 f25 f26 f27 f28 f29 f30 f31 f32 f33 f34 f35 f36 f37 f38 f39 f40 f41 f42 f43 f44 f45 f46 f47 f48 f49 f50 f51 f52 f53 f54 f55 f56 f57 f58 f59 B o u5 u9 A g m vA:AR} {uN uq ui ue vc uz vd:Tok}
  (o_Web:ClsAt K "Web" A)
  (o_Field:ClsAt K "Field" g)
  (o_Desk:ClsAt K "Desk" m)
  (a_GuardError:nsIn K Av "GuardError" = some (some (.ref o)))
  (a_NoPlace:nsIn K Av "NoPlace" = some (some (.ref u5)))
  (a_NoCall:nsIn K Av "NoCall" = some (some (.ref u9)))
  (d1:CJ K "checked_ties" HY f1)
  (d2:CJ K "near_sets_of" HR f2)
  (d4:CJ K "sets_of" OO f4)
  (d5:CJ K "ways_to_choose" GX f5)
  (d6:CJ K "how_many" MZ f6)
  (d7:CJ K "standings" Kg f7)
  (d8:CJ K "refuse_no_place" Fo f8)
  (d9:CJ K "near" YX f9)
  (d10:CJ K "takes_of" MY Η)
  (d11:CJ K "bits_of" OS H)
  (d14:CJ K "members" OP L)
  (d15:CJ K "settle" Qx N)
  (d16:CJ K "fits" YZ O)
  (d17:CJ K "refuse_no_call" GY P)
  (d18:CJ K "with_step" Kf Q)
  (d19:CJ K "first_unwatched" Fp R)
  (d20:CJ K "first_pair" JT S)
  (d21:CJ K "first_near" JU U)
  (d22:CJ K "first_far" Ki Y)
  (d23:CJ K "is_club" OR Z)
  (d30:CJ K "falling_now" IT f30)
  (d31:CJ K "fallen" Qz f31)
  (d32:CJ K "lasting_bits" HU f32)
  (d33:CJ K "lasting" OQ f33)
  (d34:CJ K "refuse_large" HP f34)
  (d35:CJ K "fewest_watch" HW f35)
  (d36:CJ K "most_apart" JS f36)
  (d37:CJ K "clubs_with" JV f37)
  (d38:CJ K "parting_from" HQ f38)
  (d39:CJ K "fewest_clubs" HX f39)
  (d40:CJ K "guide_answer" HV f40)
  (d41:CJ K "refuse_many_places" Ei f41)
  (d42:CJ K "least_guards" HS f42)
  (d43:CJ K "fewest" Qy f43)
  (d44:CJ K "five" YY f44)
  (d45:CJ K "number_in" Kh f45)
  (d46:CJ K "numbers_behind" GZ f46)
  (d47:CJ K "web_of" Qw f47)
  (d48:CJ K "written" ON f48)
  (d52:CJ K "standing_in" IS f52)
  (d56:CJ K "answered" Ma f56)
  (d57:CJ K "_law_cell_at" HZ f57)
  (d58:CJ K "_law_odd" Mb f58)
  (d59:CJ K "_law_right" Fq f59)
  (d60:CJ K "law" Zl B)
  (d3:GU K A "__init__" "Web.__init__" Mc f3)
  (d12:GU K g "__init__" "Field.__init__" JW I)
  (d13:GU K m "__init__" "Desk.__init__" Kj J)
  (d24:GU K g "calls" "Field.calls" IU f24)
  (d25:GU K g "linked_by_one" "Field.linked_by_one" EM f25)
  (d26:GU K g "linked_by_all" "Field.linked_by_all" EN f26)
  (d27:GU K g "linked" "Field.linked" Ha f27)
  (d28:GU K g "behind" "Field.behind" Hb f28)
  (d29:GU K g "first_answer" "Field.first_answer" Ej f29)
  (d49:GU K m "duel" "Desk.duel" Kl f49)
  (d50:GU K m "fate" "Desk.fate" Kk f50)
  (d51:GU K m "answer_to" "Desk.answer_to" Ga f51)
  (d53:GU K m "right_reply" "Desk.right_reply" FQ f53)
  (d54:GU K m "reply_anew" "Desk.reply_anew" Fs f54)
  (d55:GU K m "reply" "Desk.reply" JX f55)
  (on:findIn K (.ref A) "places" = some none)
  (aaD:findIn K (.ref A) "ties" = some none)
  (aaE:findIn K (.ref A) "near_sets" = some none)
  (ut:findIn K (.ref g) "everything" = some none)
  (XL:findIn K (.ref g) "kind" = some none)
  (LE:findIn K (.ref g) "takes" = some none)
  (Id:findIn K (.ref g) "numbers" = some none)
  (aaa:findIn K (.ref g) "having" = some none)
  (aaF:findIn K (.ref g) "place_bits" = some none)
  (LT:findIn K (.ref g) "known" = some none)
  (wn:findIn K (.ref m) "web" = some none)
  (ST:findIn K (.ref m) "replies" = some none)
  (Tm:findIn K (.ref m) "duels" = some none)
  (sp:specialIn K (.builtin "object.__class__") "__get__" = some (some (.builtin "getset_descriptor.__get__")))
  (tk:takesIn K (.builtin "object.__class__")=some true)
  (xnd:([u5,u9]:List AR).Nodup)
  (xo_GuardError:mroIn K o (.type "object")=some true)
  (xb_GuardError:mroIn K o (.type "BaseException")=some true)
  (xt_GuardError:typeIn K (.ref o)=some (.type "type"))
  (xo_NoPlace:mroIn K u5 (.type "object")=some true)
  (xb_NoPlace:mroIn K u5 (.type "BaseException")=some true)
  (xo_NoCall:mroIn K u9 (.type "object")=some true)
  (xb_NoCall:mroIn K u9 (.type "BaseException")=some true)
  (xe_NoPlace:excIn K u5 aT "ValueError.__new__" = true)
  (xg_NoPlace:findIn K (.ref u5) "__getattribute__" = some (some (.builtin "BaseException.__getattribute__")))
  (xn_NoPlace:findIn K (.ref u5) "__getattr__" = some none)
  (xa_NoPlace:findIn K (.ref u5) "__class__" = some (some (.builtin "object.__class__")))
  (xs_NoPlace_GuardError:subIn K (.ref u5) (.ref o)=some true)
  (xe_NoCall:excIn K u9 aT "ValueError.__new__" = true)
  (xg_NoCall:findIn K (.ref u9) "__getattribute__" = some (some (.builtin "BaseException.__getattribute__")))
  (xn_NoCall:findIn K (.ref u9) "__getattr__" = some none)
  (xa_NoCall:findIn K (.ref u9) "__class__" = some (some (.builtin "object.__class__")))
  (xs_NoCall_GuardError:subIn K (.ref u9) (.ref o)=some true)
  (z_all:nsIn K Av "all" = some none)
  (z_enumerate:nsIn K Av "enumerate" = some none)
  (z_int:nsIn K Av "int" = some none)
  (z_isinstance:nsIn K Av "isinstance" = some none)
  (z_len:nsIn K Av "len" = some none)
  (z_list:nsIn K Av "list" = some none)
  (z_max:nsIn K Av "max" = some none)
  (z_min:nsIn K Av "min" = some none)
  (z_range:nsIn K Av "range" = some none)
  (z_set:nsIn K Av "set" = some none)
  (z_sorted:nsIn K Av "sorted" = some none)
  (z_str:nsIn K Av "str" = some none)
  (z_sum:nsIn K Av "sum" = some none)
  (z_tuple:nsIn K Av "tuple" = some none)
  (aaG:nsIn K Av "MOST_PLACES" = some (some (.int 60 uN)))
  (aaV:nsIn K Av "MOST_STANDINGS" = some (some (.int 400 uq)))
  (aaW:nsIn K Av "MOST_PLACES_TRIED" = some (some (.int 12 ui)))
  (aaX:nsIn K Av "MOST_PLACES_GUARDED" = some (some (.int 8 ue)))
  (aaY:nsIn K Av "FIGURES" = some (some (.str "0123456789" vc)))
  (aaZ:nsIn K Av "MOST_FIGURES" = some (some (.int 2 uz)))
  (aab:nsIn K Av "REFUSED" = some (some (.str "refused" vd)))
  (ga_KINDS:nsIn K Av "KINDS" = some (some (.ref vA)))
  (gs_KINDS:MU K vA=some (["one", "all"]:List Str))
  (hW:(⟨o,u5,u9,A,g,m⟩:Wd)=W0)
  : ∃(W:Wd) (T:Txt K C W),fa=T.KK.f/\W=W0/\∀(s:AK) (v:AG),Xk s T.KK.fd ⟨[v],[]⟩ [("script",v)]:=by
 obtain⟨zl,_,_,_,_,_,_,_,_,_,l,c,k⟩:=d60;have F:=gY (st:=Zl) l c k
 let W:Wd:=⟨o,u5,u9,A,g,m⟩
 have uR:(clsIn K o).isSome=true:=Mv xo_GuardError;have vW:(clsIn K u5).isSome=true:=Mv xo_NoPlace;have wa:(clsIn K u9).isSome=true:=Mv xo_NoCall;have yG:XIs K u5:=⟨vW,xg_NoPlace,xn_NoPlace,xa_NoPlace,sp,tk,xo_NoPlace,xb_NoPlace⟩;have zP:XIs K u9:=⟨wa,xg_NoCall,xn_NoCall,xa_NoCall,sp,tk,xo_NoCall,xb_NoCall⟩
 let T:Txt K C W:={
  aac:=mkD X G d1 (bd2 λ_ _ _ _ _ _ _ _ _ _=>rfl)
  aad:=mkD X G d2 (bd2 λ_ _ _ _ _ _ _ _ _ _=>rfl)
  aaH:=mkM d3 (bd3 λ_ _ _ _ _ _ _ _ _ _ _=>rfl)
  v0:=mkD X G d4 (bd2 λ_ _ _ _ _ _ _ _ _ _=>rfl)
  aae:=mkD X G d5 (bd2 λ_ _ _ _ _ _ _ _ _ _=>rfl)
  aaf:=mkD X G d6 (bd2 λ_ _ _ _ _ _ _ _ _ _=>rfl)
  aag:=mkD X G d7 (bd2 λ_ _ _ _ _ _ _ _ _ _=>rfl)
  aah:=mkD X G d8 (bd2 λ_ _ _ _ _ _ _ _ _ _=>rfl)
  wP:=mkD X G d9 (bd2 λ_ _ _ _ _ _ _ _ _ _=>rfl)
  aai:=mkD X G d10 (bd1 λ_ _ _ _ _ _ _ _ _=>rfl)
  aa0:=mkD X G d11 (bd1 λ_ _ _ _ _ _ _ _ _=>rfl)
  aaj:=mkM d12 (bd4 λ_ _ _ _ _ _ _ _ _ _ _ _=>rfl)
  aaI:=mkM d13 (bd2 λ_ _ _ _ _ _ _ _ _ _=>rfl)
  v4:=mkD X G d14 (bd1 λ_ _ _ _ _ _ _ _ _=>rfl)
  wS:=mkD X G d15 (bd5 λ_ _ _ _ _ _ _ _ _ _ _ _ _=>rfl)
  aak:=mkD X G d16 (bd3 λ_ _ _ _ _ _ _ _ _ _ _=>rfl)
  aal:=mkD X G d17 (bd3 λ_ _ _ _ _ _ _ _ _ _ _=>rfl)
  aam:=mkD X G d18 (bd3 λ_ _ _ _ _ _ _ _ _ _ _=>rfl)
  aan:=mkD X G d19 (bd2 λ_ _ _ _ _ _ _ _ _ _=>rfl)
  wT:=mkD X G d20 (bd3 λ_ _ _ _ _ _ _ _ _ _ _=>rfl)
  aao:=mkD X G d21 (bd2 λ_ _ _ _ _ _ _ _ _ _=>rfl)
  aap:=mkD X G d22 (bd2 λ_ _ _ _ _ _ _ _ _ _=>rfl)
  aaq:=mkD X G d23 (bd2 λ_ _ _ _ _ _ _ _ _ _=>rfl)
  aaJ:=mkM d24 (bd2 λ_ _ _ _ _ _ _ _ _ _=>rfl)
  aaK:=mkM d25 (bd2 λ_ _ _ _ _ _ _ _ _ _=>rfl)
  aaL:=mkM d26 (bd2 λ_ _ _ _ _ _ _ _ _ _=>rfl)
  aaM:=mkM d27 (bd2 λ_ _ _ _ _ _ _ _ _ _=>rfl)
  aar:=mkM d28 (bd3 λ_ _ _ _ _ _ _ _ _ _ _=>rfl)
  aaN:=mkM d29 (bd4 λ_ _ _ _ _ _ _ _ _ _ _ _=>rfl)
  xz:=mkD X G d30 (bd2 λ_ _ _ _ _ _ _ _ _ _=>rfl)
  xL:=mkD X G d31 (bd1 λ_ _ _ _ _ _ _ _ _=>rfl)
  x0:=mkD X G d32 (bd2 λ_ _ _ _ _ _ _ _ _ _=>rfl)
  aas:=mkD X G d33 (bd3 λ_ _ _ _ _ _ _ _ _ _ _=>rfl)
  v6:=mkD X G d34 (bd1 λ_ _ _ _ _ _ _ _ _=>rfl)
  aat:=mkD X G d35 (bd1 λ_ _ _ _ _ _ _ _ _=>rfl)
  zn:=mkD X G d36 (bd1 λ_ _ _ _ _ _ _ _ _=>rfl)
  aau:=mkD X G d37 (bd4 λ_ _ _ _ _ _ _ _ _ _ _ _=>rfl)
  BT:=mkD X G d38 (bd4 λ_ _ _ _ _ _ _ _ _ _ _ _=>rfl)
  aav:=mkD X G d39 (bd1 λ_ _ _ _ _ _ _ _ _=>rfl)
  aaw:=mkD X G d40 (bd4 λ_ _ _ _ _ _ _ _ _ _ _ _=>rfl)
  Cl:=mkD X G d41 (bd1 λ_ _ _ _ _ _ _ _ _=>rfl)
  v9:=mkD X G d42 (bd2 λ_ _ _ _ _ _ _ _ _ _=>rfl)
  aax:=mkD X G d43 (bd2 λ_ _ _ _ _ _ _ _ _ _=>rfl)
  aay:=mkD X G d44 (bd1 λ_ _ _ _ _ _ _ _ _=>rfl)
  aaO:=mkD X G d45 (bd1 λ_ _ _ _ _ _ _ _ _=>rfl)
  Fr:=mkD X G d46 (bd3 λ_ _ _ _ _ _ _ _ _ _ _=>rfl)
  ww:=mkD X G d47 (bd1 λ_ _ _ _ _ _ _ _ _=>rfl)
  wf:=mkD X G d48 (bd1 λ_ _ _ _ _ _ _ _ _=>rfl)
  aaz:=mkM d49 (bd3 λ_ _ _ _ _ _ _ _ _ _ _=>rfl)
  aaP:=mkM d50 (bd3 λ_ _ _ _ _ _ _ _ _ _ _=>rfl)
  aaQ:=mkM d51 (bd4 λ_ _ _ _ _ _ _ _ _ _ _ _=>rfl)
  wl:=mkD X G d52 (bd2 λ_ _ _ _ _ _ _ _ _ _=>rfl)
  aaR:=mkM d53 (bd2 λ_ _ _ _ _ _ _ _ _ _=>rfl)
  Ty:=mkM d54 (bd2 λ_ _ _ _ _ _ _ _ _ _=>rfl)
  aaS:=mkM d55 (bd2 λ_ _ _ _ _ _ _ _ _ _=>rfl)
  IO:=mkD X G d56 (bd1 λ_ _ _ _ _ _ _ _ _=>rfl)
  aaA:=mkD X G d57 (bd2 λ_ _ _ _ _ _ _ _ _ _=>rfl)
  aaB:=mkD X G d58 (bd1 λ_ _ _ _ _ _ _ _ _=>rfl)
  aaC:=mkD X G d59 (bd1 λ_ _ _ _ _ _ _ _ _=>rfl)
  KK:=⟨B,_,F,F.binds ((bd1 λ_ _ _ _ _ _ _ _ _=>rfl) _ _),LU X G zl⟩
  mt:=mkO X G o_Web d3
  on:=on
  aaD:=aaD
  aaE:=aaE
  dl:=mkO X G o_Field d12
  ut:=ut
  XL:=XL
  LE:=LE
  Id:=Id
  aaa:=aaa
  aaF:=aaF
  LT:=LT
  aa7:=mkE d24
  aa8:=mkE d25
  aa9:=mkE d26
  aba:=mkE d27
  aa2:=mkE d28
  abb:=mkE d29
  pc:=mkO X G o_Desk d13
  wn:=wn
  ST:=ST
  Tm:=Tm
  aa3:=mkE d49
  abc:=mkE d50
  abd:=mkE d51
  abe:=mkE d53
  abf:=mkE d54
  abg:=mkE d55
  abh:=LU X G a_GuardError
  aa1:=⟨⟨xe_NoPlace⟩,LU X G a_NoPlace⟩
  aa4:=⟨⟨xe_NoCall⟩,LU X G a_NoCall⟩
  nd:=xnd
  abi:=(all_cons ⟨xt_GuardError,uR,xb_GuardError,xs_NoPlace_GuardError⟩ (all_cons ⟨xt_GuardError,uR,xb_GuardError,xs_NoCall_GuardError⟩ lE))
  abj:=DN X G z_all
  aaT:=DN X G z_enumerate
  abk:=DN X G z_int
  abl:=DN X G z_isinstance
  ul:=DN X G z_len
  abm:=DN X G z_list
  abn:=DN X G z_max
  aa5:=DN X G z_min
  u8:=DN X G z_range
  abo:=DN X G z_set
  aaU:=DN X G z_sorted
  abp:=DN X G z_str
  abq:=DN X G z_sum
  wE:=DN X G z_tuple
  aaG:=⟨uN,LU X G aaG⟩
  aaV:=⟨uq,LU X G aaV⟩
  aaW:=⟨ui,LU X G aaW⟩
  aaX:=⟨ue,LU X G aaX⟩
  aaY:=⟨vc,LU X G aaY⟩
  aaZ:=⟨uz,LU X G aaZ⟩
  aab:=⟨vd,LU X G aab⟩
  aa6:=⟨vA,LU X G ga_KINDS,gs_KINDS⟩ }
 refine⟨W,T,?_,hW,λs v=>.of_eq rfl⟩;have e:=E.symm.trans (LU X G zl);cases e;rfl
theorem walk{l:OpenLaw}{q:BJ}{g:List Str}{I:(Str->Option AG)->Bu->Prop}{C:Bs->Bu->Prop}{d:DefRec}{K:Params->Frag}(J:l.most=some 63)(L:d.params.defaults=[])
  (N:∀(w:Bs) (h:Bu),C w h->(K w.params).In h)
  (F:∀(w:Bs) (m:Str->Option AG) (A:AR) (h:Bu),(K w.params).In h->h.Ns Av m->m d.name=some (.ref A) ->
   ∃(W:Wd) (T:Txt (K w.params) m W),A=T.KK.f/\W=W0/\∀(s:AK) (v:AG),Xk s T.KK.fd ⟨[v],[]⟩ [("script",v)])
  (o:∀B:ZLi,B.length<=63->∃O,aI W0 [.fro (B.map D.int)] []=.ok (.bl true) O) :
  WalkO q g I C l.row.toRowW d [] (λf vs=>ah f vs):=
 L2.ir (n:=63) (k:=24) (x:="script") (CX:=λw=>CXG l.prog w) (sp:=λw=>eD (K w.params)) J (by decide) L ⟨rfl,by decide,by decide⟩ N
  (λw m A h P G Q=>by
   obtain⟨W,T,e,R,hb⟩:=F w m A h P G Q;subst e R
   exact⟨T.KK.fd,hb,λE _ _=>fY (oR T) o⟩)
  (λ_ _ a B S U X=>⟨a,B,rfl,pO U X,S,λ_=>rfl⟩) (λw H s e Y z=>pf z)
end M
open PySem.W
set_option maxRecDepth 100000 in
set_option maxHeartbeats 0 in
theorem PySem.Challenge.cw_guardround_k59_questions_refused_holds : PySem.Challenge.rw_guardround_k59_questions_refused.Holds := by
 w_on;o_law;k_head;(case hw=>w_witness2)
 k_fill
 refine M.walk (l:=GF) rfl rfl (λw h Y=>by first | exact kIn_of Y | exact km_in_of Y) ?F M.tL
 case F=>
  intro w mg fa h KX G xI;refine' M.p9 (l:=GF) (w:=w) KX G xI ?o_Web ?o_Field ?o_Desk ?a_GuardError ?a_NoPlace ?a_NoCall ?d1 ?d2 ?d4 ?d5 ?d6 ?d7 ?d8 ?d9 ?d10 ?d11 ?d14 ?d15 ?d16 ?d17 ?d18 ?d19 ?d20 ?d21 ?d22 ?d23 ?d30 ?d31 ?d32 ?d33 ?d34 ?d35 ?d36 ?d37 ?d38 ?d39 ?d40 ?d41 ?d42 ?d43 ?d44 ?d45 ?d46 ?d47 ?d48 ?d52 ?d56 ?d57 ?d58 ?d59 ?d60 ?d3 ?d12 ?d13 ?d24 ?d25 ?d26 ?d27 ?d28 ?d29 ?d49 ?d50 ?d51 ?d53 ?d54 ?d55 ?on ?aaD ?aaE ?ut ?XL ?LE ?Id ?aaa ?aaF ?LT ?wn ?ST ?Tm ?sp ?tk ?xnd ?xo_GuardError ?xb_GuardError ?xt_GuardError ?xo_NoPlace ?xb_NoPlace ?xo_NoCall ?xb_NoCall ?xe_NoPlace ?xg_NoPlace ?xn_NoPlace ?xa_NoPlace ?xs_NoPlace_GuardError ?xe_NoCall ?xg_NoCall ?xn_NoCall ?xa_NoCall ?xs_NoCall_GuardError ?z_all ?z_enumerate ?z_int ?z_isinstance ?z_len ?z_list ?z_max ?z_min ?z_range ?z_set ?z_sorted ?z_str ?z_sum ?z_tuple ?aaG ?aaV ?aaW ?aaX ?aaY ?aaZ ?aab ?ga_KINDS ?gs_KINDS ?hW
  (case o_Web | o_Field | o_Desk=>exact⟨by k_is,by k_is,by k_is,by k_is,by k_is,by k_is,by k_is⟩)
  (case a_GuardError | a_NoPlace | a_NoCall=>k_is)
  (case d1 | d2 | d4 | d5 | d6 | d7 | d8 | d9 | d10 | d11 | d14 | d15 | d16 | d17 | d18 | d19 | d20 | d21 | d22 | d23 | d30 | d31 | d32 | d33 | d34 | d35 | d36 | d37 | d38 | d39 | d40 | d41 | d42 | d43 | d44 | d45 | d46 | d47 | d48 | d52 | d56 | d57 | d58 | d59 | d60=>exact⟨by k_is,_,_,_,_,_,_,_,_,_,by k_is,by k_is,by k_is⟩)
  (case d3 | d12 | d13 | d24 | d25 | d26 | d27 | d28 | d29 | d49 | d50 | d51 | d53 | d54 | d55=>exact⟨by k_is,by k_is,_,_,_,_,_,_,_,_,_,by k_is,by k_is,by k_is⟩)
  (case on | aaD | aaE | ut | XL | LE | Id | aaa | aaF | LT | wn | ST | Tm | sp | tk=>k_is)
  (case xnd=>decide)
  (case xo_GuardError | xb_GuardError | xt_GuardError | xo_NoPlace | xb_NoPlace | xo_NoCall | xb_NoCall=>k_is)
  (case xe_NoPlace=>k_exc)
  (case xg_NoPlace | xn_NoPlace | xa_NoPlace | xs_NoPlace_GuardError=>k_is)
  (case xe_NoCall=>k_exc)
  (case xg_NoCall | xn_NoCall | xa_NoCall | xs_NoCall_GuardError | z_all | z_enumerate | z_int | z_isinstance | z_len | z_list | z_max | z_min | z_range | z_set | z_sorted | z_str | z_sum | z_tuple | aaG | aaV | aaW | aaX | aaY | aaZ | aab | ga_KINDS=>k_is)
  (case gs_KINDS=>first | (refine' M.TR ?a ?b;(case a=>k_is);(case b=>first | rfl | kernel_rfl)) | exact M.TR (by k_is) (by first | rfl | kernel_rfl) | kernel_rfl | rfl)
  (case hW=>rfl)
#print axioms PySem.Challenge.cw_guardround_k59_questions_refused_holds
