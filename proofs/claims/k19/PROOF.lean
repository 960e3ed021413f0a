import PyProof.Rows.All
import Wide.All
import OpenK.AllK
import Wide.FinOn
import Lean
import PyProof.EqAt
import PyProof.EqKinds
import PyProof.TupleCall
import PyProof.NeKinds
import PyProof.ExcBaseAll.ValueError
import PyProof.NsDelKeeps
import PyProof.Rows.SortShell
import PyProof.Rows.FStr
import PyProof.FString
import PyProof.ExcAttrAll.ValueError
import PyProof.ExcArgsOwn
import PyProof.Rows.SortRuns
import PyProof.TupleIter
import PyProof.Dict
import KE.KDictSum
import PyProof.TupleOfSeq
import PyProof.EnumMake
import PyProof.SliceList
import PyProof.MinMaxWalk
import PyProof.Rows.EnumRows
import PyProof.WalkInts
import PyProof.WalksMore
import PyProof.Rows.SeqCalls
import KE.KRevIter
import PyProof.CollectIter
import PyProof.TupleOfGen
import PyProof.Rows.FactsT2
import PyProof.ListRange
import PyProof.Rows.CallKwBuiltin
import PyProof.Rows.SetFrom
import PyProof.SetRoads
import PyProof.Rows.Range3
import PyProof.ZipIter
import PyProof.Rows.ZipGen
import PyProof.Rows.RuleM_int
import PyProof.Rows.AssignMoreSeq
import KE.KIntText
import PyProof.Rows.StrKeys3
import PyProof.StrBlock
import PyProof.StrCalls2
import PyProof.StrWalks
import PyProof.TupleKey
import PyProof.SetKind
import PySem.Challenge.RW_guardround_k19_rounds_and_calls
local macro_rules|`(tactic|and_intros)=>`(tactic|first|exact .inl rfl|exact .inr rfl|assumption)
local macro_rules|`(tactic|ext)=>`(tactic|simp_all)
local macro_rules|`(tactic|symm)=>`(tactic|dsimp only)
local macro_rules|`(∅)=>`(by first|lia|omega|decide|decide +kernel|(simp;done)|simp_all)
set_option tactic.hygienic false
set_option hygiene false
set_option genInjectivity false
set_option Elab.async false
set_option linter.all false
set_option compiler.extract_closed false
set_option bootstrap.genMatcherCode false
set_option genSizeOf false
set_option maxRecDepth 100000
set_option maxHeartbeats 8000000
abbrev Z':=List Int
abbrev YP:=Int×Int
theorem qX{c:Prop}{h:Decidable c}(j:c){l:Sort u}{t e:l}:ite c t e=t:=if_pos j
theorem qY{c:Prop}{h:Decidable c}(j:Not c){l:Sort u}{t e:l}:ite c t e=e:=if_neg j
theorem wX{p:Prop}[i:Decidable p](h:p):decide p=true:=decide_eq_true h
theorem wY{p:Prop}[i:Decidable p](h:Not p):decide p=false:=decide_eq_false h
theorem zX{a b:Prop}(h:a)(n:Not a):b:=absurd h n
open Array renaming forIn_toList->GA,getD->RQ,getD_eq_getD_getElem?->C2,getElem?_eq_getElem->Bp,getElem?_eq_none->J8,getElem?_toList->CM,length_toList->Ad,mem_extract_iff_getElem->O4,mem_of_getElem?->Co,mem_toList_iff->BC,perm_iff_toList_perm->FC,replicate->ee,size_map->fU,toList->UL,toList_append->EQ,toList_map->HD,toList_modify->XS,toList_push->Ge,toList_setIfInBounds->RP
open Array.Perm renaming refl->NY
open Bool renaming and_eq_true->DN,and_false->jk,false_eq_true->BB,false_ne_true->An,false_or->kx,not_false->Rq,not_true->DW,or_eq_true->Q8
open Classical renaming byContradiction->BY,choose->GZ,choose_spec->Jg
open False renaming elim->RN
open ForInStep renaming yield->HA
open Int renaming emod_lt_of_pos->aP,emod_nonneg->jj,fdiv_eq_ediv_of_nonneg->Sh,le_refl->sk,lt_trichotomy->Jb,one_mul->sj,toNat_natCast->Ax,toNat_of_nonneg->B1
open List renaming Nodup->IR,Perm->EV,all_cons->kr,all_eq_true->HI,all_map->Vl,any_cons->Mm,any_eq_false->aM,any_eq_true->HH,any_toArray->J6,append_assoc->Ba,append_nil->BP,drop_eq_getElem_cons->DG,drop_of_length_le->KM,eq_nil_of_length_eq_zero->DX,ext_getElem->eZ,ext_getElem?->E0,extract->Vk,filterMap_cons->Ho,filterMap_map->aA,filter_eq_self->Yn,filter_sublist->Ym,find?_cons->CV,find?_eq_none->Z9,find?_isSome->aL,find?_some->fL,flatMap_cons->JL,foldl_append->Gj,foldl_nil->ji,forIn_cons->D9,forIn_nil->Gi,getD_eq_getElem?_getD->B2,getElem?_append_left->Bq,getElem?_append_right->BU,getElem?_cons_zero->UK,getElem?_drop->Z8,getElem?_eq_getElem->AJ,getElem?_eq_none_iff->B6,getElem?_eq_some_iff->AI,getElem?_inj->aK,getElem?_map->Ai,getElem?_of_mem->HZ,getElem?_range->ET,getElem?_replicate->J5,getElem?_reverse->V6,getElem?_set->Dc,getElem?_set_ne->C1,getElem?_set_self->Ee,getElem?_take_of_lt->T9,getElem?_zipIdx->Lq,getElem?_zip_eq_some->Sf,getElem_inj->J4,getElem_mem->CJ,getElem_of_mem->CL,getElem_zip->J3,length->Dp,length_append->AT,length_cons->Au,length_drop->FX,length_eq_one_iff->Vj,length_eraseIdx_of_lt->Rn,length_erase_of_mem->T8,length_filter_le->CO,length_map->AD,length_pos_iff->Yl,length_pos_of_mem->Vi,length_range->DB,length_replicate->LA,length_reverse->Md,length_set->fJ,length_singleton->Am,length_tail->J2,length_take->Cc,length_zip->KR,lookup->Lp,lookup_cons->CI,mapM_toArray->aJ,map_append->Bv,map_congr_left->B0,map_cons->Al,map_drop->T7,map_filterMap->Z7,map_id->Ln,map_id'->pA,map_map->Aw,map_nil->Vh,map_reverse->O3,map_take->Ml,mem_append->Aj,mem_append_left->CS,mem_append_right->Bb,mem_cons->Ak,mem_cons_of_mem->AN,mem_cons_self->Aa,mem_erase_of_ne->XQ,mem_filter->BA,mem_filterMap->NX,mem_iff_getElem->FO,mem_map->Ay,mem_of_find?_eq_some->Se,mem_of_getElem?->Az,mem_of_mem_drop->HY,mem_of_mem_take->FM,mem_range->CG,mem_reverse->EU,mem_singleton->Av,mem_singleton_self->J1,mergeSort_perm->Yk,nodup_append->JK,nodup_cons->BO,nodup_iff_pairwise_ne->Rm,nodup_nil->IQ,nodup_range->O2,not_mem_nil->DM,of_mem_zip->KQ,pairwise_append->A6,pairwise_cons->GE,pairwise_iff_getElem->JA,pairwise_lt_range->KJ,pairwise_map->BL,pairwise_mergeSort->UJ,pairwise_reverse->V5,perm_append_comm->V4,range->A0,range_succ_eq_map->Vg,replicate->Bj,reverse_cons->aI,set_getElem_self->K9,singleton_append->Ew,size_toArray->BZ,take_add_one->OM,take_append_drop->DK,take_of_length_le->Cb,take_sublist->aH,take_zero->jh,zipIdx_nil->fI,zip_append->Q7,zip_cons_cons->IP
open List.Pairwise renaming and->Rp,drop->pW,filterMap->ON,nil->Ro,take->pV
open List.Perm renaming append_left->GW,append_right->RM,swap->Yo
open List.Sublist renaming filter->si
open List.cons renaming injEq->Nh
open Nat renaming add_assoc->o0,add_zero->pU,and_div_two->RK,and_mod_two_pow->Mj,le_of_ble_eq_true->Cu,le_of_eq->pT,le_of_lt->KP,le_of_lt_succ->On,le_of_not_lt->fH,le_of_succ_le->Om,le_refl->AM,le_succ->Q6,le_trans->A5,lt_irrefl->Ev,lt_of_le_of_lt->Il,lt_of_lt_of_le->Ab,lt_of_not_le->fG,lt_or_ge->Gr,lt_succ_of_le->eY,lt_succ_of_lt->EG,lt_succ_self->FZ,lt_trans->Ol,lt_trichotomy->eX,min_eq_left->jg,mod_lt->Nf,mod_two_eq_zero_or_one->Ik,ne_of_gt->Ek,ne_of_lt->Ar,not_lt_zero->RJ,pow_le_pow_right->Hg,pow_succ->V2,strongRecOn->jf,sub_self->V1,succ_ne_self->fF,succ_pos->V0,testBit->sg,testBit_lt_two_pow->Vz,testBit_succ->HR,testBit_two_pow->Z6,two_pow_pos->je,zero_add->Vy,zero_le->Bc
open Nat.succ renaming inj->Mc
open Ne renaming symm->CU
open Option renaming bind_some->AH,getD_some->Z5,isSome_iff_exists->CF,isSome_map->Et,isSome_some->Mb,map_eq_some_iff->C9
open Option.some renaming inj->Bw
open Or renaming inl->G2,inr->Fn
open Prod renaming ext->Lm
open Prod.mk renaming inj->jd
open PyProof.Rows renaming AllBare->JM,Call_->pH,IntsAre->F9,IsTup->fM,Keyed->A9,SortKind->Nc,SortSt->A4,Subscript_->km,args_tuple_getitem->kj,arrOf->Ae,boot_all->sf,boot_bool->se,boot_int->sd,boot_isinstance->sZ,boot_list->sY,boot_max->sX,boot_min->sW,boot_range->kh,boot_set->sV,boot_sorted->sU,boot_tuple->sT,callWith_builtin1->Ll,callWith_type1->Br,elem'_eq->fD,entry_list_sort->sP,entry_tuple_getitem->ja,envOfC->HN,failedOf->IK,firstOfTuple'->Yh,general'->Vu,listUpdate_at->Yg,ltAt'->ot,mirror->Pc,mirror_perm->T4,pairsOf->MB,pendingOf->Af,reverseSlice'->Oz,reverseSlice'_eq->LS,seqEpoch_at->fB,seqObj->Hn,slot_tuple_getitem->CK,sortedHeap->Vo,subscriptTail->Ye,subscriptTail_builtinR->aE,tuples'->om,wpS_bind->Ag,wpS_forRange->Db,wpS_get->HJ,wpS_modify->Dk,wpS_mono->GX,wpS_pure->Ah
open PyProof.Rows.F renaming entry_set_update_loop->XR,plain_set_update_loop->KS
open PyProof.Rows.IsTup renaming new->aN
open PyProof.Rows.SortSt renaming mk'->II
open PySem renaming Addr->AL,Around->BR,BindsTo->Vm,CmpOp->UC,DictEntry->La,FuncData->EA,GenState->fN,Heap->BG,IsEnum->Sg,IsPart->Ni,IsRangeIter->UA,IsTupleKey->ku,Keyword->IJ,Model->V3,NameKind->Ng,Operator->Nd,Paired->Ez,PassesOwn->pS,Program->Ao,Result->kn,Scope->LW,SetTable->D8,Shared->AK,Stmt->B5,Value->AE,Within->UI,World->A3,assignEach->Jd,atKey->KI,attributeBase->Bd,backTo->Cv,backToKw->LV,behindInMarks->BV,binaryOp->D7,bindArgs->fE,bindC->Z0,bindL->Zz,bootBuiltins->ES,boot_len->LX,builtinsNs->Vv,cLine->Bf,call->Yi,call_meets->kg,call_meetsIn->RG,callerA->RF,cellsFrom->CD,codeAny->HP,codeAny_builtin->FB,codeAny_mono->Ey,codeAny_of_tree->UH,compareOp->Bk,concat_meets->aG,drawOrder->pN,eqIsQuiet->Zy,eqIsQuiet_byValue->ox,eval->A2,firstArgMember->Nb,fits_of_scanBound->ou,foldedSetIterable->B8,getItem->JF,getMethod->Zx,hashByValue->fC,holding->F7,intKind->HM,isInstance->ke,isSubtype_stop->Na,isSubtype_tuple_tuple->Mf,isTrue->KN,keywordEach->G1,letOwnedTupleGo->MY,mainGlobals->BD,meetsH_dict_get_default->Zw,mem_of_lookup->De,model->AY,newFunctionEnv->Vt,noFill_tuple_add->SY,ofAClassStatement->KH,pickOrder->Zv,plainId_quiet->IH,pushCells->F6,pushCells_keeps->UF,putAt->T3,putSet_of->OL,pyIter->Pb,pyNext->GG,rawInt->Ih,reduceHash->Vr,relabel->JE,searchCouldBeSeen->on,seqIndex_of->fA,seq_tuple_add->Yf,setItem->aF,setSearchFrom->Oy,setsByText->Vq,sizeLine_eq->T2,slotArgs->Vp,standAt->JD,starEach->AG,storeName->pM,storedH->OK,subscripted->T1,swapsWith->BX,sysModules->B3,truthy->NZ,tupleKeyHash->RC,tupleKind->OJ,tupleKind_room_in1->Gp,valueAt->RB,wpAny->AW,wpAny_Assign_Subscript->aD,wpAny_Call_Name_kw->Ex,wpAny_Call_method->oj,wpAny_Dict_empty->SX,wpAny_Name->ka,wpAny_askSetting->F5,wpAny_assign_Name->oi,wpAny_attempt->FL,wpAny_bind->AA,wpAny_call->kZ,wpAny_callSpecial?_slot->BJ,wpAny_call_entry->BI,wpAny_comprehension_free->Yd,wpAny_dictEntries->KG,wpAny_dictEpoch->UE,wpAny_eqBool_int->pL,wpAny_eqBool_tuple->kY,wpAny_eqIsQuiet_tuple->eV,wpAny_execs_cons->pK,wpAny_execs_nil->MX,wpAny_field->ER,wpAny_fieldsOf->Eh,wpAny_forIn_list->LR,wpAny_getItem_heap->kX,wpAny_handled->Ox,wpAny_holding->C0,wpAny_isInstance->D0,wpAny_isOneOf_keyiter->Me,wpAny_isTrue_Compare1->eR,wpAny_ite_split->UD,wpAny_load->kW,wpAny_loadName_cell->jZ,wpAny_loadName_local->e8,wpAny_mono->Da,wpAny_newList->Yc,wpAny_newObj_type->A8,wpAny_of_eq->DA,wpAny_passesOwn->FA,wpAny_pure->AC,wpAny_pyHash_tuple->kU,wpAny_pyIter_enum->KF,wpAny_pyIter_keyiter->eu,wpAny_pyIter_list->RA,wpAny_pyIter_rangeiter->MA,wpAny_pyIter_revIter->eh,wpAny_pyIter_slot->Q9,wpAny_pyIter_tuple->Go,wpAny_pyNext_range_end->aC,wpAny_ret_mkInt->sO,wpAny_rule->Hm,wpAny_seqItems->Eg,wpAny_sequenceKey->og,wpAny_setEntries_of->GF,wpAny_setField->HK,wpAny_setField_rec->Jc,wpAny_setItem_heap->kS,wpAny_setState_of->DF,wpAny_specialOf->EO,wpAny_storeSet_of->oZ,wpAny_throw->T0,wpAny_truthy_bool->CP,wpAny_tupleItemsOf->Pa,wpAny_typeNameOfWhole_keyiter->Eu,wpAny_typeNameOf_keyiter->GY,wpAny_typeOf->JC,wpAny_updateSeq->sM
open PySem.Around renaming under_plainId->D6
open PySem.AutoSeq1 renaming wpAny_loadPart'->FY
open PySem.Builtin renaming bitAnd->BE,bitNot->aR,bitOr->DL,bitXor->E1
open PySem.Builtin.Dict renaming dictSlotNone->sr,showsAll->Pi
open PySem.Builtin.Frozenset renaming addrOf->fS,newClass->fR,sizeOf->fQ,slot0->fP,updateFrom->fO
open PySem.Builtin.Int renaming intBits->D5
open PySem.Builtin.List renaming listExtendWith->Mp,listItems->IS,listLengthHint->Mo,listSameRef->OO,listTooLong->Hl
open PySem.Builtin.Range renaming rangeFields->ph,rangeFitsLong->B9,rangeSize->Hq
open PySem.Builtin.Slice renaming sliceAdjust->HS,sliceApplied->Mn,sliceFields->pZ,slicePartIndex->pY,slicePlaces->Eo
open PySem.Builtin.SmallTypes renaming nextOf->EY
open PySem.Builtin.Tuple renaming tupleExact->E2,tupleHashOf->Di,tupleIsExact->pX,tupleItemsOf->HC
open PySem.Calls renaming Name_function_global->RO,callWith_builtin->Gc,call_function_entry->Im,evalArgs_plain->Lb,spliced_cons->Ed,spliced_nil->JB
open PySem.Challenge renaming pw_guardround_k19_rounds_and_calls->ko,rw_guardround_k19_rounds_and_calls->Gq
open PySem.F renaming args_dict_get_3->JJ,args_dict_keyiterator_next_1->LZ,args_tuple_add_2->Ii,args_tuple_iterator_next_1->Sj,called_set->Fj,entry_dict_get->Jf,entry_dict_keyiterator_next->Lj,entry_tuple_add->JI,entry_tuple_iterator_next->UB,plainAttrs_dict->Rj,plainAttrs_list->JH,plain_extend_loop->Q5,plain_list_iadd->Ri,plain_reversed_new->aQ,plain_set_new->pG,slot_dict_get->Ei,slot_dict_getitem->Q4,slot_dict_iter->Sd,slot_dict_keyiterator_next->Cw,slot_dict_len->pE,slot_enumerate_next->aB,slot_list_append->RI,slot_range_reversed->MD,slot_set_iter->pD,slot_tuple_add->Je,slot_tuple_eq->Ls,slot_tuple_hash->HB,slot_tuple_iterator_next->Fc,type_dict_get->T5,type_list_append->RH
open PySem.Heap renaming ExtBut->Lr,SameBut->DV,get?_push_of_some->AF,get?_push_size->AO,get?_update_ne->Yp,get?_update_other->Dj,get?_update_self->Cq,lt_size->AX,size_push->DC
open PySem.Heap.IsSliceOf renaming new->pC
open PySem.Heap.SameBut renaming refl->Si,update->B7
open PySem.NameKind renaming cell->DJ,free->FW
open PySem.Obj renaming cls_mapFields->eW,data_mapFields->Ij,isFreed_of_fields->XO,mapSeq->Ej,putSet->Df
open PySem.Paired renaming length->C5,snoc->Oj
open PySem.SeqAt.RcAt renaming tuples->pQ
open PySem.SetTable renaming Probe->T6,below->FU,fill->Q3,fits->Q2,grown->GD,insertAt->Ma,leap->UG,runEnd->Fi,sizeAbove->Li,turns->Vn
open PySem.SetTable.layClean renaming free->IN
open PySem.SetTable.probe renaming go->LU
open PySem.Source renaming order->NW
open PySem.Value renaming bool->Mg,builtin->MZ,bytes->oz,float->Vw,int->GC,isInt->O0,isInt_shape->Z1,isStrOf->jc,none->CQ,ref->AV,str->Oh,type->F8
open PySem.W renaming Frag->AB,callWith_K->MC,cellsFrom_some->Sb,codeIn->Ph,emptyDict->C4,findIn->DO,fnOf->He,handedIn->Yj,hasDictIn->Mi,instObj->Dx,isFn->SZ,kdu_collect->Vf,keepIn->GI,kia_one->Cp,kitOne->Do,kitx_dict->XN,kitx_list->XM,lookIn->KO,makesIn->Z3,methodObj->Mh,mg_none_of->Dm,mg_of->oq,nsIn->Og,plainGet->JG,plainGet_of->LY,plainOver->XJ,takerIn->Oi
open PySem.W.Looks renaming here->pR
open PySem.W.WData renaming int->sQ
open PySem.Walks renaming list->pP,range->oy
open PySem.Within renaming cons->sS
open PySem.pickOrder renaming go->RE
open Sum renaming inl->Dw,inr->Vx
open True renaming intro->EJ
open PySem PySem.Spec PyProof.Rows
set_option hygiene false
noncomputable section
theorem yq0(h:True:=by rfl):True:=h
def yq0q:=yq0._auto_1
theorem yq1(h:True:=by decide):True:=h
def yq1q:=yq1._auto_1
theorem yq2(h:True:=by intro _;rfl):True:=h
def yq2q:=yq2._auto_1
theorem yq3(h:True:=by and_intros):True:=h
def yq3q:=yq3._auto_1
theorem yq4(h:True:=by first | exact G2 rfl | exact Fn rfl):True:=h
def yq4q:=yq4._auto_1
theorem yq5(h:True:=by assumption):True:=h
def yq5q:=yq5._auto_1
theorem yq6(h:True:=by with_unfolding_all rfl):True:=h
def yq6q:=yq6._auto_1
theorem yq7(h:True:=by intro _ _;rfl):True:=h
def yq7q:=yq7._auto_1
theorem yq8(h:True:=by decide +kernel):True:=h
def yq8q:=yq8._auto_1
theorem yq9(h:True:=by first | exact GO _ | with_unfolding_all rfl):True:=h
def yq9q:=yq9._auto_1
theorem yq10(h:True:=by exact Cu rfl):True:=h
def yq10q:=yq10._auto_1
theorem yq11(h:True:=by first | exact nobehind _ ∅ ∅ | rfl):True:=h
def yq11q:=yq11._auto_1
theorem yq12(h:True:=by intros;rfl):True:=h
def yq12q:=yq12._auto_1
theorem yq13(h:True:=by first | exact G2 rfl | exact Fn (G2 rfl) | exact Fn (Fn rfl)):True:=h
def yq13q:=yq13._auto_1
theorem yq14(h:True:=by exact#[rfl,rfl,rfl,rfl]):True:=h
def yq14q:=yq14._auto_1
theorem yq15(h:True:=by kernel_rfl):True:=h
def yq15q:=yq15._auto_1
theorem yq16(h:True:=by intro G _ _ _ _ _ _;exact pgn 0 G):True:=h
def yq16q:=yq16._auto_1
theorem yq17(h:True:=by exact jn):True:=h
def yq17q:=yq17._auto_1
local macro_rules(kind:=Lean.Parser.Command.declaration)|s=>if s.getPos?.isNone then Lean.Macro.throwUnsupported else pure ((if s[1].isOfKind ``Lean.Parser.Command.definition&&s[0][1].getNumArgs=0 then s.setArg 0 (s[0].setArg 4 (Lean.mkNullNode #[Lean.Syntax.node .none ``Lean.Parser.Command.noncomputable #[Lean.mkAtom "noncomputable"]])) else s).rewriteBottomUp (·.setInfo .none))
local macro_rules|`(↑$x)=>`(autoParam $x yq0q)
local macro_rules|`(↥$x)=>`(autoParam $x yq1q)
local macro_rules|`(tactic|let $d:letDecl)=>if d.raw[0].isOfKind `Lean.Parser.Term.letPatDecl then do
 let rec f(n:Nat)(s:Lean.Syntax):Lean.MacroM (Lean.TSyntax `rcasesPat):=match n with
 |n+1=>if s.isIdent then`(rcasesPat|$(⟨s⟩):ident)else if s.isOfKind `Lean.Parser.Term.hole then`(rcasesPat|_)else do
  let a<-s[1].getSepArgs.mapM (f n)
  `(rcasesPat|⟨$[$a:rcasesPat],*⟩)
 |_=>`(rcasesPat|_)
 `(tactic|obtain $(<-f 9 d.raw[0][0]):rcasesPat:=$(⟨d.raw[0][4]⟩))
 else`(tactic|have $d:letDecl)
local macro_rules|`(!$x)=>`(some $x)
local macro_rules|`($a*>$b)=>`($(a).bind $b)
local macro_rules|`(¬$x)=>if x.raw[1].isOfKind `«term_∈_» then Lean.Macro.throwUnsupported else`(List $x)
local macro_rules|`(⇑$x)=>`(Option $x)
local macro_rules|`(-$x)=>if x.raw.isOfKind `num then Lean.Macro.throwUnsupported else`($(x).length)
local macro_rules|`(#[$a,*])=>if a.getElems.size=0 then Lean.Macro.throwUnsupported else`(⟨$a,*⟩)
local macro_rules|`(let $d:letDecl;$b)=>if d.raw[0].isOfKind `Lean.Parser.Term.letIdDecl then`(have $d:letDecl;$b)else Lean.Macro.throwUnsupported
namespace L2
abbrev Key:=Sum Int Str
def SF:Key->AE->Bool
 | .inl k,v=>O0 k v
 | .inr x,v=>jc x v
def keyH(w:A3):Key->Int
 | .inl k=>hashInt k
 | .inr x=>hashStr w x
theorem DT:∀{k:Key} {v:AE},SF k v->(∃i t,k=Dw i/\v=GC i t)∨(∃x t,k=Vx x/\v=Oh x t)
 | .inl i,v,h=>by
  let#[t,e]:=Z1 (k:=i) (v:=v) h;exact .inl #[i,t,rfl,e]
 | .inr x,v,h=>by
  let#[t,e]:=AE.isStrOf_shape (x:=x) (v:=v) h;exact .inr #[x,t,rfl,e]
theorem ZS(i:Int)(t:Tok):SF (.inl i) (.int i t):=by simp[SF,O0]
theorem ZR(x:Str)(t:Tok):SF (.inr x) (.str x t):=by simp[SF,jc]
theorem nX(a b:Int):decide ((Dw a:Key)=Dw b)=(a==b):=by
 lia
theorem nU(a b:Str):decide ((Vx a:Key)=Vx b)=decide (a=b):=by
 ext
theorem nW(a:Int)(b:Str):decide ((Dw a:Key)=Vx b)=false:=wY (λq=>nomatch q)
theorem nV(a:Str)(b:Int):decide ((Vx a:Key)=Dw b)=false:=wY (λq=>nomatch q)
def Dt(prog:Ao)(w:A3):PySem.KeyKind prog w Key where
 is:=SF
 hash:=keyH w
 inj:=λv a b o hb=>by
  rcases DT o with⟨i,t,rfl,rfl⟩ | ⟨x,t,rfl,rfl⟩
  ·rcases DT hb with⟨j,u,rfl,e⟩ | ⟨y,u,rfl,e⟩
   ·injection e with m _;rw[m]
   ext
  ·rcases DT hb with⟨j,u,rfl,e⟩ | ⟨y,u,rfl,e⟩
   ·exact nomatch e
   ext
 byValue:=λk v h=>by
  rcases DT h with⟨i,t,rfl,rfl⟩ | ⟨x,t,rfl,rfl⟩ <;> rfl
 pyHash:=λl h=>by
  rcases DT l with⟨i,t,rfl,rfl⟩ | ⟨x,t,rfl,rfl⟩
  ·exact wpAny_pyHash_int h
  ·exact wpAny_pyHash_str h
 eqBool:=λA l h=>by
  rcases DT A with⟨i,t,rfl,rfl⟩ | ⟨x,t,rfl,rfl⟩
  ·rcases DT l with⟨j,u,rfl,rfl⟩ | ⟨y,u,rfl,rfl⟩
   ·rw[nX]at h;exact pL h
   ·rw[nW]at h;exact SeqAt.EqAt.int_str i t y u _ _ _ _ h
  ·rcases DT l with⟨j,u,rfl,rfl⟩ | ⟨y,u,rfl,rfl⟩
   ·rw[nV]at h;exact SeqAt.EqAt.str_int x t j u _ _ _ _ h
   ·rw[nU]at h;exact wpAny_eqBool_str h
 «strs»:=λk x t v h=>by
  rcases DT h with⟨i,u,rfl,e⟩ | ⟨y,u,rfl,e⟩
  ·ext
  ·injection e with m _
   subst m
   cases v <;> rfl
theorem U6(prog:Ao)(w:A3)(i:Int)(t:Tok):(Dt prog w).is (.inl i) (.int i t):=ZS i t
theorem U5(prog:Ao)(w:A3)(x:Str)(t:Tok):(Dt prog w).is (.inr x) (.str x t):=ZR x t
set_option genInjectivity true in
inductive V where
 | non | bl (b:Bool) | int (i:Int) | str (x:Str) | byt (b:Array UInt8) | flt (b:UInt64) | ref (a:AL) | ty (n:String)
 deriving DecidableEq
def RelV:V->AE->Prop
 | .non,u=>u=CQ
 | .bl b,u=>u=Mg b
 | .int i,u=>∃t,u=GC i t
 | .str x,u=>∃t,u=Oh x t
 | .byt b,u=>∃t,u=oz b t
 | .flt b,u=>∃t,u=Vw b t
 | .ref a,u=>u=AV a
 | .ty n,u=>u=F8 n
abbrev Bl:¬V->¬AE->Prop:=Ez RelV
theorem Bl.length(r:Bl xs us):-xs=-us:=C5 r
theorem Bl.get:∀{xs:¬V} {us:¬AE} {i:Nat} {x:V},Bl xs us->xs[i]?=!x->∃u,us[i]?=!u/\RelV x u
 | _,_,_,_,.nil,e=>by simp at e
 | _,_,0,_,.cons r _,e=>by ext
 | _,_,i+1,x,.cons _ t,e=>by
  let#[u,j,l]:=Bl.get (i:=i) (x:=x) t (by simpa using e);ext
theorem Bl.set(r:RelV x u):∀{xs:¬V} {us:¬AE} (i:Nat),Bl xs us->Bl (xs.set i x) (us.set i u)
 | _,_,_,.nil=>.nil
 | _,_,0,.cons _ t=>.cons r t
 | _,_,i+1,.cons q t=>.cons q (Bl.set r i t)
theorem Bl.append:∀{xs j:¬V} {us l:¬AE},Bl xs us->Bl j l->Bl (xs++j) (us++l)
 | _,_,_,_,.nil,s=>s
 | _,_,_,_,.cons r t,s=>.cons r (Bl.append t s)
theorem Bl.take:∀{xs:¬V} {us:¬AE} (n:Nat),Bl xs us->Bl (xs.take n) (us.take n)
 | _,_,0,_=>.nil
 | _,_,_+1,.nil=>.nil
 | _,_,n+1,.cons r t=>.cons r (Bl.take n t)
theorem Bl.drop:∀{xs:¬V} {us:¬AE} (n:Nat),Bl xs us->Bl (xs.drop n) (us.drop n)
 | _,_,0,r=>r
 | _,_,_+1,.nil=>.nil
 | _,_,n+1,.cons _ t=>Bl.drop n t
def JZ:⇑V->⇑AE->Prop
 | some v,!u=>RelV v u
 | none,none=>True
 | _,_=>False
def KV{j:Type}:¬(j×V)->¬(j×AE)->Prop:=Ez λ(p:j×V) (q:j×AE)=>p.1=q.1/\RelV p.2 q.2
def kV:Key->V
 | .inl i=>.int i
 | .inr x=>.str x
set_option genInjectivity true in
inductive HO where
 | lst (xs:¬V)
 | tup (xs:¬V)
 | dK (kvs:¬(Key×V)) | dT (kvs:¬(¬Key×V))
 | set (S:Int->Bool) (n:Nat)
 | ins (C dx:AL) (fs:¬(Str×V))
 | own (x:AL)
 | xd (fs:¬(Str×V))
 | met (f x:AL)
 | rng (lo hi:Int)
 | frz (o:Obj) (u:HO)
 | tbl (ps:Array AE)
 | ext (φ:BG->Prop)
abbrev Hp:=AL->⇑HO
def upd(H:Hp)(a:AL)(o:HO):Hp:=λb=>if b=a then !o else H b
theorem Ap:upd H a o a=!o:=by unfold upd;ext
theorem AQ(h:b≠a):upd H a o b=H b:=by unfold upd;rw[qY h]
theorem kE{H:Hp}{a b:AL}{o u:HO}(h:H a=!o)(h':H b=!u)(d:o≠u):a≠b:=by
 lia
theorem ED{H:Hp}{a b:AL}{o:HO}(h:H a=!o)(h':H b=none):a≠b:=by
 lia
section
variable(P:Ao)(w:A3)
def CZ(H:Hp)(h:BG)(a:AL):HO->Prop
 | .lst l=>-l<=sizeLine/\∃(A:¬AE) (n:Nat),Bl l A/\h.get? a=some { cls:=.type "list",data:=.seq A.toArray n }
 | .tup l=>(-l<=sizeLine/\∃o,h.get? a=!o/\o.dict=none)/\∃A:¬AE,Bl l A/\fM h a A.toArray
 | .dK j=>-j<=sizeLine/\(a==B3)=false/\∃vs,KV j vs/\h.DictOf (Dt P w) a vs
 | .dT j=>-j<=sizeLine/\(a==B3)=false/\∃l:¬(¬Key×AL×AE),
   Ez (λ(p:¬Key×V) (q:¬Key×AL×AE)=>p.1=q.1/\H q.2.1=!.tup (p.1.map kV)/\RelV p.2 q.2.2) j l /\
   ∃o G L,h.get? a=!o/\o.ExactDict/\o.data=.dict G L/\G.toList=l.map (entryOfKey (OJ (Dt P w)))/\(l.map (·.1)).Nodup
 | .set S n=>h.SetOf (HM P w) a S n
 | .ins C B fs=>H B=!.own a/\-fs<=1000/\B≠a/\h.get? a=!Dx C B /\
   ∃m,h.Ns1 B m/\(∀f,JZ (fs.lookup f) (m f))/\UI m (fs.map (·.1))
 | .own _=>∃o,h.get? a=!o
 | .xd fs=>∃m,h.Ns1 a m/\∀f,JZ (fs.lookup f) (m f)
 | .rng lo N=>∃t u v,h.get? a=some { cls:=.type "range",data:=.fields [.int lo t,.int N u,.int 1 v].toArray }
 | .frz o u=>h.get? a=!o/\CZ H h a u
 | .tbl O=>h.get? a=some { cls:=.none,data:=.fields O }
 | .met f x=>h.get? a=!Mh (.ref f) (.ref x)
 | .ext E=>E h/\(∃o,h.get? a=!o)/\∀I J:BG,E I->(∀o,I.get? a=!o->J.get? a=!o)->E J
def HOk(H:Hp)(h:BG):Prop:=∀a o,H a=!o->CZ P w H h a o
end
section
variable{P:Ao}{w:A3}{H H':Hp}{h h':BG}{a:AL}{o:HO}
theorem CZ.lt(x:CZ P w H h a o):a < h.objs.size:=by
 cases o with
 | lst l=>let#[_,_,_,_,e]:=x;exact AX e
 | tup l=>let#[_,_,_,p]:=x;exact p.lt
 | dK j=>let#[_,_,_,_,o,_,_,e,_]:=x;exact AX e
 | dT j=>let#[_,_,_,_,o,_,_,e,_]:=x;exact AX e
 | set S n=>let#[o,_,_,_,e,_]:=x;exact AX e
 | ins C m fs=>let#[_,_,_,e,_]:=x;exact AX e
 | own y=>let#[_,e]:=x;exact AX e
 | xd fs=>let#[_,#[_,_,_,e,_],_]:=x;exact AX e
 | rng lo A=>let#[_,_,_,e]:=x;exact AX e
 | frz ob u=>let#[e,_]:=x;exact AX e
 | tbl B=>exact AX (show h.get? a=!_ from x)
 | met f y=>exact AX (show h.get? a=!_ from x)
 | ext E=>let#[_,#[_,e],_]:=x;exact AX e
theorem Ez.mapP{m A:Type}{F G:m->A->Prop}:∀{j:¬m} {l:¬A},Ez F j l->(∀a b,F a b->G a b)->Ez G j l
 | _,_,h,f=>by
  cases h with
  | nil=>exact .nil
  | cons r t=>exact .cons (f _ _ r) (Ez.mapP t f)
theorem CZ.stay(x:CZ P w H h a o)(k:∀b u,(b=a∨H b=!.own a)->h.get? b=!u->h'.get? b=!u)
  (J:∀b,H b=!.own a->H' b=!.own a) (L:∀b xs,H b=!.tup xs->H' b=!.tup xs):CZ P w H' h' a o:=by
 induction o with
 | lst xs=>let#[z,m,n,r,e]:=x;exact#[z,m,n,r,k _ _ (.inl rfl) e]
 | tup xs=>let#[#[z,N,A,O],m,r,ob,e,c]:=x;exact#[#[z,N,k _ _ (.inl rfl) A,O],m,r,ob,k _ _ (.inl rfl) e,c]
 | dK B=>let#[z,y,vs,r,ob,j,l,e,c]:=x;exact#[z,y,vs,r,ob,j,l,k _ _ (.inl rfl) e,c]
 | dT B=>
  let#[z,y,xs,r,ob,j,l,e,c]:=x;exact#[z,y,xs,Ez.mapP r λp q z=>#[z.1,L _ _ z.2.1,z.2.2],ob,j,l,k _ _ (.inl rfl) e,c]
 | set S n=>let#[ob,j,l,t,e,c]:=x;exact#[ob,j,l,t,k _ _ (.inl rfl) e,c]
 | ins C R fs=>
  let#[d,z,ne,e,E,#[G,j,l,A,c],r]:=x;exact#[J _ d,z,ne,k _ _ (.inl rfl) e,E,#[G,j,l,k _ _ (.inr d) A,c],r]
 | own y=>let#[ob,e]:=x;exact#[ob,k _ _ (.inl rfl) e]
 | xd fs=>let#[E,#[G,j,l,e,c],r]:=x;exact#[E,#[G,j,l,k _ _ (.inl rfl) e,c],r]
 | rng lo T=>let#[t,u,v,e]:=x;exact#[t,u,v,k _ _ (.inl rfl) e]
 | frz ob u Q=>let#[e,q]:=x;exact#[k _ _ (.inl rfl) e,Q q]
 | tbl I=>
  let e:h.get? a=some { cls:=.none,data:=.fields I }:=x;show h'.get? a=some { cls:=.none,data:=.fields I };exact k a _ (.inl rfl) e
 | met f y=>
  let e:h.get? a=!Mh (.ref f) (.ref y):=x;show h'.get? a=!Mh (.ref f) (.ref y);exact k a _ (.inl rfl) e
 | ext U=>let#[p,#[o,e],st]:=x;exact#[st _ _ p λo q=>k _ _ (.inl rfl) q,#[o,k _ _ (.inl rfl) e],st]
theorem HOk.lt(x:HOk P w H h)(e:H a=!o):a < h.objs.size:=(x a o e).lt
theorem HOk.fresh(x:HOk P w H h)(e:h.objs.size<=a):H a=none:=by
 cases q:H a with
 | none=>rfl
 | some u=>exact zX (Ab (x.lt q) e) (Ev _)
theorem HOk.kept(x:HOk P w H h)(k:∀b u,h.get? b=!u->h'.get? b=!u):HOk P w H h':=λa o e=>
 (x a o e).stay (λb u G q=>k b u q) (λG q=>q) λG G q=>q
theorem HOk.laid(x:HOk P w H h)(k:∀b u,h.get? b=!u->h'.get? b=!u)(l:h.objs.size<=a)(new:CZ P w (upd H a o) h' a o):HOk P w (upd H a o) h':=λb u e=>by
 let j:=x.fresh l
 by_cases hb:b=a
 ·subst hb;rw[Ap]at e;ext
 ·rw[AQ hb]at e
  exact(x b u e).stay (λc v G q=>k c v q) (λc q=>by rw[AQ (ED q j)];exact q) λc m q=>by rw[AQ (ED q j)];exact q
end
def Rd(H:Hp)(a:AL)(u:HO):Prop:=H a=!u∨∃o,H a=!.frz o u
theorem Rd.ok(r:Rd H a u)(x:HOk P w H h):CZ P w H h a u:=by
 rcases r with r | ⟨o,r⟩
 ·exact x a u r
 ·let#[_,q]:=x a _ r
  exact q
def Mut:⇑HO->Prop
 | some (.lst _)=>True
 | some (.dK _)=>True
 | some (.dT _)=>True
 | some (.set _ _)=>True
 | some (.ins _ _ _)=>True
 | some (.ext _)=>True
 | _=>False
section
variable{P:Ao}{w:A3}{H:Hp}{h h':BG}{x e:AL}
theorem HOk.write(ok:HOk P w H h)(j:Mut (H x))(o:e=x∨H e=!.own x)(k:∀b u,b≠e->h.get? b=!u->h'.get? b=!u)(A:∃u,h'.get? e=!u)
  (new:CZ P w (upd H x o') h' x o'):HOk P w (upd H x o') h':=λb u q=>by
 let B:∀c y,H c=!.own y->c≠x:=λc y r z=>by subst z;rw[r]at j;exact j
 let C:∀c l,H c=!.tup l->c≠x:=λc l r z=>by subst z;rw[r]at j;exact j
 by_cases hb:b=x
 ·subst hb;rw[Ap]at q;ext
 ·rw[AQ hb]at q
  by_cases E:b=e
  ·let m:H b=!.own x:=by
    rcases o with z | z
    ·ext
    ·ext
   rw[q]at m;cases m;let#[v,G]:=A;exact#[v,by ext]
  ·refine(ok b u q).stay (λc v I r=>k c v ?_ r) (λc r=>by rw[AQ (B c b r)];exact r) λc l r=>by rw[AQ (C c l r)];exact r
   grind
end
structure Un(fs ex:¬AL)(H H':Hp)(h h':BG):Prop where
 keep:∀b o,h.get? b=!o->H b=none->b∉fs->b∉ex->h'.get? b=!o
 slot:∀b o,h.get? b=!o->H b=none->b∈fs->b∉ex->∃sl,h'.get? b=some { o with slots:=sl }
 free:∀b o,h.get? b=!o->H b=none->b∉ex->H' b=none
 there:∀b o,h.get? b=!o->b∉ex->∃o',h'.get? b=!o'
 tups:∀b xs,H b=!.tup xs->H' b=!.tup xs
 frzs:∀b o u,H b=!.frz o u->H' b=!.frz o u
 tbls:∀b ps,H b=!.tbl ps->∃more,H' b=!.tbl (ps++more)
section
variable{fs ex:¬AL}{H H1 H2:Hp}{h h1 h2 h':BG}{a x e:AL}{o:HO}
theorem Un.any(u:Un fs ex H H1 h h1)(q:h.get? b=!ob)(n:H b=none)(j:b∉ex):∃l,h1.get? b=some { ob with slots:=l }:=by
 by_cases hb:b∈fs
 ·exact u.slot b ob q n hb j
 ·exact#[ob.slots,u.keep b ob q n hb j]
theorem Un.trans(a:Un fs ex H H1 h h1)(b:Un fs ex H1 H2 h1 h2):Un fs ex H H2 h h2 where
 keep:=λc ob q n m j=>b.keep c ob (a.keep c ob q n m j) (a.free c ob q n j) m j
 slot:=λc ob q n m j=>by
  let#[E,l]:=a.slot c ob q n m j;let#[G,B]:=b.slot c _ l (a.free c ob q n j) m j
  grind
 free:=λc ob q n j=>by
  let#[A,l]:=a.there c ob q j;exact b.free c A l (a.free c ob q n j) j
 there:=λc ob q j=>by
  let#[A,l]:=a.there c ob q j;exact b.there c A l j
 tups:=λc w q=>b.tups c w (a.tups c w q)
 frzs:=λc ob w q=>b.frzs c ob w (a.frzs c ob w q)
 tbls:=λc C q=>by
  let#[I,l]:=a.tbls c C q;let#[J,B]:=b.tbls c _ l
  grind
theorem Un.kept(k:∀b u,h.get? b=!u->h'.get? b=!u):Un fs ex H H h h':=
 #[λb ob q G G G=>k b ob q,λb ob q G G G=>#[ob.slots,k b ob q],λG G G n G=>n,λb ob q G=>#[ob,k b ob q],λG G q=>q,λG G G q=>q,λG j q=>#[#[],by rw[q];simp]]
theorem Un.refl:Un fs ex H H h h:=Un.kept λG G q=>q
theorem Un.laid(k:∀b u,h.get? b=!u->h'.get? b=!u)(l:h.objs.size<=a)(j:H a=none):Un fs ex H (upd H a o) h h' where
 keep:=λb u q G G G=>k b u q
 slot:=λb u q G G G=>#[u.slots,k b u q]
 free:=λb u q n G=>by rw[AQ (Ar (Ab (AX q) l))];exact n
 there:=λb u q G=>#[u,k b u q]
 tups:=λb m q=>by rw[AQ (ED q j)];exact q
 frzs:=λb u m q=>by rw[AQ (ED q j)];exact q
 tbls:=λb w q=>#[#[],by rw[AQ (ED q j),q];simp]
theorem Un.write(j:Mut (H x))(w:e=x∨H e=!.own x)(k:∀b u,b≠e->h.get? b=!u->h'.get? b=!u)(C:∃u,h'.get? e=!u):Un fs ex H (upd H x o) h h':=by
 let m:∀b,H b=none->b≠x:=λb n z=>by subst z;rw[n]at j;exact j
 let hb:∀b,H b=none->b≠e:=λb n z=>by
  subst z
  rcases w with r | r
  ·exact m b n r
  ·rw[n]at r;cases r
 let l:∀b u,H b=!u->Not (Mut (!u))->b≠x:=λb u q A z=>by subst z;rw[q]at j;exact A j
 refine#[λb u q n G G=>k b u (hb b n) q,λb u q n G G=>#[u.slots,k b u (hb b n) q],λb u q n G=>by rw[AQ (m b n)];exact n,λb u q G=>?_,
  λb B q=>by rw[AQ (l b _ q λz=>z)];exact q,λb u B q=>by rw[AQ (l b _ q λz=>z)];exact q,λb E q=>#[#[],by rw[AQ (l b _ q λz=>z),q];simp]]
 grind
end
def trk(h:BG)(H:Hp):¬AL:=(A0 h.objs.size).filter λa=>(H a).isSome
def Ti(h:BG)(H:Hp):BG:=PySem.W.hideAll h (trk h H)
theorem ZY(h:BG)(H:Hp):(Ti h H).objs.size=h.objs.size:=PySem.W.hideAll_size _ _
theorem dR(e:h.get? b=!o)(n:H b=none):(Ti h H).get? b=!o:=
 PySem.W.hideAll_get _ e λj=>by
  let q:(H b).isSome:=(BA.mp j).2
  ext
theorem io(e:(Ti h H).get? b=!o):h.get? b=!o/\H b=none:=by
 let j:h.get? b=!o:=PySem.W.of_hideAll (trk h H) e;refine#[j,?_]
 cases q:H b with
 | none=>rfl
 | some x=>
  let l:b∈trk h H:=BA.mpr #[CG.mpr (AX j),by simp[q]];let z:(Ti h H).get? b=none:=PySem.W.hideAll_none (trk h H) l
  ext
structure Mod(K:AB)(mg:Str->⇑AE)(base:BG):Prop where
 kin:K.In base
 glob:base.Ns BD mg
 blt:∃mb,base.Ns Vv mb/\∀x:Str,x≠"__name__"->mb x=ES x
 nolimit:base.NoLimit
structure Cx where
 prog:Ao
 w:A3
 K:AB
 mg:Str->⇑AE
 base:BG
 A:BR
 N:¬Str
 s₀:AK
 H₀:Hp
 env:Env
 outer:¬Env
 stack:¬Env
 ex:¬AL
 fn:Str->Bool
 calm:Bool
 pn:¬(AL×Obj)
 xe:AE->AK->Prop
def frs(l:¬Env):¬AL:=l.filterMap (·.frame)
abbrev Cx.fs(X:Cx):¬AL:=frs X.outer
def Vis(j:LW)(x:Str):Prop:=j.names.lookup x=!.local∨j.names.lookup x=!.cell∨j.names.lookup x=!.free
def Loc(j:LW)(x:Str):Prop:=j.names.lookup x=!.local∨j.names.lookup x=!.cell
def Look(j:Env)(h:BG)(m:Str->⇑AE)(x:Str)(u:AE):Prop:=
 (j.kindOf x=!.local/\m x=!u)∨((j.kindOf x=!.cell∨j.kindOf x=!.free)/\∃c,j.cells.lookup x=!c/\h.IsCell c (!u))
structure Cx.Ok(X:Cx):Prop where
 mod:Mod X.K X.mg X.base
 kind:X.env.scope.kind=.function
 glob:X.env.globals=BD
 blt:X.env.builtins=Vv
 above:X.s₀.heap.objs.size<=X.env.locals
 inj:∀x y c,X.env.cells.lookup x=!c->X.env.cells.lookup y=!c->x=y
 has:∀x,(X.env.kindOf x=!.cell∨X.env.kindOf x=!.free)->∃c,X.env.cells.lookup x=!c
 cab:∀x c,X.fn x->X.env.cells.lookup x=!c->X.s₀.heap.objs.size<=c
 hd:X.calm->X.A.handled=none
 frames:X.A.frames=!X.stack
 stk:X.stack=X.outer∨(X.stack=X.env :: X.outer/\X.env.frame=!X.env.locals)
 exf:∀b∈X.ex,b≠X.env.locals/\∀x c,X.env.cells.lookup x=!c->c≠b
 bs:∀b o,X.base.get? b=!o->X.s₀.heap.get? b=!o/\X.H₀ b=none
 bsz:X.base.objs.size<=X.s₀.heap.objs.size
 noex:∀b o,X.base.get? b=!o->b∉X.ex
 exfs:∀b∈X.ex,b∉X.fs
 funs:X.s₀.heap.FunFrames X.base X.outer
 frf:∀b∈X.fs,X.H₀ b=none
structure Inv(X:Cx)(ζ:¬(AL×Obj))(σ:¬⇑V)(H:Hp)(s:AK):Prop where
 ok:X.Ok
 os:s.os=X.s₀.os
 bare:JM s.gens
 base:Un X.fs X.ex X.H₀ H X.s₀.heap s.heap
 loc:∃m,s.heap.Ns X.env.locals m/\∀(i:Nat) (x:Str) (v:V),X.N[i]?=!x->σ[i]?=!(!v)->Vis X.env.scope x->∃u,RelV v u/\Look X.env s.heap m x u
 cell:∀x c,X.env.cells.lookup x=!c->∃v,s.heap.IsCell c v
 free:H X.env.locals=none
 freeC:∀x c,X.env.cells.lookup x=!c->H c=none
 pin:∀p∈X.pn++ζ,s.heap.get? p.1=!p.2/\H p.1=none/\p.1≠X.env.locals/\p.1∉X.fs/\∀v,p.2.data≠.cell v
 hok:HOk X.prog X.w H s.heap
 len:-σ=-X.N
section
variable{X:Cx}{ζ:¬(AL×Obj)}{σ:¬⇑V}{H H':Hp}{s:AK}{h':BG}
theorem Cx.Ok.nofr(ok:X.Ok)(e:X.base.get? b=!o):b∉X.fs:=λhb=>by
 let:=(ok.funs.mem hb).1
 ext
theorem Inv.bs(I:Inv X ζ σ H s):∀b o,X.base.get? b=!o->s.heap.get? b=!o/\H b=none:=λb o e=>
 #[I.base.keep b o (I.ok.bs b o e).1 (I.ok.bs b o e).2 (I.ok.nofr e) (I.ok.noex b o e),I.base.free b o (I.ok.bs b o e).1 (I.ok.bs b o e).2 (I.ok.noex b o e)]
theorem Inv.bk(I:Inv X ζ σ H s):∀b o,X.base.get? b=!o->s.heap.get? b=!o:=λb o e=>(I.bs b o e).1
theorem Inv.mod(I:Inv X ζ σ H s):Mod X.K X.mg X.base:=I.ok.mod
theorem Inv.kIn(I:Inv X ζ σ H s):X.K.In s.heap:=I.ok.mod.kin.keeps I.bk
theorem Inv.lt(I:Inv X ζ σ H s):X.env.locals < s.heap.objs.size:=let #[_,j,_]:=I.loc;j.lt
theorem Inv.sz(I:Inv X ζ σ H s):X.s₀.heap.objs.size<=s.heap.objs.size:=A5 I.ok.above (KP I.lt)
theorem Inv.nofs(I:Inv X ζ σ H s)(h:s.heap.objs.size<=a):a∉X.fs:=λhb=>by
 let#[_,o,j,_]:=I.ok.funs.mem hb;exact zX (Ab (AX j) (A5 I.sz h)) (Ev _)
theorem Inv.cne(I:Inv X ζ σ H s):∀x c,X.env.cells.lookup x=!c->c≠X.env.locals:=λx c e z=>by
 let#[v,o,l,w]:=I.cell x c e;let#[m,#[A,B,C,E,j,_],_]:=I.loc
 ext
theorem Inv.funs(I:Inv X ζ σ H s):s.heap.FunFrames X.base X.outer:=by
 let all:∀(l:¬Env),(∀b∈frs l,b∈X.fs)->X.s₀.heap.FunFrames X.base l->s.heap.FunFrames X.base l:=by
  intro l
  induction l with
  | nil=>intro _ _;trivial
  | cons A r B=>
   intro m C;let#[E,#[L,o,w,G,J,N],O]:=C;let j:L∈X.fs:=m L (by unfold frs;ext)
   let#[P,e]:=I.base.slot L o J (I.ok.frf L j) j λz=>I.ok.exfs L z j
   exact#[E,#[L,_,w,G,e,N],B (λb hb=>m b (by unfold frs;rw[Ho,w];exact AN _ hb)) O]
 exact all X.outer (λM hb=>hb) I.ok.funs
theorem Inv.stack(I:Inv X ζ σ H s):s.heap.FunFrames X.base X.stack:=by
 rcases I.ok.stk with e | ⟨e,j⟩
 ·rw[e];exact I.funs
 ·rw[e]
  let#[m,l,_]:=I.loc;refine .cons (by rw[I.ok.kind];decide) j l ?_ I.funs;exact BG.get?_none_of_le (A5 I.ok.bsz I.ok.above)
theorem Inv.stkSub(I:Inv X ζ σ H s):∀b∈frs X.stack,b∈X.env.locals :: X.fs:=λb hb=>by
 rcases I.ok.stk with e | ⟨e,j⟩
 ·ext
 ·rw[e]at hb
  unfold frs at hb;rw[Ho,j]at hb;exact hb
theorem Inv.stkFree(I:Inv X ζ σ H s):∀b∈frs X.stack,H b=none:=λb hb=>by
 rcases Ak.mp (I.stkSub b hb)with e | hb
 ·rw[e];exact I.free
 ·let#[_,o,j,_]:=I.ok.funs.mem hb
  exact I.base.free b o j (I.ok.frf b hb) λz=>I.ok.exfs b z hb
theorem Inv.step{g':Array fN}{t':Nat}{d':Drawn}{ch:¬AL}(I:Inv X ζ σ H s)
  (E:∀b∈ch,(b∈X.ex∨X.s₀.heap.objs.size<=b)/\b≠X.env.locals/\(∀x c,X.env.cells.lookup x=!c->c≠b)/\∀p∈X.pn++ζ,p.1≠b)
  (keep:∀b o,b≠X.env.locals->b∉X.fs->b∉ch->s.heap.get? b=!o->H b=none->h'.get? b=!o)
  (slot:∀b o,b≠X.env.locals->b∈X.fs->b∉ch->s.heap.get? b=!o->H b=none->∃Q,h'.get? b=some { o with slots:=Q }) (free:∀b o,b∉ch->s.heap.get? b=!o->H b=none->H' b=none)
  (there:∀b o,b∉ch->s.heap.get? b=!o->∃o',h'.get? b=!o')
  (G:∀b xs,H b=!.tup xs->H' b=!.tup xs) (J:∀b o u,H b=!.frz o u->H' b=!.frz o u) (U:∀b O,H b=!.tbl O->∃more,H' b=!.tbl (O++more))
  (ns:∀m,s.heap.Ns X.env.locals m->h'.Ns X.env.locals m) (R:HOk X.prog X.w H' h') (hg:JM g') :
  Inv X ζ σ H' { s with heap:=h',gens:=g',drawn:=d',toks:=t' }:=by
 let L:∀b o,X.s₀.heap.get? b=!o->b≠X.env.locals:=λb o e=>Ar (Ab (AX e) I.ok.above)
 let P:∀b o,X.s₀.heap.get? b=!o->b∉X.ex->b∉ch:=λb o e j hb=>by
  rcases(E b hb).1 with z | z
  ·exact j z
  ·exact zX (Ab (AX e) z) (Ev _)
 let A:∀x c,X.env.cells.lookup x=!c->∀v,s.heap.IsCell c v->h'.IsCell c v:=by
  rintro x c e v ⟨o,C,S⟩
  let N:c∉ch:=λz=>(E c z).2.2.1 x c e rfl
  by_cases Y:c∈X.fs
  ·let#[Q,q]:=slot c o (I.cne x c e) Y N C (I.freeC x c e)
   exact#[_,q,S]
  ·exact#[o,keep c o (I.cne x c e) Y N C (I.freeC x c e),S]
 refine#[I.ok,I.os,hg,#[λb o e n hb j=>?_,λb o e n hb j=>?_,λb o e n j=>?_,λb o e j=>?_,λb xs e=>G b xs (I.base.tups b xs e),λb o xs e=>J b o xs (I.base.frzs b o xs e),λb O e=>?_],?_,λx c e=>?_,?_,λx c e=>?_,λp Z=>?_,R,I.len]
 ·exact keep b o (L b o e) hb (P b o e j) (I.base.keep b o e n hb j) (I.base.free b o e n j)
 ·let#[Q,B]:=I.base.slot b o e n hb j
  let#[yh,T]:=slot b _ (L b o e) hb (P b o e j) B (I.base.free b o e n j);exact#[yh,T]
 ·let#[o',B]:=I.base.there b o e j
  exact free b o' (P b o e j) B (I.base.free b o e n j)
 ·let#[o',B]:=I.base.there b o e j
  exact there b o' (P b o e j) B
 ·let#[m1,B]:=I.base.tbls b O e
  grind
 ·let#[m,hn,hl]:=I.loc
  refine#[m,ns m hn,λi x v B T e3=>?_];let#[u,r,l]:=hl i x v B T e3;refine#[u,r,?_]
  rcases l with l | ⟨k,c,e,z⟩
  ·exact .inl l
  ·exact .inr #[k,c,e,A x c e _ z]
 ·let#[v,z]:=I.cell x c e
  exact#[v,A x c e v z]
 ·let#[m,#[o,_,_,C,_],_]:=I.loc
  exact free _ o (λz=>(E _ z).2.1 rfl) C I.free
 ·let#[v,o,C,S]:=I.cell x c e
  exact free c o (λz=>(E c z).2.2.1 x c e rfl) C (I.freeC x c e)
 ·let#[e,n,ne,nf,d]:=I.pin p Z
  let N:p.1∉ch:=λz=>(E p.1 z).2.2.2 p Z rfl
  exact#[keep p.1 p.2 ne nf N e n,free p.1 p.2 N e n,ne,nf,d]
theorem Inv.un{t':Nat}(I:Inv X ζ σ H s)(u:Un X.fs [] H H' s.heap h')(j:HOk X.prog X.w H' h'):Inv X ζ σ H' { s with heap:=h',toks:=t' }:=by
 let#[m,#[o,L,N,A,r],_]:=id I.loc;let#[O,C]:=u.any A I.free ∅
 exact I.step (g':=s.gens) (d':=s.drawn) (ch:=[]) (λM z=>nomatch z) (λb o M hb M e n=>u.keep b o e n hb (by omega)) (λb o M hb M e n=>u.slot b o e n hb ∅) (λb o M e n=>u.free b o e n ∅) (λb o M e=>u.there b o e ∅) u.tups u.frzs u.tbls (λP E=>by
  let#[Q,l,G,B,J]:=E;rw[A]at B;cases B
  exact#[_,l,G,C,J]) j I.bare
theorem Inv.call{g':Array fN}{t':Nat}{d':Drawn}{ch:¬AL}(I:Inv X ζ σ H s)(u:Un (frs X.stack) ch H H' s.heap h')(l:HOk X.prog X.w H' h')(J:JM g')
  (C:∀b∈ch,(b∈X.ex∨X.s₀.heap.objs.size<=b)/\b≠X.env.locals/\(∀x c,X.env.cells.lookup x=!c->c≠b)/\∀p∈X.pn++ζ,p.1≠b) :
  Inv X ζ σ H' { s with heap:=h',gens:=g',drawn:=d',toks:=t' }:=by
 let#[m,#[o,P,Q,E,r],_]:=id I.loc
 let#[R,A]:=u.any E I.free λz=>(C _ z).2.1 rfl
 exact I.step (ch:=ch) C (λb o A hb j e n=>u.keep b o e n (λz=>(Ak.mp (I.stkSub b z)).elim A hb) j) (λb o M M j e n=>u.any e n j) (λb o j e n=>u.free b o e n j) (λb o j e=>u.there b o e j) u.tups u.frzs u.tbls (λS L=>by
  let#[T,B,N,G,O]:=L;rw[E]at G;cases G
  exact#[_,B,N,A,O]) l J
theorem Inv.turned{t':Nat}{it:AL}(I:Inv X ζ σ H s)(k:∀b o,b≠it->s.heap.get? b=!o->h'.get? b=!o)(N:H it=none)(l:it≠X.env.locals)
  (w:it∈X.ex∨X.s₀.heap.objs.size<=it) (A:∀x c,X.env.cells.lookup x=!c->c≠it) (B:∀p∈X.pn++ζ,p.1≠it):Inv X ζ σ H { s with heap:=h',toks:=t' }:=by
 let C:∀b u,H b=!u->b≠it:=λb u e z=>by ext
 refine I.step (g':=s.gens) (d':=s.drawn) (ch:=[it]) (λb hb=>?_) (λb o M M j e M=>k b o (λz=>j (by simp[z])) e) (λb o M M j e M=>#[o.slots,k b o (λz=>j (by simp[z])) e]) (λM M M M n=>n)
  (λb o j e=>#[o,k b o (λz=>j (by simp[z])) e]) (λM M e=>e) (λM M M e=>e) (λb O e=>#[#[],by rw[e];simp]) (λm E=>?_) (λb u e=>?_) I.bare
 ·let e:b=it:=by simpa using hb
  subst e;exact#[w,l,A,B]
 ·let#[o,G,J,L,r]:=E
  exact#[o,G,J,k _ o (CU l) L,r]
 ·refine(I.hok b u e).stay (λc v j q=>k c v ?_ q) (λM q=>q) λM M q=>q
  lia
theorem Inv.tok(I:Inv X ζ σ H s)(t:Nat):Inv X ζ σ H { s with toks:=t }:=I.un (h':=s.heap) (t':=t) Un.refl I.hok
theorem Inv.kept(I:Inv X ζ σ H s)(k:∀b u,s.heap.get? b=!u->h'.get? b=!u):Inv X ζ σ H { s with heap:=h',toks:=t' }:=I.un (Un.kept k) (I.hok.kept k)
theorem Inv.laid(I:Inv X ζ σ H s)(k:∀b u,s.heap.get? b=!u->h'.get? b=!u)(j:s.heap.objs.size<=a)(new:CZ X.prog X.w (upd H a o) h' a o) :
  Inv X ζ σ (upd H a o) { s with heap:=h',toks:=t' }:=I.un (Un.laid k j (I.hok.fresh j)) (I.hok.laid k j new)
theorem Inv.write(I:Inv X ζ σ H s)(j:Mut (H x))(l:e=x∨H e=!.own x)(k:∀b u,b≠e->s.heap.get? b=!u->h'.get? b=!u)(m:∃u,h'.get? e=!u)
  (new:CZ X.prog X.w (upd H x o) h' x o):Inv X ζ σ (upd H x o) { s with heap:=h',toks:=t' }:=I.un (Un.write j l k m) (I.hok.write j l k m new)
theorem Inv.pins_of(I:Inv X ζ σ H s)(h:∀p∈pins',s.heap.get? p.1=!p.2/\H p.1=none/\p.1≠X.env.locals/\p.1∉X.fs/\∀v,p.2.data≠.cell v):Inv X pins' σ H s:=
 #[I.ok,I.os,I.bare,I.base,I.loc,I.cell,I.free,I.freeC,λp j=>(Aj.mp j).elim (λz=>I.pin p (CS _ z)) (h p),I.hok,I.len]
theorem U2{N:¬Str}(l:N.Nodup){i j:Nat}{x:Str}(a:N[i]?=!x)(b:N[j]?=!x):i=j:=by
 let#[w,m]:=AI.mp a;let#[A,o]:=AI.mp b;exact(J4 l).mp (m.trans o.symm)
abbrev _root_.zFn(X:L2.Cx)(x:Str):Prop:=X.fn x=true∨X.env.scope.names.lookup x=!.local
theorem Ry{M:V3}{A:BR}{E:AE->AK->Prop}{i:Nat}{x:Str}{v:V}{u:AE}{Q:Unit->AK->Prop}(I:Inv X ζ σ H s)(hN:X.N.Nodup)(hi:X.N[i]?=!x)(G:Loc X.env.scope x)(r:RelV v u)
  (h:∀s',Inv X ζ (σ.set i (!v)) H s'->(∃a,DV a s.heap s'.heap/\(a=X.env.locals∨X.env.cells.lookup x=!a))->Q () s') (hf:autoParam (zFn X x) yq3q):AW M A (pM X.env x u) Q E s:=by
 let#[m,T,hl]:=id I.loc
 let L':(X.env.scope.kind==.class||(X.env.scope.kind==.module&&X.env.locals != X.env.globals))=false:=by rw[I.ok.kind];rfl
 let O:i < -σ:=by rw[I.len];exact(AI.mp hi).1
 let cne:=I.cne
 let B:∀{a:AL} {h':BG},(∃o,s.heap.get? a=!o/\H a=none)->DV a s.heap h'->HOk X.prog X.w H h':=λ{a h'} ha l b ob e=>by
  let#[_,_,yj]:=ha
  refine(I.hok b ob e).stay (λc U J q=>(l.2 c ?_).trans q) (λ_ q=>q) λ_ _ q=>q
  lia
 rcases G with R | R
 ·refine wpAny_storeName_local R T (λh' vS l=>?_) L'
  let#[oL,_,_,Y,_]:=id T;refine h _ #[I.ok,I.os,I.bare,#[λb o e n hb G=>?_,λb o e n hb G=>?_,I.base.free,λb o e G=>?_,I.base.tups,I.base.frzs,I.base.tbls],#[_,vS,λj y Z C L e3=>?_],λy c e=>?_,I.free,I.freeC,λp hp=>?_,B #[oL,Y,I.free] l,by simpa using I.len] #[_,l,.inl rfl]
  ·exact(l.2 b (Ar (Ab (AX e) I.ok.above))).trans (I.base.keep b o e n hb G)
  ·let#[sl,C]:=I.base.slot b o e n hb G
   exact#[sl,(l.2 b (Ar (Ab (AX e) I.ok.above))).trans C]
  ·let#[o',C]:=I.base.there b o e G
   exact#[o',(l.2 b (Ar (Ab (AX e) I.ok.above))).trans C]
  ·by_cases P:j=i
   ·subst P
    rw[hi]at C;cases C;rw[Ee O]at L;cases L;exact#[u,r,.inl #[R,by simp]]
   ·rw[C1 (CU P)]at L
    let#[u',r',q]:=hl j y Z C L e3;refine#[u',r',?_]
    rcases q with⟨k,e⟩ | ⟨k,c,e,z⟩
    ·refine .inl #[k,?_]
     let:y≠x:=λe=>P (U2 hN C (e▸hi))
     ext
    ·exact .inr #[k,c,e,z.sameBut l (cne y c e)]
  ·let#[U,z]:=I.cell y c e
   exact#[U,z.sameBut l (cne y c e)]
  ·let#[e,n,ne,nf,d]:=I.pin p hp
   exact#[(l.2 p.1 ne).trans e,n,ne,nf,d]
 ·let ME:X.fn x:=by
   rcases hf with z | z
   ·exact z
   ·ext
  let#[c,J]:=I.ok.has x (.inl R);let#[U,z]:=I.cell x c J;refine wpAny_storeName_cell I.ok.kind R J z (λh' tP l=>?_);let#[oc,hoc,hocd]:=id z;refine h { s with heap:=h' } #[I.ok,I.os,I.bare,#[λb o e n hb G=>?_,λb o e n hb G=>?_,I.base.free,λb o e G=>?_,I.base.tups,I.base.frzs,I.base.tbls],#[m,T.sameBut l (CU (cne x c J)),λj y Z C L e3=>?_],λy S e=>?_,I.free,I.freeC,λp hp=>?_,B #[oc,hoc,I.freeC x c J] l,by simpa using I.len] #[c,l,.inr J]
  ·exact(l.2 b (Ar (Ab (AX e) (I.ok.cab x c ME J)))).trans (I.base.keep b o e n hb G)
  ·let#[sl,C]:=I.base.slot b o e n hb G
   exact#[sl,(l.2 b (Ar (Ab (AX e) (I.ok.cab x c ME J)))).trans C]
  ·let#[o',C]:=I.base.there b o e G
   exact#[o',(l.2 b (Ar (Ab (AX e) (I.ok.cab x c ME J)))).trans C]
  ·by_cases P:j=i
   ·subst P
    rw[hi]at C;cases C;rw[Ee O]at L;cases L;exact#[u,r,.inr #[.inl R,c,J,tP]]
   ·rw[C1 (CU P)]at L
    let#[u',r',q]:=hl j y Z C L e3;refine#[u',r',?_]
    rcases q with q | ⟨k,S,e,z'⟩
    ·exact .inl q
    ·refine .inr #[k,S,e,z'.sameBut l ?_]
     rintro rfl;exact P (U2 hN C (I.ok.inj _ _ _ e J▸hi))
  ·by_cases hcc:S=c
   ·grind
   ·let#[w2,z2]:=I.cell y S e
    exact#[w2,z2.sameBut l hcc]
  ·let#[e,n,ne,nf,d]:=I.pin p hp
   refine#[(l.2 p.1 ?_).trans e,n,ne,nf,d]
   grind
theorem P1(I:Inv X ζ σ H s)(j:X.N.Nodup)(hi:X.N[i]?=!x)(l:Loc X.env.scope x)(r:RelV v u)
  (h:∀s',Inv X ζ (σ.set i (!v)) H s'->Q () s') (m:autoParam (zFn X x) yq3q):AW M A (pM X.env x u) Q E s:=
 Ry I j hi l r (λs' o G=>h s' o) m
theorem Inv.call'(I:Inv X ζ σ H s)(l:s'.os=s.os)(u:Un (frs X.stack) ch H H' s.heap s'.heap)(j:HOk X.prog X.w H' s'.heap)(m:JM s'.gens)
  (o:∀b∈ch,(b∈X.ex∨X.s₀.heap.objs.size<=b)/\b≠X.env.locals/\(∀x c,X.env.cells.lookup x=!c->c≠b)/\∀p∈X.pn++ζ,p.1≠b):Inv X ζ σ H' s':=by
 let#[h',g',d',t',A]:=s';let e:A=s.os:=l;subst e;exact I.call (g':=g') (t':=t') (d':=d') u j m o
end
abbrev XK:=AE->⇑AL->Hp->Prop
abbrev St:=¬⇑V
abbrev VK:=V->Hp->Prop
abbrev TE:=St->Hp->VK->Prop
abbrev TT:=St->Hp->(Bool->Hp->Prop)->Prop
abbrev TA:=St->Hp->(¬V->Hp->Prop)->Prop
structure eJ where
 nx:St->Hp->Prop
 rt:VK
 bk:St->Hp->Prop:=λG G=>False
 ct:St->Hp->Prop:=λG G=>False
abbrev TS:=eJ->St->Hp->Prop
def EP(X:Cx)(l:¬(AL×Obj))(m:St)(Q:VK)(u:AE)(s':AK):Prop:=∃v j,Inv X l m j s'/\RelV v u/\Q v j
def TP(X:Cx)(l:¬(AL×Obj))(m:St)(Q:Bool->Hp->Prop)(b:Bool)(s':AK):Prop:=∃j,Inv X l m j s'/\Q b j
def AP(X:Cx)(l:¬(AL×Obj))(m:St)(Q:¬V->Hp->Prop)(us:¬AE)(s':AK):Prop:=∃vs j,Inv X l m j s'/\Bl vs us/\Q vs j
def SP(X:Cx)(m:¬(AL×Obj))(D:eJ)(f:Flow)(s':AK):Prop:=
 match f with
 | .next=>∃j l,Inv X m j l s'/\D.nx j l
 | .brk=>∃j l,Inv X m j l s'/\D.bk j l
 | .cont=>∃j l,Inv X m j l s'/\D.ct j l
 | .ret u=>∃v j l,Inv X m j l s'/\RelV v u/\D.rt v l
def PE(X:Cx)(e:Expr)(t:TE):Prop:=
 ∀(l:¬(AL×Obj)) (s:AK) (j:St) (H:Hp) (Q:VK),Inv X l j H s->t j H Q->AW (AY X.prog X.w) X.A (A2 e X.env) (EP X l j Q) X.xe s
def PT(X:Cx)(e:Expr)(t:TT):Prop:=
 ∀(l:¬(AL×Obj)) (s:AK) (j:St) (H:Hp) (Q:Bool->Hp->Prop),Inv X l j H s->t j H Q->AW (AY X.prog X.w) X.A (KN e X.env (A2 e X.env)) (TP X l j Q) X.xe s
def PW(X:Cx)(e:Expr)(t:TT):Prop:=
 ∀(j:Sem AE) (m:¬(AL×Obj)) (s:AK) (l:St) (H:Hp) (Q:Bool->Hp->Prop),Inv X m l H s->t l H Q->AW (AY X.prog X.w) X.A (KN e X.env j) (TP X m l Q) X.xe s
theorem PW.pt(h:PW X e t):PT X e t:=h _
def PA(X:Cx)(es:¬Expr)(t:TA):Prop:=
 ∀(j:Pos) (m:¬(AL×Obj)) (s:AK) (l:St) (H:Hp) (Q:¬V->Hp->Prop),Inv X m l H s->t l H Q->AW (AY X.prog X.w) X.A (spliced (Cv j (AG es X.env))) (AP X m l Q) X.xe s
def PS(X:Cx)(st:B5)(t:TS):Prop:=
 ∀(j:¬(AL×Obj)) (s:AK) (l:St) (H:Hp) (D:eJ),Inv X j l H s->t D l H->AW (AY X.prog X.w) X.A (exec st X.env) (SP X j D) X.xe s
def PSs(X:Cx)(st:¬B5)(t:TS):Prop:=
 ∀(j:¬(AL×Obj)) (s:AK) (l:St) (H:Hp) (D:eJ),Inv X j l H s->t D l H->AW (AY X.prog X.w) X.A (execs st X.env) (SP X j D) X.xe s
theorem thn{j:Type}{t:Sem j}{Q l:j->AK->Prop}{M:V3}{A:BR}{E:AE->AK->Prop}{s:AK}(h:AW M A t Q E s)(m:∀a s,Q a s->l a s):AW M A t l E s:=Da h m λG G x=>x
section
variable{X:Cx}
def DI(i:Nat):TE:=λj H Q=>∃v,j[i]?=!(!v)/\Q v H
def tC(v:V):TE:=λG H Q=>Q v H
theorem mT(B:X.N[i]?=!x)(C:Vis X.env.scope x)(o:↥((x==("__debug__" : Str))=false)) (E:↥((x==("__classdict__" : Str))=false)):PE X (.Name x pos) (DI i):=by
 intro G s J H Q I h;let#[v,e,h]:=h;let#[m,L,O]:=I.loc;let#[u,r,l]:=O i x v B e C;let fin:EP X G J Q u s:=#[v,H,I,r,h]
 rcases l with⟨j,P⟩ | ⟨j,c,w,A⟩
 ·exact ka (e8 I.ok.kind j L P fin) o
 ·rcases j with j | j
  ·exact ka (jZ I.ok.kind j w A fin) o
  ·exact ka (wpAny_loadName_free I.ok.kind j w A fin E) o
theorem mZ{i j pos}:PE X (.Constant (.int i) j pos) (tC (.int i)):=λG G G H G I h=>wpAny_Constant_int #[.int i,H,I.tok _,#[_,rfl],h]
theorem rA{b j pos}:PE X (.Constant (.bool b) j pos) (tC (.bl b)):=λG G G H G I h=>Constant_bool #[.bl b,H,I,rfl,h]
theorem mY{j pos}:PE X (.Constant .none j pos) (tC .non):=λG G G H G I h=>Constant_none #[.non,H,I,rfl,h]
theorem mU{x j pos}:PE X (.Constant (.str x) j pos) (tC (.str x)):=λG G G H G I h=>Calls.Constant_str #[.str x,H,I.tok _,#[_,rfl],h]
def Gl(X:Cx)(x:Str):Prop:=X.env.kindOf x=!.globalImplicit
theorem TY(I:Inv X o B H s)(j:Gl X x)(l:X.mg x=!u)(h:Q u s)
  (m:↥((x==("__debug__" : Str))=false)):AW (AY X.prog X.w) X.A (A2 (.Name x pos) X.env) Q E s:=
 RO I.ok.kind j (Calls.loadGlobal_global (by rw[I.ok.glob];exact I.mod.glob.keeps I.bk) l h) m
theorem IB(I:Inv X J L H s)(j:Gl X x)(l:X.mg x=none)(m:ES x=!u)(h:Q u s)
  (o:↥(x≠"__name__")) (B:↥((x==("__debug__" : Str))=false)):AW (AY X.prog X.w) X.A (A2 (.Name x pos) X.env) Q E s:=by
 let#[N,C,G]:=I.mod.blt;exact RO I.ok.kind j (Calls.loadGlobal_builtin (by rw[I.ok.glob];exact I.mod.glob.keeps I.bk) l (by rw[I.ok.blt];exact C.keeps I.bk) ((G x o).trans m) h) B
theorem ic(j:Gl X x)(l:X.mg x=!u)(r:RelV v u)(m:↥((x==("__debug__" : Str))=false)):PE X (.Name x pos) (tC v):=
 λG G G H G I h=>TY I j l #[v,H,I,r,h] m
theorem ig(j:Gl X x)(l:X.mg x=none)(m:ES x=!u)(r:RelV v u)(o:↥(x≠"__name__")) (w:↥((x==("__debug__" : Str))=false)):PE X (.Name x pos) (tC v):=
 λG G G H G I h=>IB I j l m #[v,H,I,r,h] o w
variable{a b:Expr}{ta tb:TE}{pos:Pos}
def PC(X:Cx)(op:UC)(a b:Expr)(t:TE):Prop:=
 ∀(o:¬(AL×Obj)) (s:AK) (m:St) (H:Hp) (Q:VK),Inv X o m H s->t m H Q ->
  AW (AY X.prog X.w) X.A (A2 a X.env) (λv j=>AW (AY X.prog X.w) X.A (A2 b X.env) (λu l=>AW (AY X.prog X.w) X.A (Bk op v u) (EP X o m Q) X.xe l) X.xe j) X.xe s
def tB(t:TE):TT:=λj H Q=>t j H λx l=>∃c,x=.bl c/\Q c l
theorem md(h:PC X op a b t)(j:autoParam (BV op b=false) yq11q):PE X (.Compare a [op] [b] pos) t:=λl s m H Q I hw=>wpAny_Compare1 (h l s m H Q I hw) j
theorem cC(h:PC X op a b t)(j:autoParam (BV op b=false) yq11q):PT X (.Compare a [op] [b] pos) (tB t):=by
 intro l s m H Q I hw;refine eR (thn (h l s m H _ I hw) λv E j=>thn j λu G o=>thn o ?_) j;rintro c J ⟨x,w,A,B,C⟩;let#[d,rfl,q]:=C;cases B;exact CP #[w,A,q]
variable{tA zq:TT}{rest:¬Expr}
def tAnd(t u:TT):TT:=λj H Q=>t j H λc l=>if c=true then u j l Q else Q false l
def tOr(t u:TT):TT:=λj H Q=>t j H λc l=>if c=true then Q true l else u j l Q
def tNot(t:TT):TT:=λj H Q=>t j H λc l=>Q (not c) l
theorem X1(j:PT X a tA):PW X (.BoolOp .And [a] pos) tA:=by
 intro o l s m H Q I h;refine isTrue_and (thn (j l s m H Q I h) λc w e=>?_)
 cases c with
 | true=>exact isTrue_and_nil e
 | false=>exact e
theorem mI(j:PT X a tA):PW X (.BoolOp .Or [a] pos) tA:=by
 intro o l s m H Q I h;refine isTrue_or (thn (j l s m H Q I h) λc w e=>?_)
 cases c with
 | false=>exact isTrue_or_nil e
 | true=>exact e
theorem TD(m:PT X a tA)(hb:PW X (.BoolOp .And (b :: rest) pos) zq):PW X (.BoolOp .And (a :: b :: rest) pos) (tAnd tA zq):=by
 intro o j s l H Q I h;refine isTrue_and (thn (m j s l H _ I h) λc w #[A,B,C]=>?_)
 cases c with
 | true=>exact hb o j w l A Q B C
 | false=>assumption
theorem j9(m:PT X a tA)(hb:PW X (.BoolOp .Or (b :: rest) pos) zq):PW X (.BoolOp .Or (a :: b :: rest) pos) (tOr tA zq):=by
 intro o j s l H Q I h;refine isTrue_or (thn (m j s l H _ I h) λc w #[A,B,C]=>?_)
 cases c with
 | true=>assumption
 | false=>exact hb o j w l A Q B C
theorem cB(j:PT X a tA):PT X (.UnaryOp .Not a pos) (tNot tA):=by
 intro l s m H Q I h;exact isTrue_not (j l s m H (λc o=>Q (not c) o) I h)
def qZ(ta tb:TE):TE:=λj H Q=>ta j H λx l=>∃c,x=.bl c/\if c=true then tb j l Q else Q (.bl false) l
def tOrV(ta tb:TE):TE:=λj H Q=>ta j H λx l=>∃c,x=.bl c/\if c=true then Q (.bl true) l else tb j l Q
def qM(ta:TE):TE:=λj H Q=>ta j H λx l=>∃c,x=.bl c/\Q (.bl (not c)) l
theorem mW{op}{t}(h:PE X a t):PE X (.BoolOp op [a] pos) t:=λj s l H Q I hw=>BoolOp_one (h j s l H Q I hw)
theorem cT(A:PE X a ta)(hb:PE X (.BoolOp .And (b :: rest) pos) tb):PE X (.BoolOp .And (a :: b :: rest) pos) (qZ ta tb):=by
 intro l s m H Q I h;refine BoolOp_and (thn (A l s m H _ I h) ?_);rintro v B ⟨x,o,w,C,j⟩;let#[c,rfl,j]:=j;cases C;refine CP ?_
 cases c with
 | true=>exact hb l B m o Q w j
 | false=>exact#[.bl false,o,w,rfl,j]
theorem kA(A:PE X a ta)(hb:PE X (.BoolOp .Or (b :: rest) pos) tb):PE X (.BoolOp .Or (a :: b :: rest) pos) (tOrV ta tb):=by
 intro l s m H Q I h;refine BoolOp_or (thn (A l s m H _ I h) ?_);rintro v B ⟨x,o,w,C,j⟩;let#[c,rfl,j]:=j;cases C;refine CP ?_
 cases c with
 | false=>exact hb l B m o Q w j
 | true=>exact#[.bl true,o,w,rfl,j]
theorem mX(l:PE X a ta):PE X (.UnaryOp .Not a pos) (qM ta):=by
 intro m s o H Q I h;refine UnaryOp_ (thn (l m s o H _ I h) λv C #[x,w,A,B,j]=>?_);let#[c,rfl,j]:=j;cases B;exact not_of (CP #[.bl (not c),w,A,rfl,j])
def tIf(t:TT)(ta tb:TE):TE:=λj H Q=>t j H λc l=>if c=true then ta j l Q else tb j l Q
theorem Ux(B:PT X c tA)(C:PE X a ta)(hb:PE X b tb):PE X (.IfExp c a b pos) (tIf tA ta tb):=by
 intro j s l H Q I h;refine wpAny_IfExp (thn (B j s l H _ I h) ?_);rintro d m ⟨o,w,A⟩
 cases d with
 | true=>exact C j m l o Q w A
 | false=>exact hb j m l o Q w A
end
def SqL(K:AB)(H:Hp)(a:AL)(xs:¬V):Prop:=
 Rd H a (.lst xs) ∨
  ∃(o:Obj) (j:Array AE) (n:Nat),K.lookup a=!o/\o.cls=.type "list"/\o.dict=none/\o.data=.seq j n/\j.size<=sizeLine/\Bl xs j.toList
def SqT(K:AB)(H:Hp)(a:AL)(xs:¬V):Prop:=
 Rd H a (.tup xs) ∨
  ∃(o:Obj) (j:Array AE) (n:Nat),K.lookup a=!o/\o.cls=.type "tuple"/\o.data=.seq j n/\j.size<=sizeLine/\Bl xs j.toList
noncomputable def absV:AE->⇑V
 | .none=>!.non
 | .bool b=>!.bl b
 | .int i _=>!.int i
 | .str x _=>!.str x
 | .bytes b _=>!.byt b
 | .float b _=>!.flt b
 | .ref a=>!.ref a
 | .type n=>!.ty n
 | _=>none
theorem RelV.abs(r:RelV x u):absV u=!x:=by
 cases x with
 | non=>cases r;rfl
 | bl _=>cases r;rfl
 | int _=>let#[t,rfl]:=r;rfl
 | str _=>let#[t,rfl]:=r;rfl
 | byt _=>let#[t,rfl]:=r;rfl
 | flt _=>let#[t,rfl]:=r;rfl
 | ref _=>cases r;rfl
 | ty _=>cases r;rfl
theorem RelV.inj(r:RelV x u)(q:RelV y u):x=y:=Bw (r.abs.symm.trans q.abs)
theorem Bl.inj:∀{xs j:¬V} {us:¬AE},Bl xs us->Bl j us->xs=j
 | _,_,_,h,g=>by
  cases h with
  | nil=>cases g;rfl
  | cons r t=>
   cases g with
   | cons l m=>rw[r.inj l,Bl.inj t m]
section
variable{X:Cx}{ζ:¬(AL×Obj)}{σ:St}{H:Hp}{s:AK}{a:AL}{xs ys:¬V}
theorem Inv.list(I:Inv X ζ σ H s)(h:SqL X.K H a xs):∃j:¬AE,Bl xs j/\PlainL s.heap a j.toArray/\-xs<=sizeLine:=by
 rcases h with h | ⟨o,j,n,l,m,w,A,B,r⟩
 ·let#[z,j,n,r,e]:=h.ok I.hok
  exact#[j,r,#[_,n,e,rfl,rfl,rfl],z]
 ·refine#[j.toList,r,#[o,n,I.kIn a o l,m,w,by simpa using A],?_]
  let e:=-r;ext
theorem Inv.tuple(I:Inv X ζ σ H s)(h:SqT X.K H a xs):∃j:¬AE,Bl xs j/\fM s.heap a j.toArray/\-xs<=sizeLine:=by
 rcases h with h | ⟨o,j,n,l,m,w,A,r⟩
 ·let#[z,j,r,p]:=h.ok I.hok
  exact#[j,r,p,z.1]
 ·refine#[j.toList,r,#[o,I.kIn a o l,m,n,by simpa using w],?_]
  let e:=-r;ext
theorem Inv.list_inj(I:Inv X ζ σ H s)(h:SqL X.K H a xs)(h':SqL X.K H a ys):xs=ys:=by
 let#[m,r,#[o,n,e,_,_,d],_]:=I.list h;let#[its',w,#[A,B,j,_,_,l],_]:=I.list h';rw[e]at j;cases j;rw[d]at l
 injection l with d1 _
 let:m=its':=by simpa using congrArg UL d1
 subst this;exact r.inj w
theorem Inv.tuple_inj(I:Inv X ζ σ H s)(h:SqT X.K H a xs)(h':SqT X.K H a ys):xs=ys:=by
 let#[m,r,#[o,e,_,n,d],_]:=I.tuple h;let#[its',w,#[A,j,_,B,l],_]:=I.tuple h';rw[e]at j;cases j;rw[d]at l
 injection l with d1 _
 let:m=its':=by simpa using congrArg UL d1
 subst this;exact r.inj w
end
section
variable{X:Cx}{st:B5}{rest:¬B5}{t u:TS}{e:Expr}{te:TE}{pos:Pos}
def qO:TS:=λD j H=>D.nx j H
def tSeq(t u:TS):TS:=λD j H=>t { D with nx:=u D } j H
theorem iO:PSs X [] qO:=λG G j H G I h=>MX #[j,H,I,h]
theorem Ut(m:PS X st t)(o:PSs X rest u):PSs X (st :: rest) (tSeq t u):=by
 intro l s w H D I h;refine pK (thn (m l s w H { D with nx:=u D } I h) λf A q=>?_)
 cases f with
 | next=>
  let#[j,B,C,q]:=q;exact o l A j B D C q
 | ret v=>exact q
 | brk=>exact q
 | cont=>exact q
theorem iN(j:PS X st t):PSs X [st] t:=by
 intro l s m H D I h;refine pK (thn (j l s m H D I h) λf o q=>?_)
 cases f with
 | next=>exact MX q
 | ret v=>exact q
 | brk=>exact q
 | cont=>exact q
theorem Inv.quiet(I:Inv X j l H s):interactive X.env=false:=by simp[interactive,I.ok.kind]
def qS(te:TE):TS:=λD j H=>te j H λG l=>D.nx j l
theorem PM(l:PE X e te)(hs:↑(BX e none pos.line X.env=pure false)):PS X (.Expr e pos) (qS te):=by
 intro m s j H D I h;exact wpAny_Expr_any (thn (l m s j H _ I h) (by rintro v B ⟨x,o,w,C,A⟩;exact #[j,o,w,A])) I.quiet hs
def tRet(te:TE):TS:=λD j H=>te j H D.rt
theorem TH(l:PE X e te):PS X (.Return (!e) pos) (tRet te):=by
 intro m s j H D I h;exact wpAny_Return_some (thn (l m s j H _ I h) (by rintro v C ⟨x,o,w,A,B⟩;exact #[x,j,o,w,A,B]))
def tIfS(c:TT)(t u:TS):TS:=λD j H=>c j H λb l=>if b=true then t D j l else u D j l
theorem X2(B:PT X c tc)(C:PSs X a t)(hb:PSs X b u):PS X (.If c a b pos) (tIfS tc t u):=by
 intro j s l H D I h;refine wpAny_If (thn (B j s l H _ I h) ?_);rintro d m ⟨o,w,A⟩
 cases d with
 | true=>exact C j m l o D w A
 | false=>exact hb j m l o D w A
def lg:TS:=λG G G=>False
theorem JV:PSs X sts lg:=λG G G G G G h=>h.elim
end
abbrev TG:=V->St->Hp->(St->Hp->Prop)->Prop
abbrev TGs:=¬V->St->Hp->(St->Hp->Prop)->Prop
def PG(X:Cx)(B:Expr)(t:TG):Prop:=
 ∀(l:¬(AL×Obj)) (s:AK) (m:St) (H:Hp) (v:V) (u:AE) (Q:St->Hp->Prop),Inv X l m H s->RelV v u->t v m H Q ->
  AW (AY X.prog X.w) X.A (assign B X.env u) (λG C=>∃j o,Inv X l j o C/\Q j o) X.xe s
def PGs(X:Cx)(ts:¬Expr)(t:TGs):Prop:=
 ∀(l:¬(AL×Obj)) (s:AK) (m:St) (H:Hp) (vs:¬V) (o:¬AE) (Q:St->Hp->Prop),Inv X l m H s->Bl vs o->t vs m H Q ->
  AW (AY X.prog X.w) X.A (assignInOrder ((Jd ts X.env).map (·.2)) o) (λG C=>∃j B,Inv X l j B C/\Q j B) X.xe s
abbrev sG:=V->V->V->Hp->(Hp->Prop)->Prop
def sJ(X:Cx)(t:sG):Prop:=
 ∀(j:¬(AL×Obj)) (s:AK) (l:St) (H:Hp) (o i v:V) (m B u:AE) (Q:Hp->Prop),Inv X j l H s->RelV o m->RelV i B->RelV v u->t o i v H Q ->
  AW (AY X.prog X.w) X.A (aF m B u) (λG E=>∃C,Inv X j l C E/\Q C) X.xe s
abbrev TIp:=V->V->Hp->VK->Prop
def PIp(X:Cx)(op:Nd)(t:TIp):Prop:=
 ∀(j:¬(AL×Obj)) (s:AK) (l:St) (H:Hp) (x y:V) (v u:AE) (Q:VK),Inv X j l H s->RelV x v->RelV y u->t x y H Q ->
  AW (AY X.prog X.w) X.A (inplaceOp op v u) (EP X j l Q) X.xe s
section
variable{X:Cx}{pos:Pos}
def Ie(i:Nat):TG:=λv j H Q=>Q (j.set i (!v)) H
theorem iX(j:X.N.Nodup)(hi:X.N[i]?=!x)(l:Loc X.env.scope x)(m:autoParam (zFn X x) yq3q):PG X (.Name x pos) (Ie i):=by
 intro w s A H v u Q I r h;exact oi (P1 I j hi l r (λB o=>#[_,H,o,h]) m)
def oA:TGs:=λvs j H Q=>vs=[]/\Q j H
def VJ(t:TG)(u:TGs):TGs:=λvs l H Q=>∃v r,vs=v :: r/\t v l H λj m=>u r j m Q
theorem NI:PGs X [] oA:=by
 intro l s j H vs m Q I r h;let#[e,h]:=h;subst e;cases r;exact assignInOrder_nil #[j,H,I,h]
theorem Ff(m:PG X e t)(o:PGs X es u)
  (hs:↑((Jd (e :: es) X.env).map (·.2)=assign e X.env :: (Jd es X.env).map (·.2))):PGs X (e :: es) (VJ t u):=by
 intro l s w H vs L Q I r h;let#[v,vr,A,h]:=h;subst A
 cases r with
 | cons r B=>
  rw[hs];refine assignInOrder_cons (thn (m l s w H _ _ _ I r h) ?_);rintro _ C ⟨j,E,G,J⟩;exact o l C j E _ _ Q G B J
def n9(K:AB)(n:Nat)(t:TGs):TG:=λv l H Q=>∃a j,v=.ref a/\SqT K H a j/\-j=n/\t j l H Q
theorem QM(m:X.calm)(h:PGs X es t)
  (w:↑(-Jd es X.env=n)) (A:↑((Jd es X.env).findIdx? (·.1)=none)):PG X (.Tuple es k pos) (n9 X.K n t):=by
 intro j s l H v u Q I r hw;let#[a,B,C,E,G,hw]:=hw;subst C;cases r;let#[R,J,L,S]:=I.tuple E
 refine assign_Tuple_tuple (I.ok.hd m) L (by simp[w,<-G,J.length]) A λN O=>?_
 let P:Inv X j l H { s with heap:=N }:=I.kept (t':=s.toks) λb o e=>O b o (Ar (AX e)) e
 exact h j _ l H B _ Q P (by ext) hw
def iB(l:TE)(g:TG):TS:=λD j H=>l j H λx m=>g x j m D.nx
theorem mN(m:PE X e o)(w:PG X tg g)(hs:↑(swapsWithSole [tg] e pos.line X.env=pure false))(hw:↑(swappedStores [tg] e X.env=pure none))
  (A:↑((Jd [tg] X.env).map (·.2)=[assign tg X.env])):PS X (.Assign [tg] e pos) (iB o g):=by
 intro j s l H D I h;refine wpAny_Assign_stores (thn (m j s l H _ I h) ?_) hs hw;rintro v B ⟨x,C,E,G,J⟩;rw[A]
 exact thn (w j B l C x v _ E G J) λM L q=>q
theorem Wf(l:X.N.Nodup)(hi:X.N[i]?=!x)(m:Loc X.env.scope x)(o:PE X e w)(hs:↑(BX e (!.Name x j) pos.line X.env=pure false))(A:autoParam (zFn X x) yq3q) :
  PS X (.Assign [.Name x j] e pos) (iB w (Ie i)):=by
 intro B s C H D I h;refine wpAny_Assign_Name (thn (o B s C H _ I h) ?_) hs;rintro v P ⟨y,E,G,J,L⟩;exact P1 G l hi m J (λQ O=>#[_,E,O,L]) A
def tAug(i:Nat)(l:TE)(m:TIp):TS:=λD j H=>∃x,j[i]?=!(!x)/\l j H λy o=>m x y o λz w=>D.nx (j.set i (!z)) w
theorem mM(O:X.N.Nodup)(hi:X.N[i]?=!x)(C:Loc X.env.scope x)(P:PE X e Q)(R:PIp X op S)(T:autoParam (zFn X x) yq3q) :
  PS X (.AugAssign (.Name x J) op e pos) (tAug i Q S):=by
 intro E s L H D I h;let#[v,U,h]:=h;let#[m,Y,Z]:=I.loc
 let G:Vis X.env.scope x:=by rcases C with k | k;exact .inl k;exact .inr (.inl k)
 let#[u,r,l]:=Z i x v hi U G;refine wpAny_AugAssign_Name ?_
 let go:AW (AY X.prog X.w) X.A (A2 e X.env) (λw o=>AW (AY X.prog X.w) X.A (inplaceOp op u w) (λr B=>AW (AY X.prog X.w) X.A (pM X.env x r) (λM=>SP X E D .next) X.xe B) X.xe o) X.xe s:=by
  refine thn (P E s L H _ I h) ?_;rintro w s1 ⟨y,H1,I1,r1,q1⟩
  refine thn (R E s1 L H1 v y u w _ I1 r r1 q1) ?_;rintro z s2 ⟨zv,H2,I2,r2,q2⟩
  exact P1 I2 O hi C r2 (λs3 I3=>#[_,H2,I3,q2]) T
 rcases l with⟨j,hm⟩ | ⟨j,c,hc,tJ⟩
 ·exact e8 I.ok.kind j Y hm go
 ·rcases j with j | j
  ·exact jZ I.ok.kind j hc tJ go
  ·rcases C with k | k
   ·let:X.env.scope.names.lookup x=!.free:=j
    ext
   ·let:X.env.scope.names.lookup x=!.free:=j
    ext
def qW(to l m:TE)(w:V->V->Hp->VK->Prop)(A:TIp)(B:sG):TS:=λD j H=>to j H λo C=>l j C λi E=>w o i E λx G=>m j G λy I=>A x y I λz J=>B o i z J λL=>D.nx j L
def sK(X:Cx)(t:V->V->Hp->VK->Prop):Prop:=
 ∀(j:¬(AL×Obj)) (s:AK) (l:St) (H:Hp) (o i:V) (m B:AE) (Q:VK),Inv X j l H s->RelV o m->RelV i B->t o i H Q ->
  AW (AY X.prog X.w) X.A (JF m B) (EP X j l Q) X.xe s
theorem iP(J:PE X o to)(hi:PE X i L)(N:sK X O)(P:PE X e Q)(R:PIp X op S)(hs:sJ X T)
  (U:autoParam (∀j l new,augStore i j l new=(do F7 [new,j,l] (aF j l new);release [new,j,l] [];pure .next)) yq12q):PS X (.AugAssign (.Subscript o i tpos) op e pos) (qW to L Q O S T):=by
 intro w s m H D I h;refine wpAny_AugAssign_SubscriptAny (thn (J w s m H _ I h) ?_) U;rintro j Y ⟨B,Z,I1,C,q1⟩
 refine thn (hi w Y m Z _ I1 q1) ?_;rintro l s2 ⟨E,H2,I2,G,q2⟩
 refine thn (N w s2 m H2 B E j l _ I2 C G q2) ?_;rintro A s3 ⟨x3,H3,I3,r3,q3⟩
 refine thn (P w s3 m H3 _ I3 q3) ?_;rintro v s4 ⟨x4,H4,I4,r4,q4⟩
 refine thn (R w s4 m H4 x3 x4 A v _ I4 r3 r4 q4) ?_;rintro new s5 ⟨x5,H5,I5,r5,q5⟩
 exact thn (hs w s5 m H5 B E x5 j l new _ I5 C G r5 q5) (by rintro _ s6 ⟨H6,I6,q6⟩;exact #[m,H6,I6,q6])
def ipI(f:Int->Int->Int):TIp:=λx y H Q=>∃i j,x=.int i/\y=.int j/\Q (.int (f i j)) H
theorem nv:PIp X .Add (ipI λi j=>i+j):=by
 intro A s B H x y v u Q I l m h;let#[i,j,o,w,q]:=h;subst o;subst w;let#[t,rfl]:=l;let#[C,rfl]:=m;exact iadd_int #[.int _,H,I.tok _,#[_,rfl],q]
def lb(c:TT)(tb:TS):TS:=λD j H=>∃W:Nat->St->Hp->Prop,(∃m,W m j H)/\∀m j H,W m j H ->
 c j H λb o=>if b=true then ∃N:St->Hp->Prop,(∀l w,N l w->∃A,A < m/\W A l w)/\tb { D with nx:=N,ct:=N,bk:=D.nx } j o else D.nx j o
theorem cD(S:pS (AY X.prog X.w) X.A X.env X.xe)(hc:PT X c tc)(hb:PSs X m tb):PS X (.While c m [] pos) (lb tc tb):=by
 intro J s σ H D I h;let#[W,#[m0,w0],o]:=h;refine wpAny_While (codeAny_whileLoop (λn s'=>∃B T,Inv X J B T s'/\W n B T) ?_ m0 #[σ,H,I,w0]);rintro n s1 ⟨l,U,I1,w1⟩;refine FA S (thn (hc J s1 l U _ I1 (o n l U w1)) ?_);rintro b s2 ⟨Y,Z,E⟩
 cases b with
 | true=>
  let#[N,hN,E]:=E;rw[qX rfl];refine FA S (thn (hb J s2 l Y _ Z E) λf s3 G=>?_)
  cases f with
  | next=>
   let#[j,C,L,O]:=G;let#[P,Q,R]:=hN j C O;exact#[P,Q,j,C,L,R]
  | cont=>
   let#[j,C,L,O]:=G;let#[P,Q,R]:=hN j C O;exact#[P,Q,j,C,L,R]
  | brk=>exact G
  | ret v=>exact G
 | false=>
  rw[qY An];exact MX #[l,Y,Z,E]
end
structure It where
 go:Nat->Hp->Prop
 yld:Nat->Hp->V->Hp->Prop
 stop:Nat->Hp->Prop
def MW(X:Cx)(j:¬(AL×Obj))(H:Hp)(b:AL):Prop:=
 H b=none/\b≠X.env.locals/\b∉X.fs/\(b∈X.ex∨X.s₀.heap.objs.size<=b)/\(∀x c,X.env.cells.lookup x=!c->c≠b)/\∀p∈X.pn++j,p.1≠b
theorem Inv.fpOk(I:Inv X j o H s)(hb:s.heap.objs.size<=b)(l:H' b=none):MW X j H' b:=by
 refine#[l,Ek (Ab I.lt hb),I.nofs hb,.inr (A5 I.sz hb),λx c e z=>?_,λp m z=>?_]
 ·let#[v,q]:=I.cell x c e
  exact zX (Ab q.lt (by ext)) (Ev _)
 ·exact zX (Ab (AX (I.pin p m).1) (by ext)) (Ev _)
structure Qw(P:Ao)(w:A3)(K:AB)(tg:Expr)(J:It)(fp:¬AL)(it:AL)(tn:Nat->BG->Prop):Prop where
 mem:it∈fp
 obj:∀i h,tn i h->∀b∈fp,∃o,h.get? b=!o/\∀v,o.data≠.cell v
 keep:∀i h h',tn i h->(∀b∈fp,∀o,h.get? b=!o->h'.get? b=!o)->tn i h'
 item:∀(X:Cx),X.prog=P->X.w=w->X.K=K->X.calm->∀(i:Nat) (ζ:¬(AL×Obj)) (s:AK) (σ:St) (H:Hp) (E:AE->AK->Prop),Inv X ζ σ H s->(∀b∈fp,MW X ζ H b)->tn i s.heap->J.go i H ->
  AW (AY P w) X.A (GG (.ref it)) (λr s1=>∃u,r=!u /\
   AW (AY P w) X.A (MY tg (.ref it) u) (λG s2=>∃x H',Inv X ζ σ H' s2/\RelV x u/\J.yld i H x H'/\tn (i+1) s2.heap/\∀b∈fp,H' b=none) E s1) E s
 done:∀(X:Cx),X.prog=P->X.w=w->X.K=K->X.calm->∀(i:Nat) (ζ:¬(AL×Obj)) (s:AK) (σ:St) (H:Hp) (E:AE->AK->Prop),Inv X ζ σ H s->(∀b∈fp,MW X ζ H b)->tn i s.heap->J.stop i H ->
  AW (AY P w) X.A (GG (.ref it)) (λr s1=>r=none/\Inv X ζ σ H s1) E s
 self:∀(A:BR) (i:Nat) (s:AK) (Q:AE->AK->Prop) (E:AE->AK->Prop),tn i s.heap->Q (.ref it) s->AW (AY P w) A (Pb (.ref it)) Q E s
abbrev TI:=St->Hp->(It->Hp->Prop)->Prop
def PIE(X:Cx)(m:¬(AL×Obj))(C:St)(tg:Expr)(R:It->Hp->Prop)(j:AE)(o:AK):Prop:=
 ∃(it:AL) (A:¬AL) (B:Nat->BG->Prop) (J:It) (l:Hp),j=.ref it/\Inv X m C l o/\Qw X.prog X.w X.K tg J A it B/\B 0 o.heap/\(∀b∈A,MW X m l b)/\R J l
def PI(X:Cx)(tg iter:Expr)(m:TI):Prop:=
 ∀(l:¬(AL×Obj)) (s:AK) (j:St) (H:Hp) (R:It->Hp->Prop),Inv X l j H s->m j H R ->
  AW (AY X.prog X.w) X.A (A2 iter X.env) (λv o=>AW (AY X.prog X.w) X.A (Pb v) (PIE X l j tg R) X.xe o) X.xe s
theorem SI(l:s.heap.get? it=!o)(m:o.cls=.type n)(w:o.data=.fields vs)
  (B:["enumerate", "zip", "dict_itemiterator", "dict_reverseitemiterator", "odict_iterator", "itertools.zip_longest", "itertools.pairwise"].contains n=false) (j:Q () s):AW M A (MY tg (.ref it) u) Q E s:=by
 unfold MY
 cases tg <;> first
  | exact AC j
  | (cases u <;> first
    | exact AC j
    | (refine AA (kW l ?_)
       rw[m,w];show AW M A (if (["enumerate", "zip", "dict_itemiterator", "dict_reverseitemiterator", "odict_iterator", "itertools.zip_longest", "itertools.pairwise"].contains n&&vs[0]?==!Ih _) then _ else _) Q E s;rw[qY (by intro h;rw[B,Bool.false_and]at h;cases h)]
       exact AC j))
def Itl(K:AB)(a:AL):It:=
 #[λi H=>∃j x,SqL K H a j/\j[i]?=!x,λi H x l=>l=H/\∀j,SqL K H a j->j[i]?=!x,λi H=>∃j,SqL K H a j/\-j<=i]
def Itt(K:AB)(a:AL):It:=
 #[λi H=>∃j x,SqT K H a j/\j[i]?=!x,λi H x l=>l=H/\∀j,SqT K H a j->j[i]?=!x,λi H=>∃j,SqT K H a j/\-j<=i]
def Itr(lo:Int)(n:Nat):It:=#[λi G=>i < n,λi H x j=>j=H/\x=.int (lo+i),λi G=>n<=i]
theorem Y0{P}{w}{K}{tg}(a it:AL):Qw P w K tg (Itl K a) [it] it (λi h=>h.IsListIter it a i) where
 mem:=by simp
 obj:=λi h st b hb=>by
  let e:b=it:=by simpa using hb
  subst e;let#[o,e,c,d]:=st
  ext
 keep:=λi h l st k=>st.at λo e=>k it ∅ o e
 item:=by
  intro X B hw C T i U s Y H E I m st G;subst B hw C;let#[Z,x,A,J]:=G;let#[mh,L,p,hz]:=I.list A;let#[u,hu,ru]:=L.get J;let#[N,O,f2,Q,R,S]:=m it ∅
  refine wpAny_pyNext_list_item st p.isList (x:=u) (by ext) λl j sb=>?_
  let I1:Inv X U Y H { s with heap:=l }:=I.turned (t':=s.toks) (λb o hb e=>(sb.2 b hb).trans e) N O Q R S;let#[o,e,c,d]:=id j;exact#[u,rfl,SI (s:={ s with heap:=l }) e c d (by rfl) #[x,H,I1,ru,#[rfl,λys hy=>by rw[I.list_inj hy A];exact J],j,λb hb=>(m b hb).1]]
 done:=by
  intro X B hw C T i U s Y H E I m st G;subst B hw C;let#[Z,A,J]:=G;let#[mh,L,p,hz]:=I.list A;let#[N,O,f2,Q,R,S]:=m it ∅;let hl:=-L
  exact wpAny_pyNext_list_end (I.ok.hd T) st p.isList (by simp;ext) λl eb=>#[rfl,I.turned (t':=s.toks) (λb o hb e=>eb b o hb e) N O Q R S]
 self:=λM M M M M st h=>wpAny_pyIter_listiter st h
theorem WM{P}{w}{K}{tg}(a it:AL):Qw P w K tg (Itt K a) [it] it (λi h=>h.IsTupleIter it a i) where
 mem:=by simp
 obj:=λi h st b hb=>by
  let e:b=it:=by simpa using hb
  subst e;let#[o,e,c,d]:=st
  ext
 keep:=λi h l st k=>st.at λo e=>k it ∅ o e
 item:=by
  intro X B hw C U i Y s Z H E I m st G;subst B hw C;let#[xs,x,A,J]:=G;let#[L,N,p,hz]:=I.tuple A;let#[u,hu,ru]:=N.get J;let#[O,Q,f2,R,S,T]:=m it ∅
  refine wpAny_pyNext_tuple_item st (show s.heap.IsTuple a L.toArray from p) (x:=u) (by ext) λl j sb=>?_
  let I1:Inv X Y Z H { s with heap:=l }:=I.turned (t':=s.toks) (λb o hb e=>(sb.2 b hb).trans e) O Q R S T;let#[o,e,c,d]:=id j;exact#[u,rfl,SI (s:={ s with heap:=l }) e c d (by rfl) #[x,H,I1,ru,#[rfl,λys hy=>by rw[I.tuple_inj hy A];exact J],j,λb hb=>(m b hb).1]]
 done:=by
  intro X B hw C U i Y s Z H E I m st G;subst B hw C;let#[xs,A,J]:=G;let#[L,N,p,hz]:=I.tuple A;let#[O,Q,f2,R,S,T]:=m it ∅;let hl:=-N
  exact wpAny_pyNext_tuple_end (I.ok.hd U) st (show s.heap.IsTuple a L.toArray from p) (by simp;ext) λl eb=>#[rfl,I.turned (t':=s.toks) (λb o hb e=>eb b o hb e) O Q R S T]
 self:=λM M M M M st h=>wpAny_pyIter_tupleiter st h
theorem WN{P}{w}{K}{tg}(it:AL)(lo:Int)(n:Nat):Qw P w K tg (Itr lo n) [it] it (λi h=>UA h it (lo+(i:Nat) * 1) ((n:Int) - (i:Nat)) 1) where
 mem:=by simp
 obj:=λi h st b hb=>by
  ext
 keep:=λi h l st k=>k it ∅ _ st
 item:=by
  intro X A hw B C i R s S H E I m st G;subst A hw B;let#[J,L,U,N,O,Q]:=m it ∅;let W:=oy (prog:=X.prog) (w:=X.w) (I.ok.hd C) it lo 1 n
  refine W.item i s _ _ G st λv l T Y j Z=>?_
  let#[t,rfl]:=Y;let I1:Inv X R S H { s with heap:=l,toks:=T }:=I.turned (λb o hb e=>Z b o (by simpa using hb) e) J L N O Q;refine#[_,rfl,SI (s:={ s with heap:=l,toks:=T }) (n:="range_iterator") j rfl rfl (by rfl) #[.int (lo+i),H,I1,#[t,?_],#[rfl,rfl],j,λb hb=>(m b hb).1]]
  ext
 done:=by
  intro X A hw B C i R s S H E I m st G;subst A hw B;let#[J,L,U,N,O,Q]:=m it ∅
  exact aC (I.ok.hd C) st (by let:n<=i:=G;lia) λl eb=>#[rfl,I.turned (t':=s.toks) (λb o hb e=>eb b o hb e) J L N O Q]
 self:=λM M M M M st h=>MA st h
section
variable{X:Cx}
def rf(K:AB)(l:TE):TI:=λm H R=>l m H λx j=>∃a,x=.ref a/\(∃o,SqL K j a o)/\R (Itl K a) j
def iTup(K:AB)(l:TE):TI:=λm H R=>l m H λx j=>∃a,x=.ref a/\(∃o,SqT K j a o)/\R (Itt K a) j
theorem NG{l}{w}(hl:PE X l w):PI X tg l (rf X.K w):=by
 intro A s B H R I h
 refine thn (hl A s B H _ I h) ?_;rintro v j ⟨x,C,m,E,G⟩
 let#[a,e,#[L,J],q]:=G;subst e;cases E;let#[N,O,p,P]:=m.list J;refine RA p.isList ?_;refine#[j.heap.objs.size,[j.heap.objs.size],_,_,C,rfl,m.kept (t':=j.toks) λb o e=>AF _ e,Y0 a _,#[_,AO _ rfl,rfl,rfl],λb hb=>?_,q]
 let e:b=j.heap.objs.size:=by simpa using hb
 subst e;exact m.fpOk (AM _) (m.hok.fresh (AM _))
theorem mQ{l}{w}(hl:PE X l w):PI X tg l (iTup X.K w):=by
 intro A s B H R I h
 refine thn (hl A s B H _ I h) ?_;rintro v j ⟨x,C,m,E,G⟩
 let#[a,e,#[N,J],q]:=G;subst e;cases E;let#[L,O,p,P]:=m.tuple J;refine Go (show j.heap.IsTuple a L.toArray from p) ?_;refine#[j.heap.objs.size,[j.heap.objs.size],_,_,C,rfl,m.kept (t':=j.toks) λb o e=>AF _ e,WM a _,#[_,AO _ rfl,rfl,rfl],λb hb=>?_,q]
 let e:b=j.heap.objs.size:=by simpa using hb
 subst e;exact m.fpOk (AM _) (m.hok.fresh (AM _))
theorem Uq{j}{l}{H}{s}{R}{E}{lo hi}{t u v}{m}(I:Inv X j l H s)(C:(unop% Neg.neg (2 ^ 62))<=lo)(G:lo < 2 ^ 62)(J:(unop% Neg.neg (2 ^ 62))<=hi)(L:hi < 2 ^ 62)
  (q:R (Itr lo (hi - lo).toNat) H):AW (AY X.prog X.w) X.A (Pb (.ref s.heap.objs.size)) (PIE X j l tg R) E { s with heap:=s.heap.push { cls:=.type "range",data:=.fields [.int lo t,.int hi u,.int 1 v].toArray },toks:=m }:=by
 refine wpAny_pyIter_range (IsRange.new ..) (small_one C G J L) ?_
 let B:Inv X j l H { s with heap:=s.heap.push { cls:=.type "range",data:=.fields [.int lo t,.int hi u,.int 1 v].toArray },toks:=m }:=I.kept λb o e=>AF _ e
 refine#[(s.heap.push { cls:=.type "range",data:=.fields [.int lo t,.int hi u,.int 1 v].toArray }).objs.size,[(s.heap.push { cls:=.type "range",data:=.fields [.int lo t,.int hi u,.int 1 v].toArray }).objs.size],_,_,H,rfl,
  B.kept (t':=m) λb o e=>AF _ e,WN _ lo (hi - lo).toNat,?_,λb hb=>?_,q]
 ·let N:lo+((0:Nat):Int) * 1=lo:=by simp
  let O:(((hi - lo).toNat:Nat):Int) - ((0:Nat):Int)=Hq lo hi 1:=by rw[rangeSize_one];split <;> grind
  show UA _ _ (lo+((0:Nat):Int) * 1) ((((hi - lo).toNat:Nat):Int) - ((0:Nat):Int)) 1;rw[N,O];exact AO _ rfl
 ·let e:b=(s.heap.push { cls:=.type "range",data:=.fields [.int lo t,.int hi u,.int 1 v].toArray }).objs.size:=by simpa using hb
  subst e;exact B.fpOk (AM _) (B.hok.fresh (AM _))
def rc(ta:TA):TI:=λl H R=>ta l H λvs m=>∃j:Int,vs=[.int j]/\(unop% Neg.neg (2 ^ 62))<=j/\j < 2 ^ 62/\R (Itr 0 j.toNat) m
def rZ(ta:TA):TI:=λl H R=>ta l H λvs m=>∃i j:Int,vs=[.int i,.int j]/\((unop% Neg.neg (2 ^ 62))<=i/\i < 2 ^ 62/\(unop% Neg.neg (2 ^ 62))<=j/\j < 2 ^ 62)/\R (Itr i (j - i).toNat) m
theorem ZH{a}{ta}{p pos}(m:Gl X "range") (o:X.mg "range" = none) (w:PA X [a] ta) (hs:↑(AG [a] X.env=[(false,A2 a X.env)])):PI X tg (.Call (.Name "range" p) [a] [] pos) (rc ta):=by
 intro A s B H R I h;refine pH (IB I m o kh (Br (thn (w pos A s B H _ I h) ?_) hs rfl));rintro L N ⟨vs,O,C,E,l⟩;let#[j,e,l,G,q]:=l;subst e
 cases E with
 | cons r J=>
  cases J;let#[t,rfl]:=r;exact call_range_1 (Uq C (by ext) (by ext) l G (by simpa using q))
theorem ZG(w:Gl X "range") (A:X.mg "range" = none) (B:PA X [a,b] ta) (hs:↑(AG [a,b] X.env=[(false,A2 a X.env),(false,A2 b X.env)])) (o:↑(AG [b] X.env=[(false,A2 b X.env)])) :
  PI X tg (.Call (.Name "range" p) [a,b] [] pos) (rZ ta):=by
 intro C s E H R I h;refine pH (IB I w A kh (Br (thn (B pos C s E H _ I h) ?_) (by(try unfold zSp);rw[hs,o]) (by rw[o];rfl)));rintro Q S ⟨vs,T,G,J,l⟩;let#[i,j,e,#[l,L,N,O],q]:=l;subst e
 cases J with
 | cons r m=>
  cases m with
  | cons P m=>
   cases m;let#[t,rfl]:=r;let#[U,rfl]:=P;exact call_range_2 (Uq G l L N O q)
def tFor(B:TI)(g:TG)(tb:TS):TS:=λD j H=>B j H λJ C=>∃W:Nat->Nat->St->Hp->Prop,(∃m,W 0 m j C)/\∀i m j H,W i m j H ->
 (J.stop i H/\D.nx j H)∨(J.go i H/\∃N:St->Hp->Prop,(∀l o,N l o->∃A,A < m/\W (i+1) A l o)/\∀x o,J.yld i H x o->g x j o λw E=>tb { D with nx:=N,ct:=N,bk:=D.nx } w E)
def QK(j:¬AL)(h:BG):¬(AL×Obj):=j.filterMap λb=>(h.get? b).map λo=>(b,o)
theorem Jt(hb:b∈j)(e:h.get? b=!o):(b,o)∈QK j h:=NX.mpr #[b,hb,by rw[e];rfl]
theorem ZL(j:p∈QK l h):p.1∈l/\h.get? p.1=!p.2:=by
 let#[b,hb,e]:=NX.mp j
 cases q:h.get? b with
 | none=>ext
 | some o=>
  grind
theorem Inv.pinned(I:Inv X j m H s)(w:∀b∈l,MW X j H b)(B:∀b∈l,∃o,s.heap.get? b=!o/\∀v,o.data≠.cell v):Inv X (j++QK l s.heap) m H s:=
 I.pins_of λp A=>(Aj.mp A).elim (λz=>I.pin p (Bb _ z)) λz=>by
  let#[hb,e]:=ZL z;let#[C,E,G,_]:=w p.1 hb
  grind
theorem Inv.unpinned(I:Inv X (j++pl) l H s):Inv X j l H s:=I.pins_of λp m=>I.pin p (Bb _ (CS _ m))
theorem cE(O:pS (AY X.prog X.w) X.A X.env X.xe)(hc:X.calm)(hi:PI X tg iter wi)(hg:PG X tg g)(hb:PSs X P tb)
  (hs:autoParam (∀x,B8 iter X.env x=pure x) yq2q):PS X (.For tg iter P [] pos) (tFor wi g tb):=by
 intro L s σ H D I h;refine wpAny_For (thn (hi L s σ H _ I h) λv s1 h1=>thn h1 λitv s2 h2=>?_) hs;let#[it,Q,tn,J,H2,e,I2,T,mi,f2,W,#[m0,w0],R]:=h2;subst e
 let uL:∀{H':Hp},(∀b∈Q,H' b=none)->∀b∈Q,MW X L H' b:=λhn b hb=>#[hn b hb,(f2 b hb).2]
 refine codeAny_forLoop_any (λn s'=>∃i l H',Inv X L l H' s'/\tn i s'.heap/\(∀b∈Q,H' b=none)/\W i n l H') ?_ m0 #[0,σ,H2,I2,mi,λb hb=>(f2 b hb).1,w0];rintro n s3 ⟨i,B,Z,I3,uE,S,w3⟩
 rcases R i n B Z w3 with⟨U,qn⟩ | ⟨go,N,hN,step⟩
 ·refine FA O (thn (T.done X rfl rfl rfl hc i L s3 B Z X.xe I3 (uL S) uE U) ?_);rintro r s4 ⟨hr,I4⟩
  subst hr;exact MX #[B,Z,I4,qn]
 ·refine FA O (thn (T.item X rfl rfl rfl hc i L s3 B Z X.xe I3 (uL S) uE go) ?_);rintro r s4 ⟨u,hr,h4⟩
  subst hr;refine FA O (thn h4 ?_);rintro _ s5 ⟨x,H5,I5,r5,y5,vM,fr5⟩;let MO:=I5.pinned (uL fr5) (T.obj _ _ vM);refine FA O (thn (hg _ s5 B H5 x u _ MO r5 (step x H5 y5)) ?_);rintro _ s6 ⟨σ6,H6,I6,q6⟩;refine FA O (thn (hb _ s6 σ6 H6 _ I6 q6) λf s7 G=>?_)
  let again:∀{j:St} {C:Hp},Inv X (L++QK Q s5.heap) j C s7->N j C->∃m,m < n/\∃i l H',Inv X L l H' s7/\tn i s7.heap/\(∀b∈Q,H' b=none)/\W i m l H':=λ{j C} E Y=>by
   let#[m',hm,w7]:=hN j C Y;refine#[m',hm,i+1,j,C,E.unpinned,T.keep _ _ _ vM λb hb o e=>(E.pin (b,o) (Bb _ (Bb _ (Jt hb e)))).1,λb hb=>?_,w7];let#[o,e,d]:=T.obj _ _ vM b hb;exact(E.pin (b,o) (Bb _ (Bb _ (Jt hb e)))).2.1
  cases f with
  | next=>let#[j,C,E,Y]:=G;exact again E Y
  | cont=>let#[j,C,E,Y]:=G;exact again E Y
  | brk=>let#[j,C,E,G]:=G;exact#[j,C,E.unpinned,G]
  | ret v=>let#[x7,j,C,E,r7,G]:=G;exact#[x7,j,C,E.unpinned,r7,G]
end
abbrev R2:=V->V->Hp->VK->Prop
def OpR(X:Cx)(f:AE->AE->Sem AE)(r:R2):Prop:=
 ∀(j:¬(AL×Obj)) (s:AK) (l:St) (H:Hp) (x y:V) (v u:AE) (Q:VK),Inv X j l H s->RelV x v->RelV y u->r x y H Q ->
  AW (AY X.prog X.w) X.A (f v u) (EP X j l Q) X.xe s
def UnR(X:Cx)(f:AE->Sem AE)(r:V->Hp->VK->Prop):Prop:=
 ∀(j:¬(AL×Obj)) (s:AK) (l:St) (H:Hp) (x:V) (v:AE) (Q:VK),Inv X j l H s->RelV x v->r x H Q ->
  AW (AY X.prog X.w) X.A (f v) (EP X j l Q) X.xe s
def IG(X:Cx)(f:AE)(r:¬V->Hp->VK->Prop):Prop:=
 ∀(j:¬(AL×Obj)) (s:AK) (l:St) (H:Hp) (m:¬V) (o:¬AE) (Q:VK),Inv X j l H s->Bl m o->r m H Q ->
  AW (AY X.prog X.w) X.A (call f o) (EP X j l Q) X.xe s
def TruR(X:Cx)(r:V->Hp->(Bool->Hp->Prop)->Prop):Prop:=
 ∀(j:¬(AL×Obj)) (s:AK) (l:St) (H:Hp) (x:V) (v:AE) (Q:Bool->Hp->Prop),Inv X j l H s->RelV x v->r x H Q ->
  AW (AY X.prog X.w) X.A (NZ v) (TP X j l Q) X.xe s
def tOp(r:R2)(ta tb:TE):TE:=λj H Q=>ta j H λx l=>tb j l λy m=>r x y m Q
def tUn(r:V->Hp->VK->Prop)(ta:TE):TE:=λj H Q=>ta j H λx l=>r x l Q
def rI(C:Int->Int->Prop)(g:Int->Int->V):R2:=λx y H Q=>∃i j,x=.int i/\y=.int j/\C i j/\Q (g i j) H
def rI0(g:Int->Int->V):R2:=λx y H Q=>∃i j,x=.int i/\y=.int j/\Q (g i j) H
def rU(g:Int->V):V->Hp->VK->Prop:=λx H Q=>∃i,x=.int i/\Q (g i) H
section
variable{X:Cx}{a b:Expr}{ta tb:TE}{pos:Pos}
theorem oQ(G:PE X a ta)(hb:PE X b tb){B:¬(AL×Obj)}{s:AK}{j:St}{H:Hp}{R:V->V->Hp->Prop}(I:Inv X B j H s)
  (h:ta j H λx E=>tb j E λy l=>R x y l) {Q:AE->AK->Prop} {f:AE->AE->Sem AE}
  (J:∀v u C x y l,Inv X B j l C->RelV x v->RelV y u->R x y l->AW (AY X.prog X.w) X.A (f v u) Q X.xe C) :
  AW (AY X.prog X.w) X.A (A2 a X.env) (λv m=>AW (AY X.prog X.w) X.A (A2 b X.env) (λu o=>AW (AY X.prog X.w) X.A (f v u) Q X.xe o) X.xe m) X.xe s:=by
 refine thn (G B s j H _ I h) ?_;rintro v L ⟨x,E,N,O,P⟩
 refine thn (hb B L j E _ N P) ?_;rintro u C ⟨y,l,S,T,U⟩
 exact J v u C x y l S O T U
theorem X5{op:Nd}{r:R2}(j:OpR X (D7 op) r)(l:PE X a ta)(hb:PE X b tb):PE X (.BinOp a op b pos) (tOp r ta tb):=by
 intro m s o H Q I h;exact wpAny_BinOp (oQ l hb I h λv u w x y A B C E q=>j m w o A x y v u Q B C E q)
theorem q9(m:UnR X (unaryOp op) r)(o:PE X a ta):PE X (.UnaryOp op a pos) (tUn r ta):=by
 intro j s l H Q I h;exact UnaryOp_ (thn (o j s l H _ I h) (by rintro v w ⟨x,A,B,C,E⟩;exact m j w l A x v Q B C E))
theorem opI{f:AE->AE->Sem AE}{C:Int->Int->Prop}{g:Int->Int->Int}
  (rule:∀(i j:Int) (t u:Tok) (s:AK) (Q:AE->AK->Prop) (E:AE->AK->Prop),C i j->Q (.int (g i j) s.toks) { s with toks:=s.toks+1 }->AW (AY X.prog X.w) X.A (f (.int i t) (.int j u)) Q E s) :
  OpR X f (rI C λi j=>.int (g i j)):=by
 intro G s J H x y v u Q I l m h;let#[i,j,rfl,rfl,o,q]:=h;let#[t,rfl]:=l;let#[B,rfl]:=m;exact rule i j t B s _ _ o #[.int (g i j),H,I.tok _,#[_,rfl],q]
theorem nK{f:AE->AE->Sem AE}{g:Int->Int->Int}
  (rule:∀(i j:Int) (t u:Tok) (s:AK) (Q:AE->AK->Prop) (E:AE->AK->Prop),Q (.int (g i j) s.toks) { s with toks:=s.toks+1 }->AW (AY X.prog X.w) X.A (f (.int i t) (.int j u)) Q E s) :
  OpR X f (rI0 λi j=>.int (g i j)):=by
 intro B s C H x y v u Q I l m h;let#[i,j,rfl,rfl,q]:=h;let#[t,rfl]:=l;let#[o,rfl]:=m;exact rule i j t o s _ _ #[.int (g i j),H,I.tok _,#[_,rfl],q]
theorem im{f:AE->AE->Sem AE}{g:Int->Int->Bool}
  (rule:∀(i j:Int) (t u:Tok) (s:AK) (Q:AE->AK->Prop) (E:AE->AK->Prop),Q (.bool (g i j)) s->AW (AY X.prog X.w) X.A (f (.int i t) (.int j u)) Q E s) :
  OpR X f (rI0 λi j=>.bl (g i j)):=by
 intro B s C H x y v u Q I l m h;let#[i,j,rfl,rfl,q]:=h;let#[t,rfl]:=l;let#[o,rfl]:=m;exact rule i j t o s _ _ #[.bl (g i j),H,I,rfl,q]
def oY(i j:Int):Prop:=0 < j/\j < 1073741824
def eM(i j:Int):Prop:=0<=j/\j<=1000000/\i.natAbs < 2 ^ 64
def eN(i j:Int):Prop:=((unop% Neg.neg (2 ^ 64)) < i/\i < 2 ^ 64)∨((unop% Neg.neg (2 ^ 64)) < j/\j < 2 ^ 64)
theorem eN.ok(h:eN i j):IntMulOk i j:=by
 rcases h with⟨l,m⟩ | ⟨l,m⟩
 ·exact .of_left (intBits_le_64 l m)
 ·exact .of_right (intBits_le_64 l m)
theorem WL(k:Nat):(0:Int)<=2 ^ k:=by
 lia
theorem nJ:OpR X (D7 .Add) (rI0 λi j=>.int (i+j)):=nK λG G G G G G G q=>add_int q
theorem mq:OpR X (D7 .Sub) (rI0 λi j=>.int (i - j)):=nK λG G G G G G G q=>sub_int q
theorem nB:OpR X (D7 .Mult) (rI eN λi j=>.int (i * j)):=opI λG G G G G G G l q=>mul_int q l.ok
theorem ik:OpR X (D7 .FloorDiv) (rI oY λi j=>.int (i / j)):=opI λi j G G G G G l q=>by
 let m:(0:Int) < j:=l.1;let o:j < 1073741824:=l.2;exact floordiv_int ∅ (by rw[Sh i ∅];exact q) (.inl (PyProof.noPylong_small (by grind)))
theorem nC:OpR X (D7 .Mod) (rI (λG j=>0 < j) λi j=>.int (i % j)):=opI λi j G G G G G l q=>by
 let m:(0:Int) < j:=l;exact mod_int' ∅ (by rw[Int.fmod_eq_emod_of_nonneg i ∅];exact q)
theorem m9:OpR X (D7 .Pow) (rI eM λi j=>.int (i ^ j.toNat)):=opI λG G G G G G G l q=>pow_int_small l.1 l.2.1 l.2.2 q
theorem m8:OpR X (D7 .LShift) (rI eM λi j=>.int (i * 2 ^ j.toNat)):=opI λG G G G G G G l q=>lshift_int_small l.1 l.2.1 l.2.2 q
theorem mw:OpR X (D7 .RShift) (rI (λG j=>0<=j) λi j=>.int (i / 2 ^ j.toNat)):=opI λi j G G G G G l q=>
 rshift_int l (by rw[Sh i (WL _)];exact q)
theorem nI:OpR X (D7 .BitAnd) (rI0 λi j=>.int (BE i j)):=nK λG G G G G G G q=>and_int q
theorem unI{f:AE->Sem AE}{g:Int->Int}
  (rule:∀(i:Int) (t:Tok) (s:AK) (Q:AE->AK->Prop) (E:AE->AK->Prop),Q (.int (g i) s.toks) { s with toks:=s.toks+1 }->AW (AY X.prog X.w) X.A (f (.int i t)) Q E s) :
  UnR X f (rU λi=>.int (g i)):=by
 intro l s m H x v Q I j h;let#[i,rfl,q]:=h;let#[t,rfl]:=j;exact rule i t s _ _ #[.int (g i),H,I.tok _,#[_,rfl],q]
theorem lW:UnR X (unaryOp .USub) (rU λi=>.int ((unop% Neg.neg i))):=unI λG G G G G q=>neg_int q
end
section
variable{X:Cx}{a b c:Expr}{ta tb tc:TE}{pos:Pos}
theorem oC(I:Inv X j l H s)(q:Q (.bl k) H)(e:k=k'):EP X j l Q (.bool k') s:=by
 subst e;exact#[.bl k,H,I,rfl,q]
theorem cX:OpR X (Bk .Lt) (rI0 λi j=>.bl (decide (i < j))):=im λG G G G G G G q=>lt_int q
theorem Uz:OpR X (Bk .LtE) (rI0 λi j=>.bl (decide (i<=j))):=im λG G G G G G G q=>le_int q
theorem rC:OpR X (Bk .Gt) (rI0 λi j=>.bl (decide (j < i))):=im λG G G G G G G q=>gt_int q
theorem rE:OpR X (Bk .GtE) (rI0 λi j=>.bl (decide (j<=i))):=im λG G G G G G G q=>ge_int q
theorem ij:OpR X (Bk .IsNot) (λx y H Q=>y=.non/\Q (.bl (not (decide (x=.non)))) H):=by
 intro m s o H x y v u Q I j l h;let#[rfl,q]:=h;cases l;refine isnot_none_gen (oC I q ?_)
 cases x <;> first
  | (cases j;rfl)
  | (let#[t,rfl]:=j;rfl)
theorem GO(b:Expr)(h:↥(op≠.In))(m:↥(op≠.NotIn)):BV op b=false:=by
 let j:(op==UC.In)=false:=by cases op <;> first | rfl | ext
 let l:(op==UC.NotIn)=false:=by cases op <;> first | rfl | ext
 cases b <;> simp[BV,j,l]
theorem TM{op:UC}{r:R2}(j:OpR X (Bk op) r)(l:PE X a ta)(hb:PE X b tb)(m:BV op b=false):PE X (.Compare a [op] [b] pos) (tOp r ta tb):=by
 intro o s w H Q I h;exact wpAny_Compare1 (oQ l hb I h λv u A x y B C E G q=>j o A w B x y v u Q C E G q) m
def j5(t:TE):TT:=λj H Q=>t j H λx l=>∃k,x=.bl k/\Q k l
theorem NE(m:OpR X (Bk op) r)(o:PE X a ta)(hb:PE X b tb)(w:BV op b=false):PT X (.Compare a [op] [b] pos) (j5 (tOp r ta tb)):=by
 intro j s l H Q I h
 refine eR (thn (o j s l H _ I h) λv A #[x,B,C,E,G]=>thn (hb j A l B _ C G) λu J #[y,L,N,O,P]=>
  thn (m j J l L x y v u _ N E O P) ?_) w;rintro c Y ⟨z,R,S,T,k,e,U⟩
 subst e;cases T;exact CP #[R,S,U]
def lr(r m:R2)(ta tb tc:TE):TE:=λj H Q=>ta j H λx o=>tb j o λy w=>r x y w λz l=>∃k,z=.bl k /\
 (if k=true then tc j l λA B=>m y A B Q else Q (.bl false) l)
theorem Us(C:OpR X (Bk op) r)(E:OpR X (Bk m) G)(J:PE X a ta)(hb:PE X b tb)(L:PE X c tc)
  (N:autoParam (lastMarks [op,m] [b,c]=false) yq6q):PT X (.Compare a [op,m] [b,c] pos) (j5 (lr r G ta tb tc)):=by
 intro j s l H Q I h
 refine isTrue_chain (thn (J j s l H _ I h) λv O #[x,P,R,S,T]=>test_link (thn (hb j O l P _ R T) λu U #[y,Y,Z,o,q2]=>
  thn (C j U l Y x y v u _ Z S o q2) ?_)) N;rintro d s3 ⟨z,w,A,r3,k,e,B⟩
 subst e;cases r3;refine CP ?_
 cases k with
 | false=>
  let#[k',e',q']:=B;cases e';exact ite_ff #[w,A,q']
 | true=>
  refine ite_tt (test_last (thn (L j s3 l w _ A B) ?_));rintro w' s4 ⟨z',H4,I4,r4,q4⟩;refine thn (E j s4 l H4 y z' u w' _ I4 o r4 q4) ?_;rintro d' s5 ⟨z2,H5,I5,r5,k2,e2,q5⟩;subst e2;cases r5;exact CP #[H5,I5,q5]
def Va(K:AB)(x:V)(H:Hp)(k:Bool):Prop:=
 match x with
 | .non=>k=false
 | .bl b=>k=b
 | .int i=>k=(i != 0)
 | .str y=>-y<=sizeLine/\k=((-y:Int) != 0)
 | .byt y=>y.size<=sizeLine/\k=((y.size:Int) != 0)
 | .ref p=>(∃j,SqL K H p j/\k = not j.isEmpty)∨(∃j,SqT K H p j/\k = not j.isEmpty)∨∃l,H p=!.dK l/\k = not l.isEmpty
 | _=>False
theorem Wy{j:Type}{kvs:¬(j×V)}{vs:¬(j×AE)}(r:KV kvs vs):(not vs.isEmpty) = not kvs.isEmpty:=by
 cases r <;> rfl
theorem QW(r:Bl xs j):(not j.toArray.isEmpty) = not xs.isEmpty:=by
 cases r <;> simp
theorem N4:(sizeLine:Nat) < 2 ^ 63:=by rw[T2];decide
theorem lX:TruR X (λx H Q=>∃k,Va X.K x H k/\Q k H):=by
 intro O s R H x v Q I B h;let#[k,e,q]:=h;let S:=N4;let T:sizeLine=16777216:=T2
 cases x with
 | non=>
  cases B;let j:k=false:=e;subst j;exact truthy_none #[H,I,q]
 | bl b=>
  cases B;let j:k=b:=e;subst j;exact CP #[H,I,q]
 | int i=>
  let#[t,rfl]:=B;let j:k=(i != 0):=e;subst j;exact PySem.P.truthy_int #[H,I,q]
 | str y=>
  let#[t,rfl]:=B;obtain⟨J,j⟩:-y<=sizeLine/\k=((-y:Int) != 0):=e;subst j;exact PySem.P.truthy_str ∅ #[H,I.tok _,q]
 | byt y=>
  let#[t,rfl]:=B;obtain⟨J,j⟩:y.size<=sizeLine/\k=((y.size:Int) != 0):=e;subst j;exact PySem.W.truthy_bytes ∅ #[H,I.tok _,q]
 | ref p=>
  cases B
  let j:(∃A,SqL X.K H p A/\k = not A.isEmpty)∨(∃A,SqT X.K H p A/\k = not A.isEmpty)∨∃l,H p=!.dK l/\k = not l.isEmpty:=e
  rcases j with⟨A,C,j⟩ | ⟨A,C,j⟩ | ⟨l,C,j⟩
  ·subst j
   let#[L,r,E,G]:=I.list C;let o:=-r;exact wpAny_truthy_list E.isList (by simp only[BZ];lia) #[H,I.tok _,by rw[QW r];exact q]
  ·subst j
   let#[L,r,E,G]:=I.tuple C;let o:=-r;exact truthy_tuple E (by simp only[BZ];lia) #[H,I.tok _,by rw[QW r];exact q]
  ·subst j
   obtain⟨G,N,vs,r,m⟩:-l<=sizeLine/\(p==B3)=false/\∃vs,KV l vs/\s.heap.DictOf (Dt X.prog X.w) p vs:=I.hok p _ C
   let o:-l=-vs:=C5 r;exact wpAny_truthy_dict N m ∅ #[H,I.tok _,by rw[Wy r];exact q]
 | _=>exact(show False from e).elim
theorem QI(o:PE X a ta)(w:∀j,KN a X.env j=(do let v <-j;JD a.pos;F7 [v] (NZ v))) :
  PT X a (λl H Q=>ta l H λx H'=>∃k,Va X.K x H' k/\Q k H'):=by
 intro m s l H Q I h;exact isTrue_plain (thn (o m s l H _ I h) (by rintro v A ⟨x,B,C,E,G⟩;exact lX m A l B x v Q C E G)) (w _)
theorem vals1(r:Bl [x] us):∃u,us=[u]/\RelV x u:=by
 cases r with
 | cons j l=>cases l;exact#[_,rfl,j]
theorem vals2(r:Bl [x,y] us):∃u w',us=[u,w']/\RelV x u/\RelV y w':=by
 cases r with
 | cons j l=>
  cases l with
  | cons m o=>cases o;exact#[_,_,rfl,j,m]
theorem Zo(m:X.calm):IG X (.builtin "max") (λxs H Q=>∃i j,xs=[.int i,.int j]/\Q (.int (if j > i then j else i)) H):=by
 intro o s w H xs A Q I r h;let#[i,j,rfl,q]:=h;let#[u,B,rfl,#[t,rfl],#[C,rfl]]:=vals2 r
 refine max_two_ints (I.ok.hd m) λE G k=>#[_,H,I.kept k,?_,q]
 by_cases l:j > i
 ·rw[qX l,qX l];exact#[_,rfl]
 ·rw[qY l,qY l];exact#[_,rfl]
theorem Zn(m:X.calm):IG X (.builtin "min") (λxs H Q=>∃i j,xs=[.int i,.int j]/\Q (.int (if j < i then j else i)) H):=by
 intro o s w H xs A Q I r h;let#[i,j,rfl,q]:=h;let#[u,B,rfl,#[t,rfl],#[C,rfl]]:=vals2 r
 refine min_two_ints (I.ok.hd m) λE G k=>#[_,H,I.kept k,?_,q]
 by_cases l:j < i
 ·rw[qX l,qX l];exact#[_,rfl]
 ·rw[qY l,qY l];exact#[_,rfl]
theorem Zq:IG X (.type "int") (λxs H Q=>(∃i,xs=[.int i]/\Q (.int i) H)∨∃k,xs=[.bl k]/\Q (.int (if k then 1 else 0)) H):=by
 intro l s m H xs o Q I r h
 rcases h with⟨i,rfl,q⟩ | ⟨k,rfl,q⟩
 ·let#[u,rfl,t,rfl]:=vals1 r
  exact call_int_int #[.int i,H,I,#[_,rfl],q]
 ·let#[u,rfl,j]:=vals1 r
  cases j;exact call_int_bool #[.int (if k then 1 else 0),H,I.tok _,#[_,rfl],q]
end
structure XG(h:BG)(x dx C:AL)(mA:Str->⇑AE):Prop where
 obj:h.get? x=!Dx C dx
 ns:h.Ns1 dx mA
 ne:dx≠x
set_option tactic.hygienic true in
theorem ZQ{h:BG}{j:AL}{l:Str->⇑AE}(n:h.Ns1 j l):∃m,h.get? j=!m/\∀name,KO name m=!l name:=by
 let#[o,w,I,A,B,C,_,E]:=n;refine#[o,A,λname=>?_];let e:=E name;unfold nsFind findBy at e;rw[<-Array.find?_toList]at e;unfold KO;rw[B];symm;split
 ·ext
 ·rename_i q
  rw[q]at e
  let a:w.toList.any (·.refKey)=false:=by
   rw[aM];intro y G;let#[z,t,H]:=C y (BC.mp G);simp[La.refKey,H]
  grind
theorem XG.look{h}{x l C}{m}(I:XG h x l C m):∃j,PySem.W.InstAt h x (Dx C l) C (!j)/\∀name,KO name j=!m name:=
 let #[j,o,w]:=ZQ I.ns
 #[j,#[I.obj,rfl,rfl,o],w]
section
variable{prog:Ao}{w:A3}{A:BR}{E:AE->AK->Prop}{s:AK}{K:AB}{x dx C f:AL}{mA:Str->⇑AE}{name:Str}{v:AE}
theorem jE(X:K.In s.heap)(I:XG s.heap x dx C mA)(j:JG K C name)(l:Mi K C)
  (m:DO K (.ref C) name=!none) (o:mA name=!v) (B:Yj v) (h:Q v { s with toks:=s.toks+1 }) :
  AW (AY prog w) A (getAttr (.ref x) name expr) Q E s:=by
 let#[H,J,G]:=I.look;exact PySem.W.get_value X J (LY j).1 (PySem.W.findObj_own l m rfl (by rw[G,o])) B h
theorem dW(X:K.In s.heap)(I:XG s.heap x dx C mA)(j:JG K C name)
  (l:DO K (.ref C) name=!(!.ref f)) (m:SZ K (.ref f)) (B:mA name=none) (h:Q (.ref f,[.ref x]) s) :
  AW (AY prog w) A (Zx (.ref x) name pl) Q E s:=by
 let#[o,J,G]:=I.look;exact PySem.W.method_fn X J (LY j).1 (LY j).2 l (beq_iff_eq.mp m) (by show(KO name o).map (·.isSome)=!false;ext) h
theorem iH(X:K.In s.heap)(I:XG s.heap x dx C mA)
  (hs:DO K (.ref C) "__setattr__" = !(!.builtin "object.__setattr__")) (H:XJ K C) (L:Oi K C name=!none) (N:Mi K C)
  (hw:UI mA O) (hsz:-O<=sizeLine)
  (h:∀h',XG h' x dx C (λy=>if y=name then !v else mA y)->DV dx s.heap h'->Q () { s with heap:=h',toks:=s.toks+2 }) :
  AW (AY prog w) A (setAttr (.ref x) name v) Q E s:=by
 let#[U,J,Y]:=I.look;refine PySem.W.set_plain X J hs (PySem.W.osa_open (s:={ s with toks:=s.toks+1 }) (r:=none) X J H L λb=>?_);let#[Z,P,j]:=PySem.W.any_some N;let R:s.heap.get? x=!#[.ref C,!dx,.plain,#[]]:=I.obj;refine AA (AC (AA (AA (wpAny_loadPart R (AA (pR (s:={ s with toks:=s.toks+1 }) (PySem.W.looks_clsIn X P) ?_))))));rw[j];refine AC (a:=!dx) (AA (AC (AA ?_)))
 refine wpAny_nsSet1 (s:={ s with toks:=s.toks+1 }) I.ns λh' B G=>?_
 let#[oD,S,T,l,m,o]:=B.count (sS name v hw);refine AA (wpAny_lookBehind l (by rw[m];exact pastItsLine_dict (A5 o ∅)) ?_);exact AC (h _ #[(G.2 _ (CU I.ne)).trans I.obj,B,I.ne] G)
theorem cn(X:K.In s.heap)(l:Z3 K C)
  (hi:DO K (.ref C) "__init__" = !(!.ref f)) (m:PySem.W.typeIn K (.ref f)=!.type "function")
  (h:HP (AY prog w) (A.under (.builtin "type.__call__" #[.ref C :: vs,j])) (.call (.ref f) #[.ref (s.heap.objs.size+1) :: vs,j]) (PySem.W.InitBack (s.heap.objs.size+1) R)
   { s with heap:=(s.heap.push C4).push (Dx C s.heap.objs.size) }) :
  HP (AY prog w) A (.call (.ref C) #[vs,j]) R s:=by
 let#[o,g,d,t,os]:=s;exact PySem.W.make_core (PySem.W.makes_of X l) (PySem.W.looks_findIn X hi) (λself=>PySem.W.bind_fn X self m) (.inl rfl) h
end
def putF(f:Str)(v:V):¬(Str×V)->¬(Str×V)
 | []=>[(f,v)]
 | (g,x) :: r=>if g=f then(g,v) :: r else(g,x) :: putF f v r
theorem Ku(f g:Str)(v:V):∀fs:¬(Str×V),(putF f v fs).lookup g=if g=f then !v else fs.lookup g
 | []=>by
  show Lp g [(f,v)]=_
  grind
 | (k,x) :: r=>by
  let j:=Ku f g v r;rw[show putF f v ((k,x) :: r)=(if k=f then(k,v) :: r else(k,x) :: putF f v r)from rfl]
  grind
theorem N7(f:Str)(v:V):∀fs:¬(Str×V),f∈(putF f v fs).map (·.1)/\∀g,g∈fs.map (·.1)->g∈(putF f v fs).map (·.1)
 | []=>#[by simp[putF],λg h=>by simp at h]
 | (k,x) :: r=>by
  let#[j,l]:=N7 f v r;rw[show putF f v ((k,x) :: r)=(if k=f then(k,v) :: r else(k,x) :: putF f v r)from rfl]
  grind
theorem Oe(f:Str)(v:V):∀fs:¬(Str×V),(putF f v fs).length<=-fs+1
 | []=>by simp[putF]
 | (k,x) :: r=>by
  let l:=Oe f v r;rw[show putF f v ((k,x) :: r)=(if k=f then(k,v) :: r else(k,x) :: putF f v r)from rfl]
  by_cases j:k=f
  ·rw[qX j,Au,Au];ext
  ext
theorem JZ.some_of(r:JZ (!v) o):∃u,o=!u/\RelV v u:=by
 cases o with
 | none=>exact(show False from r).elim
 | some u=>exact#[u,rfl,r]
theorem JZ.none_of(r:JZ none o):o=none:=by
 cases o with
 | none=>rfl
 | some u=>exact(show False from r).elim
theorem ZZ(r:RelV v u):Yj u:=by
 cases v with
 | non=>cases(show u=CQ from r);rfl
 | bl b=>cases(show u=Mg b from r);rfl
 | int i=>let#[t,e]:=(show ∃t,u=GC i t from r);cases e;rfl
 | str x=>let#[t,e]:=(show ∃t,u=Oh x t from r);cases e;rfl
 | byt b=>let#[t,e]:=(show ∃t,u=oz b t from r);cases e;rfl
 | flt b=>let#[t,e]:=(show ∃t,u=Vw b t from r);cases e;rfl
 | ref a=>cases(show u=AV a from r);rfl
 | ty n=>cases(show u=F8 n from r);rfl
section
variable{P:Ao}{w:A3}{H:Hp}{h:BG}{a C dx:AL}{fs:¬(Str×V)}
theorem PR(l:HOk P w H h)(e:H a=!.ins C dx fs):∃j,XG h a dx C j/\(∀f,JZ (fs.lookup f) (j f))/\UI j (fs.map (·.1))/\-fs<=1000/\H dx=!.own a:=by
 let#[d,z,ne,ob,j,n,r,q]:=(show CZ P w H h a (.ins C dx fs)from l a _ e);exact#[j,#[ob,n,ne],r,q,z,d]
end
structure Cls(K:AB)(C:AL):Prop where
 pg:JG K C Str.empty=true
 hd:Mi K C=true
 po:XJ K C=true
 sa:DO K (.ref C) "__setattr__" = !(!.builtin "object.__setattr__")
theorem Cls.get{K}{C}(c:Cls K C)(f:Str):JG K C f:=c.pg
def Cy(K:AB)(C:AL)(f:Str):Prop:=DO K (.ref C) f=!none
theorem Cy.taker{K}{C}{f}(n:Cy K C f):Oi K C f=!none:=by
 unfold Oi;rw[show DO K (.ref C) f=!none from n];rfl
structure Tx(K:AB)(C:AL)(m:Str)(f:AL):Prop where
 at_:DO K (.ref C) m=!(!.ref f)
 fn:SZ K (.ref f)=true
 kp:GI K (.ref f)=true
section
variable{X:Cx}{ζ:¬(AL×Obj)}{σ:St}{H:Hp}{s:AK}{a C dx:AL}{fs:¬(Str×V)}{f:Str}{v:V}{A:BR}{E:AE->AK->Prop}
theorem W1(I:Inv X ζ σ H s)(e:H a=!.ins C dx fs)(c:Cls X.K C)(n:Cy X.K C f)(l:fs.lookup f=!v)
  (h:∀u s',Inv X ζ σ H s'->RelV v u->Q u s'):AW (AY X.prog X.w) A (getAttr (.ref a) f b) Q E s:=by
 let#[m,O,r,_,_,_]:=PR I.hok e;let#[u,B,j]:=JZ.some_of (v:=v) (o:=m f) (by grind);exact jE I.kIn O (c.get f) c.hd n B (ZZ j) (h u _ (I.tok _) j)
theorem W0(I:Inv X ζ σ H s)(e:H a=!.ins C dx fs)(c:Cls X.K C)(k:Tx X.K C m g)(l:fs.lookup m=none)
  (h:Q (.ref g,[.ref a]) s):AW (AY X.prog X.w) A (Zx (.ref a) m pl) Q E s:=by
 let#[j,O,r,_,_,_]:=PR I.hok e;let o:j m=none:=JZ.none_of (by grind);exact dW I.kIn O (c.get m) k.at_ k.fn o h
theorem WX(I:Inv X ζ σ H s)(e:H a=!.ins C dx fs)(c:Cls X.K C)(n:Cy X.K C f)(hl:-fs < 1000)(B:RelV y u)
  (h:∀s',Inv X ζ σ (upd H a (.ins C dx (putF f y fs))) s'->Q () s'):AW (AY X.prog X.w) A (setAttr (.ref a) f u) Q E s:=by
 let#[G,O,r,l,_,m]:=PR I.hok e
 let J:-fs.map (·.1)<=sizeLine:=by rw[AD,T2];lia
 refine iH I.kIn O c.sa c.po n.taker c.hd l J λL j N=>h _ ?_
 let P:∃o,L.get? dx=!o:=let #[o,_,_,R,_]:=j.ns;#[o,R]
 refine I.write (x:=a) (e:=dx) (by rw[e];exact EJ) (.inr m) (λb q hb z=>(N.2 b hb).trans z) P ?_;refine#[by rw[AQ O.ne];exact m,?_,O.ne,j.obj,_,j.ns,λg=>?_,λg S=>?_]
 ·let:=Oe f y fs;lia
 ·show JZ ((putF f y fs).lookup g) (if g=f then !u else G g)
  rw[Ku]
  by_cases q:g=f
  ·rw[qX q,qX q];exact B
  ext
 ·by_cases q:g=f
  ·rw[q];exact(N7 f y fs).1
  ·refine(N7 f y fs).2 g (l g λz=>S ?_)
   ext
theorem Inv.made(I:Inv X ζ σ H s):Inv X ζ σ (upd (upd H s.heap.objs.size (.own (s.heap.objs.size+1))) (s.heap.objs.size+1) (.ins C s.heap.objs.size []))
  { s with heap:=(s.heap.push C4).push (Dx C s.heap.objs.size) }:=by
 let j:(s.heap.push C4).get? s.heap.objs.size=!C4:=AO s.heap rfl
 let l:((s.heap.push C4).push (Dx C s.heap.objs.size)).get? (s.heap.objs.size+1)=!Dx C s.heap.objs.size:=by
  let:=AO (s.heap.push C4) (o:=Dx C s.heap.objs.size) rfl;rwa [DC]at this
 let m:(s.heap.push C4).Ns s.heap.objs.size (λJ=>none):=#[C4,#[],_,j,rfl,(λe w=>zX w ∅),λJ=>rfl];let B:=I.laid (a:=s.heap.objs.size) (o:=.own (s.heap.objs.size+1)) (h':=s.heap.push C4) (t':=s.toks) (λb u q=>AF _ q) (AM _) #[_,j];refine B.laid (a:=s.heap.objs.size+1) (o:=.ins C s.heap.objs.size []) (t':=s.toks) (λb u q=>AF _ q) (pT (DC _ _)) ?_;let ne:s.heap.objs.size≠s.heap.objs.size+1:=Ar (FZ _);refine#[by rw[AQ ne,Ap],Bc _,ne,l,λJ=>none,(BG.Ns1.of_empty m).at λo q=>AF _ q,λJ=>EJ,λy G=>zX rfl G]
theorem jW(hb:Bd e f j (A2 e j)=A2 e j)
  (h:AW (AY prog w) A (A2 e j) (λo l=>AW (AY prog w) A (getAttr o f true) Q E l) E s):AW (AY prog w) A (A2 (.Attribute e f pos) j) Q E s:=
 Attribute_any_ h (by rw[arm_eval_Attribute,hb])
end
def tFld(K:AB)(ta:TE)(f:Str):TE:=λl H Q=>ta l H λx j=>∃a C m fs v,x=.ref a/\j a=!.ins C m fs/\Cls K C/\Cy K C f/\fs.lookup f=!v/\Q v j
def sFld(K:AB)(ta o:TE)(f:Str):TS:=λD j H=>o j H λy w=>ta j w λx l=>∃a C m fs,x=.ref a/\l a=!.ins C m fs/\Cls K C/\Cy K C f/\-fs < 1000 /\
 D.nx j (upd l a (.ins C m (putF f y fs)))
section
variable{X:Cx}{o e value:Expr}{f:Str}{pos pos':Pos}{ta tv:TE}
theorem Jm(j:PE X e ta)(hb:Bd e f X.env (A2 e X.env)=A2 e X.env):PE X (.Attribute e f pos) (tFld X.K ta f):=by
 intro m s w H Q I h;refine jW hb (thn (j m s w H _ I h) ?_);rintro u O ⟨x,A,B,E,a,C,P,fs,v,G,J,c,n,l,q⟩;subst G;obtain rfl:u=AV a:=E
 exact W1 B J c n l λR S L N=>#[v,A,L,N,q]
theorem cF(w:PE X o ta)(A:PE X value tv)(hs:BX value (!.Attribute o f pos') pos.line X.env=pure false):PS X (.Assign [.Attribute o f pos'] value pos) (sFld X.K ta tv f):=by
 intro m s j H D I h;refine plainObj_wpAny_Assign_Attribute (thn (A m s j H _ I h) ?_) hs;rintro u B ⟨y,E,G,J,q⟩;refine thn (w m B j E _ G q) ?_;rintro L T ⟨x,U,N,O,a,C,Y,fs,P,Q,c,n,l,R⟩;subst P;obtain rfl:L=AV a:=O
 exact WX N Q c n l J λZ S=>#[j,_,S,R]
end
section
variable{X:Cx}{ζ:¬(AL×Obj)}{σ:St}{H:Hp}{s:AK}{A:BR}{E:AE->AK->Prop}{Q:AE->AK->Prop}{c:AE}{b:Bool}
set_option genInjectivity true in
inductive NU(K:AB)(H:Hp):V->AE->Prop where
 | non:NU K H .non (.type "NoneType")
 | bl (x:Bool):NU K H (.bl x) (.type "bool")
 | int (i:Int):NU K H (.int i) (.type "int")
 | str (x:Str):NU K H (.str x) (.type "str")
 | flt (x:UInt64):NU K H (.flt x) (.type "float")
 | lst {a:AL} {xs:¬V} (e:H a=!.lst xs):NU K H (.ref a) (.type "list")
 | frz {a:AL} {o:Obj} {xs:¬V} (e:H a=!.frz o (.lst xs)):NU K H (.ref a) (.type "list")
 | tup {a:AL} {xs:¬V} (e:H a=!.tup xs):NU K H (.ref a) (.type "tuple")
 | dK {a:AL} {kvs:¬(Key×V)} (e:H a=!.dK kvs):NU K H (.ref a) (.type "dict")
 | dT {a:AL} {kvs:¬(¬Key×V)} (e:H a=!.dT kvs):NU K H (.ref a) (.type "dict")
 | ins {a C dx:AL} {fs:¬(Str×V)} (e:H a=!.ins C dx fs) (cl:Cls K C) (ha:DO K (.ref C) "__class__" = !(!.builtin "object.__class__"))
   (hn:PySem.W.specialIn K (.builtin "object.__class__") "__get__" = !(!.builtin "getset_descriptor.__get__")) (yk:PySem.W.takesIn K (.builtin "object.__class__")=!true)
   (hm:PySem.W.mroIn K C (.type "object")=!true):NU K H (.ref a) (.ref C)
theorem ZU(I:Inv X ζ σ H s)(j:RelV x u)(ty:NU X.K H x t)(e:Do X.K t c=!b)(h:∀P,Q (.bool b) { s with toks:=P }) :
  AW (AY X.prog X.w) A (call (.builtin "isinstance") [u,c]) Q E s:=by
 cases ty with
 | non=>cases(show u=CQ from j);exact Cp PySem.W.kitx_none I.kIn EJ e (λz=>nomatch z) h
 | bl y=>cases(show u=Mg y from j);exact Cp PySem.W.kitx_bool I.kIn EJ e (λz=>nomatch z) h
 | int i=>let#[t,q]:=(show ∃t,u=GC i t from j);cases q;exact Cp PySem.W.kitx_int I.kIn EJ e (λz=>nomatch z) h
 | str y=>let#[t,q]:=(show ∃t,u=Oh y t from j);cases q;exact Cp PySem.W.kitx_str I.kIn EJ e (λz=>nomatch z) h
 | flt y=>let#[t,q]:=(show ∃t,u=Vw y t from j);cases q;exact Cp PySem.W.kitx_float I.kIn EJ e (λz=>nomatch z) h
 | @lst a G l=>
  cases(show u=AV a from j);let#[_,_,n,_,m]:=(show CZ X.prog X.w H s.heap a (.lst G)from I.hok a _ l);exact Cp XM I.kIn #[_,m,rfl] e (λz=>nomatch z) h
 | @frz a ob G l=>
  cases(show u=AV a from j);let#[_,_,_,n,_,m]:=(show CZ X.prog X.w H s.heap a (.frz ob (.lst G))from I.hok a _ l);exact Cp XM I.kIn #[_,m,rfl] e (λz=>nomatch z) h
 | @tup a G l=>
  cases(show u=AV a from j);let#[_,_,_,p]:=(show CZ X.prog X.w H s.heap a (.tup G)from I.hok a _ l);let#[o,m,L,_]:=p;exact Cp PySem.W.kitx_tuple I.kIn #[o,m,L] e (λz=>nomatch z) h
 | @dK a B l=>
  cases(show u=AV a from j);let#[_,_,vs,_,p]:=(show CZ X.prog X.w H s.heap a (.dK B)from I.hok a _ l);let#[o,R,S,m,L,_]:=p;exact Cp XN I.kIn #[o,m,L.1] e (λz=>nomatch z) h
 | @dT a B l=>
  cases(show u=AV a from j);let#[_,_,G,_,o,R,S,m,L,_]:=(show CZ X.prog X.w H s.heap a (.dT B)from I.hok a _ l);exact Cp XN I.kIn #[o,m,L.1] e (λz=>nomatch z) h
 | @ins a C dx fs l N T U Y Z=>
  cases(show u=AV a from j);let#[mA,O,_]:=PR I.hok l;let#[od,J,_]:=O.look;exact Cp (PySem.W.kitx_own (N.get _) N.hd T U Y Z) I.kIn J e (λz=>nomatch z) h
end
structure FK(k:Nat)(A:BR):Prop where
 hd:A.handled=none
 dp:A.depth+3 * k+5 < recursionLimit
 un:A.units+16 * k+200 < Bf
theorem FK.mono(r:FK k A)(h:j<=k):FK j A:=#[r.hd,by let:=r.dp;lia,by let:=r.un;lia]
theorem FK.deeper(r:FK (k+1) A)(j:Env):FK k (A.deeper j):=
 #[r.hd,by let:=r.dp;show A.depth+1+3 * k+5 < _;lia,by let:=r.un;show A.units+3+16 * k+200 < _;lia]
theorem Wt{A:BR}{C:AL}{us:¬AE}{j:¬(Str×AE)}:(A.under (.builtin "type.__call__" #[.ref C :: us,j])).depth=A.depth+1:=by
 rfl
theorem Wr{A:BR}{C:AL}{us:¬AE}{j:¬(Str×AE)}:(A.under (.builtin "type.__call__" #[.ref C :: us,j])).units=A.units+1:=by
 rfl
theorem FK.make{k}{A}(r:FK (k+1) A)(C:AL)(us:¬AE)(j:¬(Str×AE)):FK k (A.under (.builtin "type.__call__" #[.ref C :: us,j])):=
 #[r.hd,by let:=r.dp;rw[Wt];lia,by let:=r.un;rw[Wr];lia]
theorem FK.depth(r:FK k A):A.depth < recursionLimit:=by let:=r.dp;lia
theorem FK.units(r:FK k A):A.units+64 < Bf:=by let:=r.un;lia
def qN:TA:=λG H Q=>Q [] H
def qU(ta:TE)(l:TA):TA:=λj H Q=>ta j H λx m=>l j m λo w=>Q (x :: o) w
section
variable{X:Cx}{e:Expr}{es:¬Expr}{te:TE}{t:TA}{pos:Pos}
theorem Du:PA X [] qN:=λG G G G H Q I h=>JB #[[],H,I,.nil,h]
abbrev _root_.zSp(X:L2.Cx)(e:Expr)(es:¬Expr):Prop:=AG (e :: es) X.env=(false,A2 e X.env) :: AG es X.env
theorem Bn(m:PE X e te)(o:PA X es t)(hs:↑(zSp X e es)):PA X (e :: es) (qU te t):=by
 intro pos j s l H Q I h;rw[hs];show AW _ _ (spliced ((false,A2 e X.env) :: Cv pos (AG es X.env))) _ _ s;refine Ed (thn (m j s l H _ I h) ?_);rintro u w ⟨x,A,B,C,E⟩
 exact thn (o pos j w l A _ B E) (by rintro P R ⟨G,J,L,N,O⟩;exact #[x :: G,J,L,.cons C N,O])
def tTup(t:TA):TE:=λm H Q=>t m H λj l=>-j<=sizeLine/\∀p,l p=none->Q (.ref p) (upd l p (.tup j))
def qR(t:TA):TE:=λm H Q=>t m H λj l=>-j<=sizeLine/\∀p,l p=none->Q (.ref p) (upd l p (.lst j))
theorem TK{o}(h:PA X es t):PE X (.Tuple es o pos) (tTup t):=by
 intro w s A H Q I B;refine wpAny_Tuple_spliced (thn (h pos w s A H _ I B) λC j #[E,l,m,r,z,q]=>#[by rw[<-r.length];exact z,?_]);let G:l j.heap.objs.size=none:=m.hok.fresh (AM _);refine#[.ref j.heap.objs.size,upd l j.heap.objs.size (.tup E),m.laid (t':=j.toks) (λb u e=>AF _ e) (AM _) ?_,rfl,q _ G];exact#[#[z,#[_,AO _ rfl,rfl]],C,r,#[_,AO _ rfl,rfl,_,rfl]]
theorem cM(h:PA X es t):PE X (.List es pos) (qR t):=by
 intro o s w H Q I A;refine wpAny_List_spliced (thn (h pos o s w H _ I A) ?_);rintro B j ⟨C,l,m,r,z,q⟩;refine #[by rw[<-r.length];exact z,?_];let E:l j.heap.objs.size=none:=m.hok.fresh (AM _);refine#[.ref j.heap.objs.size,upd l j.heap.objs.size (.lst C),m.laid (t':=j.toks) (λb u e=>AF _ e) (AM _) ?_,rfl,q _ E];exact#[z,B,0,r,AO _ rfl]
end
abbrev Sp:=¬V->Hp->VK->XK->Prop
abbrev CXT:=¬Env->Hp->AK->XK->AE->AK->Prop
structure XH(P:Ao)(w:A3)(K:AB)(mg:Str->⇑AE)(base:BG)(A:BR)(outer:¬Env)(s:AK)(H:Hp):Prop where
 frames:A.frames=!outer
 mod:Mod K mg base
 bs:∀b o,base.get? b=!o->s.heap.get? b=!o/\H b=none
 bsz:base.objs.size<=s.heap.objs.size
 funs:s.heap.FunFrames base outer
 frf:∀b∈frs outer,H b=none
 hok:HOk P w H s.heap
 bare:JM s.gens
def CE(j:¬Env)(P:Ao)(w:A3)(H:Hp)(s:AK)(Q:VK)(u:AE)(s':AK):Prop:=
 ∃v l,s'.os=s.os/\JM s'.gens/\Un (frs j) [] H l s.heap s'.heap/\HOk P w l s'.heap/\RelV v u/\Q v l
def CR(CX:CXT)(j:¬Env)(P:Ao)(w:A3)(H:Hp)(s:AK)(Q:VK)(E:XK)(r:kn)(s':AK):Prop:=
 match r with
 | .ok (.ret u)=>CE j P w H s Q u s'
 | .ok _=>False
 | .error e=>CX j H s E e s'
structure Ca(P:Ao)(w:A3)(K:AB)(mg:Str->⇑AE)(base:BG)(CX:CXT)(k:Nat)(f:AL)(fd:EA)(ps:¬Str)(sp:Sp):Prop where
 len:∀vs H Q E,sp vs H Q E->-vs=-ps
 run:∀(A:BR) (outer:¬Env) (s:AK) (H:Hp) (args:Args) (us:¬AE) (vs:¬V) (Q:VK) (E:XK),FK k A->XH P w K mg base A outer s H->Vm s fd args (ps.zip us)->Bl vs us->sp vs H Q E ->
  HP (AY P w) A (.call (.ref f) args) (CR CX outer P w H s Q E) s
theorem Ca.imp{P}{w}{K}{m}{base}{CX}{k}{f}{fd}{o}{sp sp'}(F:Ca P w K m base CX k f fd o sp)
  (h:∀vs H Q E,sp' vs H Q E->sp vs H Q E):Ca P w K m base CX k f fd o sp':=
 #[λvs H Q E q=>F.len vs H Q E (h _ _ _ _ q),λA j s H l B vs Q E C G hb I J=>F.run A j s H l B vs Q E C G hb I (h _ _ _ _ J)]
theorem XH.make{P}{w}{K}{l}{base}{A}{j}{s}{H}(e:XH P w K l base A j s H)(C:AL)(us:¬AE)(m:¬(Str×AE)) :
  XH P w K l base (A.under (.builtin "type.__call__" #[.ref C :: us,m])) j s H:=#[by first | exact e.frames | (simpa[BR.under,Code.envs,Code.isFrame,pushEnvs]using e.frames),e.mod,e.bs,e.bsz,e.funs,e.frf,e.hok,e.bare]
section
variable{X:Cx}{ζ:¬(AL×Obj)}{σ:St}{H:Hp}{s s':AK}
theorem Inv.env0(I:Inv X ζ σ H s):XH X.prog X.w X.K X.mg X.base X.A X.stack s H:=
 #[I.ok.frames,I.ok.mod,I.bs,A5 I.ok.bsz I.sz,I.stack,I.stkFree,I.hok,I.bare]
theorem Inv.after(I:Inv X ζ σ H s)(h:CE X.stack X.prog X.w H s Q u s'):EP X ζ σ Q u s':=by
 let#[v,m,os,j,un,l,r,q]:=h;let#[o,g,d,t,A]:=s';obtain rfl:A=s.os:=os;exact#[v,m,I.call (h':=o) (g':=g) (d':=d) (t':=t) (ch:=[]) un l j (λb z=>zX z ∅),r,q]
end
def qV(sp:Sp)(l:¬V)(E:St->XK)(t:TA):TE:=λj H Q=>t j H λvs m=>sp (vs++l) m Q (E j)
def qP(C:AL)(m:Str)(sp:Sp)(o:¬V)(E:St->XK)(ta:TE)(t:TA):TE:=λj H Q=>ta j H λx l=>∃a w fs,x=.ref a/\l a=!.ins C w fs/\fs.lookup m=none /\
 t j l λvs A=>sp (x :: (vs++o)) A Q (E j)
def qQ(C:AL)(sp:Sp)(o:¬V)(E:St->XK)(t:TA):TE:=λm H Q=>t m H λvs l=>∀x j,l x=none->l j=none->j≠x ->
 sp (.ref x :: (vs++o)) (upd (upd l j (.own x)) x (.ins C j [])) (λv w=>v=.non/\Q (.ref x) w) (E m)
def Binds(K:AB)(fd:EA)(l:¬Str)(ds:¬AE):Prop:=
 ∀(s:AK) (j:¬AE),K.In s.heap->-(j++ds)=-l->Vm s fd #[j,[]] (l.zip (j++ds))
theorem Binds.all{K}{fd}{j}(h:∀us:¬AE,us.length=-j->fE fd #[us,[]]=pure (j.zip us)):Binds K fd j []:=λs us G l=>by
 rw[BP]at l ⊢;exact .of_eq (h us l)
def OF(CX:CXT)(X:Cx)(E:St->XK):Prop:=∀(m:¬(AL×Obj)) (j:St) (H:Hp) (s:AK) (e:AE) (l:AK),Inv X m j H s->CX X.stack H s (E j) e l->X.xe e l
section
variable{X:Cx}{k:Nat}{f C:AL}{fd:EA}{ps:¬Str}{sp:Sp}{E:St->XK}{x m:Str}{p pos apos:Pos}{e o:Expr}{es:¬Expr}{ta:TE}{t:TA}
theorem bq(F:Ca X.prog X.w X.K X.mg X.base CX k f fd ps sp)(L:FK k X.A)(hb:Binds X.K fd ps ds)(N:Bl l ds)(O:OF CX X E)
  (I:Inv X B j H s) (r:Bl vs us) (h:sp (vs++l) H Q (E j)):AW (AY X.prog X.w) X.A (call (.ref f) us) (EP X B j Q) X.xe s:=by
 let G:Bl (vs++l) (us++ds):=r.append N
 let P:-(us++ds)=-ps:=by rw[<-G.length];exact F.len _ _ _ _ h
 refine kZ (Ey (F.run X.A X.stack s H #[us,[]] (us++ds) (vs++l) Q (E j) L I.env0 (hb s us I.kIn P) G h) λr R J=>?_)
 cases r with
 | error e=>exact O B j H s e R I J
 | ok S=>
  cases S with
  | ret u=>exact I.after J
  | next=>assumption
  | brk=>assumption
  | cont=>assumption
theorem TN(F:Ca X.prog X.w X.K X.mg X.base CX k f fd ps sp)(G:FK k X.A)(J:Gl X x)(L:X.mg x=!.ref f)(N:GI X.K (.ref f))(hb:Binds X.K fd ps ds)(O:Bl P ds)(R:OF CX X E)
  (S:PA X (e :: es) t) (j:↥((x==("__debug__" : Str))=false)) (T:↑(zSp X e es)) (l:↑((Cv pos (AG es X.env)).any (·.1)=false)) :
  PE X (.Call (.Name x p) (e :: es) [] pos) (qV sp P E t):=by
 intro U s Y H Q I h;refine Ex (TY I J L ?_ j);refine MC (h₀:=X.base) I.ok.mod.kin N (thn (S pos U s Y H _ I h) λZ s1 #[vs,H1,B,r,q]=>#[B.kIn,?_]) T l;exact bq F G hb O R B r q
theorem iZ(P:PE X o ta)(c:Cls X.K C)(B:Tx X.K C m f)(F:Ca X.prog X.w X.K X.mg X.base CX k f fd ps sp)(R:FK k X.A)(hb:Binds X.K fd ps ds)(S:Bl T ds)(U:OF CX X E)(Y:PA X (e :: es) t)
  (Z:↑(zSp X e es)) (j:↑((Cv pos (AG es X.env)).any (·.1)=false))
  (ht:↑(A2 (.Call (.Attribute o m apos) (e :: es) [] pos) X.env=(do
   let G <-A2 o X.env
   JD apos.atName
   let (f,fts) <-F7 [G] (Zx G m pl)
   callWith pos f fts (Cv pos (AG (e :: es) X.env)) (LV pos (G1 [] X.env))))) :
  PE X (.Call (.Attribute o m apos) (e :: es) [] pos) (qP C m sp T E ta t):=by
 intro J s L H Q I h;refine PySem.W.methodCall_KW (pl:=pl) (thn (P J s L H _ I h) ?_) ht;rintro u s1 ⟨x,H1,N,rx,a,dx,fs,ex,ea,l,q⟩;subst ex;obtain rfl:u=AV a:=rx;refine W0 N ea c B l ?_;refine MC (first:=[.ref a]) (h₀:=X.base) I.ok.mod.kin B.kp (thn (Y pos J s1 L H1 _ N q) ?_) Z j;rintro us s2 ⟨vs,H2,O,r,q2⟩;refine #[O.kIn,?_];exact bq (us:=.ref a :: us) (vs:=.ref a :: vs) F R hb S U O (.cons rfl r) q2
structure Mk(K:AB)(C f:AL):Prop where
 makes:Z3 K C=true
 init:DO K (.ref C) "__init__" = !(!.ref f)
 fn:SZ K (.ref f)=true
 kp:GI K (.ref C)=true
theorem bo(M:Mk X.K C f)(F:Ca X.prog X.w X.K X.mg X.base CX k f fd ps sp)(P:FK (k+1) X.A)(hb:Binds X.K fd ps ds)(R:Bl G ds)
  (S:OF CX X E) (I:Inv X J j H s) (r:Bl vs us)
  (h:∀x l,H x=none->H l=none->l≠x->sp (.ref x :: (vs++G)) (upd (upd H l (.own x)) x (.ins C l [])) (λv T=>v=.non/\Q (.ref x) T) (E j)) :
  AW (AY X.prog X.w) X.A (call (.ref C) us) (EP X J j Q) X.xe s:=by
 let L:=h (s.heap.objs.size+1) s.heap.objs.size (I.hok.fresh (Q6 _)) (I.hok.fresh (AM _)) (Ar (FZ _));let B:=Inv.made (C:=C) I;let N:Bl (V.ref (s.heap.objs.size+1) :: (vs++G)) (AV (s.heap.objs.size+1) :: (us++ds)):=.cons rfl (r.append R)
 let U:-(AV (s.heap.objs.size+1) :: us++ds)=-ps:=by
  let e:=-N;rw[F.len _ _ _ _ L]at e;exact e.symm
 refine kZ (cn (f:=f) I.kIn M.makes M.init (beq_iff_eq.mp M.fn) (Ey (F.run _ X.stack _ _ #[AV (s.heap.objs.size+1) :: us,[]] (AV (s.heap.objs.size+1) :: (us++ds)) _ _ (E j) (P.make C us [])
  (B.env0.make C us []) (hb _ (AV (s.heap.objs.size+1) :: us) B.kIn U) N L) λr Y O=>?_))
 cases r with
 | error e=>exact S J j _ _ e Y B O
 | ok Z=>
  cases Z with
  | ret u=>
   let#[v,H',I3,rv,ev,q3]:=B.after O;subst ev;exact#[rv,#[V.ref (s.heap.objs.size+1),H',I3,rfl,q3]]
  | next=>assumption
  | brk=>assumption
  | cont=>assumption
theorem X6(M:Mk X.K C f)(F:Ca X.prog X.w X.K X.mg X.base CX k f fd ps sp)(G:FK (k+1) X.A)(J:Gl X x)(L:X.mg x=!.ref C)(hb:Binds X.K fd ps ds)(N:Bl O ds)(P:OF CX X E)
  (R:PA X (e :: es) t) (j:↥((x==("__debug__" : Str))=false)) (S:↑(zSp X e es)) (l:↑((Cv pos (AG es X.env)).any (·.1)=false)) :
  PE X (.Call (.Name x p) (e :: es) [] pos) (qQ C sp O E t):=by
 intro T s U H Q I h;refine Ex (TY I J L ?_ j);refine MC (h₀:=X.base) I.ok.mod.kin M.kp (thn (R pos T s U H _ I h) ?_) S l;rintro Y Z ⟨vs,H1,B,r,q⟩;refine #[B.kIn,?_];exact bo M F G hb N P B r q
end
structure Hk(N P:¬Str)(sc:LW):Prop where
 kind:sc.kind=.function
 co:sc.isCoroutine=false
 gen:sc.isGenerator=false
 nd:N.Nodup
 pre:N.take (-P)=P
 par:∀x∈P,sc.names.lookup x=!.local∨sc.names.lookup x=!.cell
 nofree:∀y∈sc.names,y.2≠.free
theorem SR{kindOf}{x}:∀{binds:¬(Str×AE)} {m:Str->⇑AE},(∀v,(x,v)∉binds)->Zz kindOf binds m x=m x
 | [],_,_=>rfl
 | (n,v) :: r,m,h=>by
  unfold Zz;rw[SR λw hw=>h w (AN _ hw)];split
  ·grind
  ·rfl
theorem SU{kindOf}{x}:∀{binds:¬(Str×AE)} {m:Str->⇑AE},(∀v,(x,v)∉binds)->Z0 kindOf binds m x=m x
 | [],_,_=>rfl
 | (n,v) :: r,m,h=>by
  unfold Z0;rw[SU λw hw=>h w (AN _ hw)];split
  ·rfl
  grind
theorem SS{kindOf}{x}{v}:∀{P:¬Str} {vs:¬AE} {i:Nat} {m:Str->⇑AE},P.Nodup->P[i]?=!x->vs[i]?=!v->kindOf x=!.local ->
  Zz kindOf (P.zip vs) m x=!v
 | [],_,_,_,_,h,_,_=>by simp at h
 | _ :: _,[],_,_,_,_,h,_=>by simp at h
 | p :: P,w :: vs,0,m,o,j,l,A=>by
  simp at j l;subst j;subst l;show Zz kindOf ((p,w) :: P.zip vs) m p=_;unfold Zz;rw[SR λv B=>(BO.mp o).1 (KQ B).1,qX A];simp
 | p :: P,w :: vs,i+1,m,o,j,l,A=>by
  show Zz kindOf ((p,w) :: P.zip vs) m x=_;unfold Zz;exact SS (i:=i) (BO.mp o).2 (by simpa using j) (by simpa using l) A
theorem SV{kindOf}{x}{v}:∀{P:¬Str} {vs:¬AE} {i:Nat} {m:Str->⇑AE},P.Nodup->P[i]?=!x->vs[i]?=!v->kindOf x≠!.local ->
  Z0 kindOf (P.zip vs) m x=!v
 | [],_,_,_,_,h,_,_=>by simp at h
 | _ :: _,[],_,_,_,_,h,_=>by simp at h
 | p :: P,w :: vs,0,m,o,j,l,A=>by
  simp at j l;subst j;subst l;show Z0 kindOf ((p,w) :: P.zip vs) m p=_;unfold Z0;rw[SU λv B=>(BO.mp o).1 (KQ B).1,qY A];simp
 | p :: P,w :: vs,i+1,m,o,j,l,A=>by
  show Z0 kindOf ((p,w) :: P.zip vs) m x=_;unfold Z0;exact SV (i:=i) (BO.mp o).2 (by simpa using j) (by simpa using l) A
def start(N:¬Str)(vs:¬V):St:=vs.map some++Bj (-N - -vs) none
def Qm(CX:CXT)(P:Ao)(w:A3)(K:AB)(mg:Str->⇑AE)(base:BG)(N:¬Str)(j:Str)(scope:LW)(f:AL)(l:AE)(A:BR)(outer:¬Env)(s:AK)(H:Hp)(E:XK):Cx where
 prog:=P
 w:=w
 K:=K
 mg:=mg
 base:=base
 A:=A.deeper (HN j scope s.heap.objs.size f l)
 N:=N
 s₀:=s
 H₀:=H
 env:=HN j scope s.heap.objs.size f l
 outer:=outer
 stack:=HN j scope s.heap.objs.size f l :: outer
 ex:=[]
 calm:=true
 fn:=λG=>true
 pn:=[]
 xe:=λe o=>AW (AY P w) (A.deeper (HN j scope s.heap.objs.size f l)) (leaving (HN j scope s.heap.objs.size f l) e) (λG m=>CX outer H s E e m) (λB m=>CX outer H s E B m) o
theorem VX{j:LW}{n:Nat}{x:Str}(h:j.names.lookup x=!.cell):∃c,(CD n j.names []).lookup x=!c:=by
 let q:=Sb j.names n [] (.inl h);exact CF.mp q
theorem ZW{CX:CXT}{P:Ao}{w:A3}{K:AB}{Q:Str->⇑AE}{base:BG}{N o:¬Str}{l:Str}{scope:LW}{f:AL}{J:AE}{A:BR}{j:¬Env}{s s1:AK}{H:Hp}{E:XK}{us:¬AE}{vs:¬V}
  (S:Hk N o scope) (X:A.handled=none) (m:XH P w K Q base A j s H) (hl:-vs=-o) (r:Bl vs us)
  (x:InCallC s s.heap.objs.size (Zz (HN l scope s.heap.objs.size f J).kindOf (o.zip us) λM=>none) (CD (s.heap.objs.size+1) scope.names []) (Z0 (HN l scope s.heap.objs.size f J).kindOf (o.zip us) λM=>none) s1) :
  Inv (Qm CX P w K Q base N l scope f J A j s H E) [] (start N vs) H s1:=by
 let Y:-o<=-N:=by let:=congrArg Dp S.pre;rw[Cc]at this;lia
 let#[L,tk,rfl,T]:=x.done
 let R:∀b:AL,b∉(Qm CX P w K Q base N l scope f J A j s H E).ex:=λb z=>zX (show b∈([]:¬AL)from z) ∅
 refine#[#[m.mod,S.kind,rfl,rfl,AM _,λy z c L B=>?_,λy C=>?_,λy c M h=>?_,λM=>X,BR.frames_deeper m.frames,.inr #[rfl,rfl],λb z=>zX z (R b),m.bs,m.bsz,λb M M=>R b,λb z=>zX z (R b),m.funs,m.frf],
  rfl,m.bare,Un.kept T,#[_,x.toInCall.ns,λi y v L B h3=>?_],λy c h=>#[_,x.cell y c h],m.hok.fresh (AM _),λy c h=>?_,λp G=>zX (show p∈([]:¬(AL×Obj))from G) ∅,m.hok.kept T,?_]
 ·exact name_of_addr x.apart (De L) (De B)
 ·let C:scope.names.lookup y=!.cell∨scope.names.lookup y=!.free:=C
  rcases C with C | C
  ·exact VX C
  ·exact zX rfl (S.nofree _ (De C))
 ·exact KP (x.above y c (De h))
 ·let O:i < -vs:=by
   unfold start at B
   by_cases O:i < -vs
   ·exact O
   ·rw[BU (by simpa using O)]at B
    rw[J5]at B
    ext
  let Z:vs[i]?=!v:=by
   unfold start at B;rw[Bq (by simpa using O),Ai]at B
   cases e:vs[i]? with
   | none=>ext
   | some a=>ext
  let#[u,U,rv]:=r.get Z
  let G:o[i]?=!y:=by
   rw[<-S.pre,T9 (by ext)];exact L
  let I:o.Nodup:=by rw[<-S.pre];exact S.nd.sublist (aH _ _)
  refine#[u,rv,?_]
  rcases S.par y (Az G)with k | k
  ·exact .inl #[k,SS I G U k]
  ·let#[c,e]:=VX (n:=s.heap.objs.size+1) k
   refine .inr #[.inl k,c,e,?_];let q:=x.cell y c e;rw[SV I G U (by show scope.names.lookup y≠_;ext)]at q;exact q
 ·exact m.hok.fresh (KP (x.above y c (De h)))
 ·unfold start
  show _=-N;ext
theorem SJ{CX}{P}{w}{K}{R}{base}{k}{f}{name l}{params}{m}{scope}{Z kV L pm C ct oc}{an od}
  {uz} {N T} {sp} (lk:K.lookup f=!#[oc,od,.func (He name l params m scope Z kV L pm an C ct),uz]) (tR:Ph K C l) (S:Hk N T scope)
  (len:∀vs H Q E,sp vs H Q E->-vs=-T)
  (tK:∀(A:BR) (j:¬Env) (s:AK) (H:Hp) (vs:¬V) (Q:VK) (E:XK),FK k (A.deeper (HN l scope s.heap.objs.size f C))->sp vs H Q E ->
   ∃t,PSs (Qm CX P w K R base N l scope f C A j s H E) m t/\t { nx:=λM H'=>Q .non H',rt:=Q } (start N vs) H) :
  Ca P w K R base CX (k+1) f (He name l params m scope Z kV L pm an C ct) T sp:=by
 refine#[len,λA j s H args us vs Q E U O hb r xQ=>?_];let hl:=len _ _ _ _ xQ
 let KX:K.In s.heap:=O.mod.kin.keeps λb o e=>(O.bs b o e).1
 let X:s.heap.NoLimit:=O.mod.nolimit.keeps λb o e=>(O.bs b o e).1
 let ym:∀y∈T.zip us,scope.names.lookup y.1=!.local∨(scope.names.lookup y.1=!.cell/\((CD (s.heap.objs.size+1) scope.names []).lookup y.1).isSome=true):=by
  rintro ⟨n,v⟩ hy
  rcases S.par n (KQ hy).1 with q | q
  ·exact .inl q
  ·exact .inr #[q,Sb _ _ _ (.inl q)]
 refine codeAny_call_function U.depth (KX _ _ lk) rfl S.co S.gen rfl (PySem.W.codeRec_of KX tR) (hb _ _ _ _ ?_)
 refine wpAny_newFunctionEnv_cells S.kind ym λenv he s1 x=>?_
 subst he;refine#[X.keeps x.toInCall.keep,codeAny_func ?_];let#[t,ht,hq]:=tK A j s H vs Q E (U.deeper _) xQ;let I:Inv (Qm CX P w K R base N l scope f C A j s H E) [] (start N vs) H s1:=ZW S U.hd O hl r x
 refine Da (ht [] s1 (start N vs) H _ I hq) (λfl s' G=>?_) λe s' G=>G
 let fin:∀{B:St} {H':Hp} {v:V} {u:AE},Inv (Qm CX P w K R base N l scope f C A j s H E) [] B H' s'->RelV v u->Q v H'->CE j P w H s Q u s':=
  λ{B H' v u} J Y q=>#[v,H',J.os,J.bare,J.base,J.hok,Y,q]
 cases fl with
 | ret u=>
  let#[v,B,H',J,Y,q]:=G;exact fin J Y q
 | next=>
  let#[B,H',J,q]:=G;exact fin (v:=V.non) (u:=CQ) J rfl q
 | brk=>
  let#[_,_,_,q]:=G
  ext
 | cont=>
  let#[_,_,_,q]:=G
  ext
section
variable{X:Cx}{x:Str}{p pos:Pos}{e:Expr}{es:¬Expr}{t:TA}{id T:String}{r:¬V->Hp->VK->Prop}
def tCB(r:¬V->Hp->VK->Prop)(t:TA):TE:=λj H Q=>t j H λvs l=>r vs l Q
theorem QN(w:IG X (.builtin id) r)(A:Gl X x)(B:X.mg x=none)(C:ES x=!.builtin id)(E:PA X (e :: es) t)(G:↥(x≠"__name__")) (j:↥((x==("__debug__" : Str))=false))
  (J:↑(zSp X e es)) (l:↑((Cv pos (AG es X.env)).any (·.1)=false)):PE X (.Call (.Name x p) (e :: es) [] pos) (tCB r t):=by
 intro m s o H Q I h;refine Ex (IB I A B C ?_ G j);exact Ll (thn (E pos m s o H _ I h) (by rintro L N ⟨vs,O,P,R,S⟩;exact w m N o O vs L Q P R S)) J l
theorem ZJ(w:IG X (.type T) r)(A:Gl X x)(B:X.mg x=none)(C:ES x=!.type T)(E:PA X (e :: es) t)(G:↥(x≠"__name__")) (j:↥((x==("__debug__" : Str))=false))
  (J:↑(zSp X e es)) (l:↑((Cv pos (AG es X.env)).any (·.1)=false)):PE X (.Call (.Name x p) (e :: es) [] pos) (tCB r t):=by
 intro m s o H Q I h;refine Ex (IB I A B C ?_ G j);exact Br (thn (E pos m s o H _ I h) λL N #[vs,O,P,R,S]=>w m N o O vs L Q P R S) J l
end
end L2
namespace HT
section
variable{prog:Ao}{w:A3}{A:BR}{E:AE->AK->Prop}{s:AK}
theorem jS(N:fM s.heap t vs.toArray)(hb:fM s.heap b j.toArray)(O:vs≠[])
  (P:j=[]->Q (.ref t) s) (R:j≠[]->Q (.ref s.heap.objs.size) { s with heap:=s.heap.push { cls:=.type "tuple",data:=.seq (vs++j).toArray } })
  (hsz:-vs+-j<=sizeLine):AW (AY prog w) A (D7 .Add (.ref t) (.ref b)) Q E s:=by
 let#[#[cls,C,data,G],B,H,n,I]:=id N;let#[#[J,m,data2,o],l,hc2,L,hd2]:=id hb;simp only at H I hc2 hd2;subst H I hc2 hd2
 let e:vs.toArray++j.toArray=(vs++j).toArray:=by simp
 by_cases hw:j=[]
 ·exact aG #[_,B,rfl] #[_,l,rfl] SY Yf Je JI (Ii _ _)
   (tuple_addW1 t b vs.toArray j.toArray n L C m G o (by simpa using O) (by simp[hw])) #[B,l,P hw]
 ·refine aG #[_,B,rfl] #[_,l,rfl] SY Yf Je JI (Ii _ _)
   (tuple_addW2 t b vs.toArray j.toArray n L C m G o (by ext) (by ext) (by assumption)) #[B,l,?_]
  rw[e];exact R hw
noncomputable def sIx(n d:Nat):⇑Int->Nat
 | none=>d
 | some v=>if v < 0 then(v+(n:Int)).toNat else min v.toNat n
theorem Uk(n d:Nat):sIx n d none=d:=rfl
theorem Xv(n d k:Nat):sIx n d (!(k:Int))=min k n:=by
 rfl
theorem l7(n d:Nat)(l:d<=n)(o:⇑Int):sIx n d o<=n:=by
 cases o with
 | none=>exact l
 | some v=>
  show(if v < 0 then(v+(n:Int)).toNat else min v.toNat n)<=n
  by_cases j:v < 0
  ·rw[qX j];lia
  ·rw[qY j];exact Nat.min_le_right _ _
theorem YY(v:Int)(n d:Nat):(if v < 0 then max (v+(n:Int)) 0 else min v (n:Int))=((sIx n d (!v):Nat):Int):=by
 show(if v < 0 then max (v+(n:Int)) 0 else min v (n:Int))=(((if v < 0 then(v+(n:Int)).toNat else min v.toNat n):Nat):Int)
 by_cases j:v < 0
 ·ext
 ·simp only[qY j];grind
theorem XD(lo hi:⇑Int)(n:Nat):HS lo hi 1 (n:Int)=(((sIx n 0 lo:Nat):Int),((sIx n n hi:Nat):Int)):=by
 let j:Not ((1:Int) < 0):=by decide
 unfold HS;simp only[j,if_false];refine Lm ?_ ?_
 ·cases lo with
  | none=>rfl
  | some v=>exact YY v n 0
 ·cases hi with
  | none=>rfl
  | some v=>exact YY v n n
theorem Wg(i j:Nat):Eo (i:Int) (j:Int) 1=j - i:=by
 unfold Eo
 let l:(1:Int) > 0:=by decide
 simp only[l,if_true,Int.ediv_one]
 split <;> ext
theorem P4(p:Ni v o)(h:Q o s):AW (AY prog w) A (pY v) Q E s:=by
 cases p with
 | none=>exact slicePart_none h
 | int i t=>exact slicePart_int h
theorem JS{B:AL}{j l:AE}{lo hi:⇑Int}{n:Nat}{Q:Int×Int×Nat->AK->Prop}(hs:s.heap.IsSliceOf B j l .none)(pl:Ni j lo)(C:Ni l hi)
  (h:Q (((sIx n 0 lo:Nat):Int),1,sIx n n hi - sIx n 0 lo) s):AW (AY prog w) A (Mn (.ref B) (pure (n:Int))) Q E s:=by
 let#[os,m,G,o]:=id hs;unfold Mn pZ;refine AA (AA (ER m o (x:=j) rfl (AA (ER m o (x:=l) rfl (AA (ER m o (x:=.none) rfl (AC ?_)))))));refine AA (slicePart_none ?_);show AW _ _ (if ((1:Int)==0) then _ else _) _ _ s;rw[qY (by ext)];refine AA (P4 pl (AA (P4 C (AA (AC ?_)))));show AW _ _ (match HS lo hi 1 (n:Int)with | (lo,hi)=>pure (lo,(1:Int),Eo lo hi 1)) _ _ s;rw[XD lo hi n];show AW _ _ (pure (((sIx n 0 lo:Nat):Int),(1:Int),Eo ((sIx n 0 lo:Nat):Int) ((sIx n n hi:Nat):Int) 1)) _ _ s;rw[Wg];exact AC h
theorem cJ(xs:Array AE)(i k:Nat):((A0 k).filterMap λ(m:Nat)=>xs[((i:Int)+(m:Int) * 1).toNat]?).toArray=((xs.toList.drop i).take k).toArray:=by
 let e:(λ(m:Nat)=>xs[((i:Int)+(m:Int) * 1).toNat]?)=λm=>xs[i+m]?:=by
  funext m
  let:((i:Int)+(m:Int) * 1).toNat=i+m:=by lia
  rw[this]
 rw[e];let:=pick_run xs i k;rw[aA]at this
 let j:((λx=>xs[x]?)∘λx=>i+x)=λm=>xs[i+m]?:=rfl
 ext
theorem NQ{t B}{j}{C G}{lo hi}{Q}(l:fM s.heap t j)(hs:s.heap.IsSliceOf B C G .none)(pl:Ni C lo)(H:Ni G hi)
  (hw:Not (sIx j.size 0 lo=0/\sIx j.size j.size hi=j.size))
  (h:Q (.ref s.heap.objs.size) { s with heap:=s.heap.push { cls:=.type "tuple",data:=.seq ((j.toList.drop (sIx j.size 0 lo)).take (sIx j.size j.size hi - sIx j.size 0 lo)).toArray } })
  (hsz:j.size<=sizeLine):AW (AY prog w) A (JF (.ref t) (.ref B)) Q E s:=by
 let o:sizeOk (.seq ((j.toList.drop (sIx j.size 0 lo)).take (sIx j.size j.size hi - sIx j.size 0 lo)).toArray):=by
  show((j.toList.drop (sIx j.size 0 lo)).take (sIx j.size j.size hi - sIx j.size 0 lo)).toArray.size<=sizeLine;rw[BZ,Cc,FX,Ad];omega
 let O:sIx j.size j.size hi<=j.size:=l7 _ _ (AM _) hi;let#[os,I,J,P]:=id hs;let L:s.TypeIs (.ref B) "slice":=#[os,I,J];unfold JF
 try with_reducible refine C0 ?_
 first | refine AA (AC ?_) | skip
 refine AA (og l.typeIs (by rfl) ?_)
 refine AA (BJ (name:=Str.ofString "__getitem__") l.typeIs CK
  (BI CK l.typeIs ja ?_ (kj _ _)))
 show AW _ _ (HC (.ref t) >>= _) _ _ s;refine AA (tupleItemsOf_ l ?_);refine AA (JC L ?_);rw[qX (by rfl)];refine AA (JS hs pl H ?_)
 let N:Not ((((sIx j.size 0 lo:Nat):Int)==0&&(1:Int)==1&&(sIx j.size j.size hi - sIx j.size 0 lo)==j.size)=true):=by
  intro q;rw[DN,DN]at q;let R:((sIx j.size 0 lo:Nat):Int)=0:=eq_of_beq q.1.1;let S:sIx j.size j.size hi - sIx j.size 0 lo=j.size:=eq_of_beq q.2;exact hw #[by ext,by ext]
 show AW _ _ (if (((sIx j.size 0 lo:Nat):Int)==0&&(1:Int)==1&&(sIx j.size j.size hi - sIx j.size 0 lo)==j.size) then _ else _) _ _ s;rw[qY N,cJ]
 first
  | exact AA (m:=E2 _) (A8 (AC #[_,rfl,AC h]) o)
  | exact AA (m:=E2 _) (A8 (AA (AC (AC #[_,rfl,AC h]))) o)
  | exact AA (AA (m:=E2 _) (A8 (AC (AC #[_,rfl,AC h])) o))
  | exact AA (AA (m:=E2 _) (A8 (AC #[_,rfl,AC h]) o))
end
end HT
namespace L2
section
abbrev TO:=St->Hp->(⇑Int->Hp->Prop)->Prop
def PO(X:Cx)(e:⇑Expr)(t:TO):Prop:=
 ∀(l:¬(AL×Obj)) (s:AK) (j:St) (H:Hp) (Q:⇑Int->Hp->Prop),Inv X l j H s->t j H Q ->
  AW (AY X.prog X.w) X.A (evalPart e X.env) (λu B=>∃o m,Inv X l j m B/\Ni u o/\Q o m) X.xe s
def hX:TO:=λG H Q=>Q none H
def qL(t:TE):TO:=λj H Q=>t j H λx l=>∃i,x=.int i/\Q (!i) l
theorem intsAre_of:∀{us:¬AE},Bl (ns.map V.int) us->F9 us ns:=by
 induction ns with
 | nil=>intro us r;rw[Vh]at r;cases r;exact .nil
 | cons n ns j=>
  intro us r;rw[Al]at r
  cases r with
  | cons l m=>
   let#[t,e]:=l;subst e;exact .cons n t (j m)
section
variable{κ:Type}[DecidableEq κ]
def IL(kvs:¬(κ×V))(k:κ):⇑V:=(kvs.find? λj=>decide (j.1=k)).map (·.2)
noncomputable def IM(kvs:¬(κ×V))(k:κ)(v:V):¬(κ×V):=
 if (kvs.any λj=>decide (j.1=k)) then kvs.map (λj=>if j.1=k then(j.1,v)else j)else kvs++[(k,v)]
theorem KY{p:κ×V}{r:¬(κ×V)}{k:κ}(e:p.1=k):IL (p :: r) k=!p.2:=by simp[IL,CV,e]
theorem KZ{p:κ×V}{r:¬(κ×V)}{k:κ}(e:Not (p.1=k)):IL (p :: r) k=IL r k:=by simp[IL,CV,e]
theorem My(k:κ):∀kvs:¬(κ×V),(kvs.any λj=>decide (j.1=k))=(IL kvs k).isSome
 | []=>rfl
 | p :: r=>by
  rw[Mm]
  by_cases e:p.1=k
  ·simp only[KY e,wX e,Bool.true_or,Mb]
  ·rw[KZ e,wY e,kx];exact My k r
theorem Kv(kvs:¬(κ×V))(k:κ)(v:V):-IM kvs k v<=-kvs+1:=by
 unfold IM;split
 ·rw[AD];ext
 ext
theorem JZ.isSome_eq(r:JZ o u):o.isSome=u.isSome:=by
 cases o with
 | none=>cases u with
  | none=>rfl
  | some _=>exact(show False from r).elim
 | some _=>cases u with
  | none=>exact(show False from r).elim
  | some _=>rfl
theorem JZ.getD(r:JZ o u)(rd:RelV d d'):RelV (o.getD d) (u.getD d'):=by
 cases o with
 | none=>cases u with
  | none=>exact rd
  | some _=>exact(show False from r).elim
 | some _=>cases u with
  | none=>exact(show False from r).elim
  | some _=>exact r
theorem KV.val{kvs:¬(κ×V)}{vs:¬(κ×AE)}(r:KV kvs vs)(k:κ):JZ (IL kvs k) (RB vs k):=by
 unfold KV at r
 induction r with
 | nil=>exact EJ
 | @cons p q A j h t o=>
  let#[m,w]:=h
  by_cases e:p.1=k
  ·let l:q.1=k:=m.symm.trans e
   let b:RB (q :: j) k=!q.2:=by simp[RB,CV,l]
   rw[KY e,b];exact w
  ·let l:Not (q.1=k):=λz=>e (m.trans z)
   let b:RB (q :: j) k=RB j k:=by simp[RB,CV,l]
   rw[KZ e,b];exact o
theorem KV.any(r:KV kvs vs)(k:κ):(kvs.any λj=>decide (j.1=k))=vs.any λj=>decide (j.1=k):=by
 unfold KV at r
 induction r with
 | nil=>rfl
 | cons h t l=>ext
theorem KV.repl(r:KV kvs vs)(k:κ)(m:RelV y u) :
  KV (kvs.map λj=>if j.1=k then(j.1,y)else j) (vs.map λj=>if j.1=k then(j.1,u)else j):=by
 unfold KV at r ⊢
 induction r with
 | nil=>exact .nil
 | @cons p q o w h t l=>
  rw[Al,Al];refine .cons ?_ l
  lia
theorem KV.put(r:KV kvs vs)(k:κ)(j:RelV y u):KV (IM kvs k y) (stored vs k u):=by
 unfold IM stored;rw[r.any k]
 by_cases e:(vs.any λl=>decide (l.1=k))=true
 ·rw[qX e,qX e];exact r.repl k j
 ·rw[qY e,qY e];exact Oj r #[rfl,j]
theorem KV.length(r:KV kvs vs):-kvs=-vs:=C5 r
end
theorem SG(r:RelV (kV k) u):(Dt P w).is k u:=by
 cases k with
 | inl i=>let#[t,e]:=(show ∃t,u=GC i t from r);subst e;exact U6 P w i t
 | inr x=>let#[t,e]:=(show ∃t,u=Oh x t from r);subst e;exact U5 P w x t
theorem SH:∀{ks:¬Key} {us:¬AE},Bl (ks.map kV) us->ItemsAre (Dt P w) ks us
 | [],_,r=>by rw[Vh]at r;cases r;exact .nil
 | k :: ks,_,r=>by
  rw[Al]at r
  cases r with
  | cons h t=>exact .cons (SG h) (SH t)
abbrev KT(H:Hp):¬(¬Key×V)->¬(¬Key×AL×AE)->Prop:=Ez λp q=>p.1=q.1/\H q.2.1=!.tup (p.1.map kV)/\RelV p.2 q.2.2
theorem KT.val{H:Hp}{kvs:¬(¬Key×V)}{xs:¬(¬Key×AL×AE)}(r:KT H kvs xs)(k:¬Key):JZ (IL kvs k) ((KI xs k).map (·.2)):=by
 induction r with
 | nil=>exact EJ
 | @cons p q A j h t o=>
  let#[m,_,w]:=h
  by_cases e:p.1=k
  ·let l:q.1=k:=m.symm.trans e
   let b:KI (q :: j) k=!q.2:=by simp[KI,CV,l]
   rw[KY e,b];exact w
  ·let l:Not (q.1=k):=λz=>e (m.trans z)
   let b:KI (q :: j) k=KI j k:=by simp[KI,CV,l]
   rw[KZ e,b];exact o
theorem KT.repl(r:KT H kvs xs)(k:¬Key)(m:RelV y u) :
  KT H (kvs.map λj=>if j.1=k then(j.1,y)else j) (xs.map (T3 k u)):=by
 induction r with
 | nil=>exact .nil
 | @cons p q o w h t l=>
  rw[Al,Al];refine .cons ?_ l;let#[A,B,C]:=h;unfold T3
  lia
theorem KT.put(r:KT H kvs xs)(k:¬Key)(hb:H b=!.tup (k.map kV))(j:RelV y u) :
  KT H (IM kvs k y) (OK xs k b u):=by
 let e:(kvs.any λl=>decide (l.1=k))=(KI xs k).isSome:=by
  rw[My,(r.val k).isSome_eq,Et]
 unfold IM OK;rw[e]
 by_cases q:(KI xs k).isSome=true
 ·rw[qX q,qX q];exact r.repl k j
 ·rw[qY q,qY q];exact Oj r #[rfl,hb,j]
theorem KT.keeps(r:KT H kvs xs)(l:∀b j,H b=!.tup j->H' b=!.tup j):KT H' kvs xs:=
 Ez.mapP r λG G z=>#[z.1,l _ _ z.2.1,z.2.2]
variable{X:Cx}{e:Expr}{lo hi:⇑Expr}{pos p2:Pos}
theorem iS:PO X none hX:=by
 intro j s l H Q I h;rw[evalPart_none];exact AC #[none,H,I,.none,h]
theorem iR(h:PE X e j):PO X (!e) (qL j):=by
 intro l s m H Q I hw;rw[evalPart_some]
 refine thn (h l s m H _ I hw) ?_;rintro u C ⟨x,o,w,A,B⟩
 let#[i,rfl,q]:=B;let#[t,rfl]:=A;exact#[!i,o,w,.int i t,q]
def SlR(X:Cx)(r:V->⇑Int->⇑Int->Hp->VK->Prop):Prop:=
 ∀(j:¬(AL×Obj)) (s:AK) (l:St) (H:Hp) (x:V) (v m o:AE) (lo hi:⇑Int) (B:AL) (Q:VK),Inv X j l H s->RelV x v->s.heap.IsSliceOf B m o .none->Ni m lo->Ni o hi->r x lo hi H Q ->
  ∃T id,typeLookup (.type T) "__getitem__" = pure (!.builtin id)/\s.TypeIs v T/\AW (AY X.prog X.w) X.A (JF v (.ref B)) (EP X j l Q) X.xe s
theorem SlR.or(h:SlR X r)(h':SlR X G):SlR X (λx lo hi H Q=>r x lo hi H Q∨G x lo hi H Q):=by
 intro j s l H x v m o lo hi w Q I A B C E q
 rcases q with q | q
 ·exact h j s l H x v m o lo hi w Q I A B C E q
 ·exact h' j s l H x v m o lo hi w Q I A B C E q
def tSl(r:V->⇑Int->⇑Int->Hp->VK->Prop)(m:TE)(o w:TO):TE:=λj H Q=>m j H λx A=>o j A λl B=>w j B λu C=>r x l u C Q
theorem cL(G:SlR X r)(J:PE X e L)(hl:PO X lo N)(O:PO X hi P):PE X (.Subscript e (.Slice lo hi none p2) pos) (tSl r L N P):=by
 intro m s o H Q I h;refine km (thn (J m s o H _ I h) ?_);rintro v R ⟨x,S,U,Y,Z⟩;refine wpAny_Slice (thn (hl m R o S _ U Z) ?_);rintro B s2 ⟨l,H2,I2,pl,q2⟩;refine thn (O m s2 o H2 _ I2 q2) ?_;rintro C j ⟨u,E,I3,pu,q3⟩;rw[evalPart_none];refine AC ?_
 let I4:Inv X m o E { j with heap:=j.heap.push { cls:=.type "slice",data:=.fields [B,C,.none].toArray } }:=I3.kept (t':=j.toks) λb ob q=>AF _ q
 let#[T,id,hT,ht,hg]:=G m { j with heap:=j.heap.push { cls:=.type "slice",data:=.fields [B,C,.none].toArray } } o E x v B C l u j.heap.objs.size Q I4 Y (pC ..) pl pu q3;show AW (AY X.prog X.w) X.A (Ye e (.Slice lo hi none p2) v (.ref j.heap.objs.size)) (EP X m o Q) X.xe { j with heap:=j.heap.push { cls:=.type "slice",data:=.fields [B,C,.none].toArray } };exact tail_any (ops:=[.ref j.heap.objs.size,v]) ht hT hg (by rfl)
def Zj(xs:¬V)(lo hi:⇑Int):¬V:=(xs.drop (HT.sIx (-xs) 0 lo)).take (HT.sIx (-xs) (-xs) hi - HT.sIx (-xs) 0 lo)
theorem VV(xs:¬V)(lo hi:⇑Int):-Zj xs lo hi<=-xs:=by
 unfold Zj;rw[Cc,FX]
 lia
def rSlT(K:AB):V->⇑Int->⇑Int->Hp->VK->Prop:=λx lo hi H Q=>∃a j,x=.ref a/\SqT K H a j /\
 Not (HT.sIx (-j) 0 lo=0/\HT.sIx (-j) (-j) hi=-j)/\∀p,H p=none->Q (.ref p) (upd H p (.tup (Zj j lo hi)))
theorem l0:SlR X (rSlT X.K):=by
 intro L s N H x v O P lo hi R Q I w A B C h;let#[a,l,rfl,E,hw,q]:=h;cases w;let#[G,r,m,J]:=I.tuple E
 let j:G.toArray.size=-l:=by rw[BZ];exact r.length.symm
 refine#["tuple",_,CK.lookup,m.typeIs,?_];refine HT.NQ m A B C (by rw[j];exact hw) ?_ (by ext);rw[j];refine#[.ref s.heap.objs.size,_,I.laid (t':=s.toks) (o:=.tup (Zj l lo hi)) (λb ob q=>AF _ q) (AM _) ?_,rfl,q _ (I.hok.fresh (AM _))];exact#[#[A5 (VV l lo hi) J,#[_,AO _ rfl,rfl]],_,(r.drop (HT.sIx (-l) 0 lo)).take (HT.sIx (-l) (-l) hi - HT.sIx (-l) 0 lo),aN _ _]
def qv(K:AB):R2:=λx y H Q=>∃a b l j,x=.ref a/\y=.ref b/\SqT K H a l/\SqT K H b j/\l≠[]/\-l+-j<=sizeLine /\
 (j=[]->Q (.ref a) H)/\(j≠[]->∀p,H p=none->Q (.ref p) (upd H p (.tup (l++j))))
theorem Bl.nil_iff(r:Bl xs us):us=[]↔xs=[]:=by
 cases r with
 | nil=>simp
 | cons _ _=>simp
theorem il:OpR X (D7 .Add) (qv X.K):=by
 intro P s R H x y v u Q I m A h;let#[a,b,B,C,rfl,rfl,E,hb,G,J,L,N]:=h;cases m;cases A;let#[S,l,O,_]:=I.tuple E;let#[T,j,p2,_]:=I.tuple hb;refine HT.jS O p2 (λz=>G (l.nil_iff.mp z)) (λz=>#[.ref a,H,I,rfl,L (j.nil_iff.mp z)]) (λz=>?_) (by rw[<-l.length,<-j.length];exact J);refine#[.ref s.heap.objs.size,_,I.laid (t':=s.toks) (o:=.tup (B++C)) (λb ob q=>AF _ q) (AM _) ?_,rfl,N (λw=>z (j.nil_iff.mpr w)) _ (I.hok.fresh (AM _))];exact#[#[by ext,#[_,AO _ rfl,rfl]],_,l.append j,aN _ _]
end
section
def ixN(n:Nat)(i:Int):⇑Nat:=if 0<=i then(if i < n then !i.toNat else none)else if (unop% Neg.neg (n:Int))<=i then !(i+n).toNat else none
def atI{α:Type}(xs:¬α)(i:Int):⇑α:=ixN (-xs) i*>λj=>xs[j]?
theorem YK(h:ixN n i=!j):seqIndex? i n=!j/\j < n/\(unop% Neg.neg (n:Int))<=i/\i < n:=by
 unfold ixN at h
 by_cases m:0<=i
 ·rw[qX m]at h
  by_cases l:i < n
  ·rw[qX l]at h
   let e:i.toNat=j:=Bw h;exact#[by rw[fA m l,e],by lia,by lia,l]
  ext
 ·rw[qY m]at h
  by_cases l:(unop% Neg.neg (n:Int))<=i
  ·rw[qX l]at h
   let e:(i+n).toNat=j:=Bw h;exact#[by rw[seqIndex_neg (by ext) l,e],by lia,l,by lia]
  ext
theorem Ya{l:Type}{xs:¬l}{i:Int}{v:l}(h:atI xs i=!v):∃j,seqIndex? i (-xs)=!j/\xs[j]?=!v/\j < -xs/\(unop% Neg.neg (-xs:Int))<=i/\i < -xs:=by
 unfold atI at h
 cases e:ixN (-xs) i with
 | none=>ext
 | some j=>
  rw[e]at h;let#[m,o,w,A]:=YK e;exact#[j,m,h,o,w,A]
def LQ(b:Expr):Prop:=∀o i,T1 b false o i=operate [o,i] (JF o i)
def IxR(X:Cx)(r:R2):Prop:=
 ∀(value j:Expr) (l:¬(AL×Obj)) (s:AK) (m:St) (H:Hp) (x y:V) (v u:AE) (Q:VK),Inv X l m H s->RelV x v->RelV y u->r x y H Q ->
  T1 j false v u=operate [v,u] (JF v u)->AW (AY X.prog X.w) X.A (Ye value j v u) (EP X l m Q) X.xe s
def MtR(X:Cx)(id:String)(r:V->¬V->Hp->VK->Prop):Prop:=
 ∀(j:¬(AL×Obj)) (s:AK) (l:St) (H:Hp) (x:V) (m:¬V) (v:AE) (o:¬AE) (Q:VK),Inv X j l H s->RelV x v->Bl m o->r x m H Q ->
  AW (AY X.prog X.w) X.A (call (.builtin id) (v :: o)) (EP X j l Q) X.xe s
section
variable{P:Ao}{w:A3}{H:Hp}{h:BG}{a:AL}
theorem j8(ok:HOk P w H h)(e:Rd H a u):CZ P w H h a u:=e.ok ok
theorem Ql(ok:HOk P w H h)(e:Rd H a (.dK kvs)):-kvs<=sizeLine/\(a==B3)=false/\∃vs,KV kvs vs/\h.DictOf (Dt P w) a vs:=
 show CZ P w H h a (.dK kvs)from j8 ok e
theorem r0(ok:HOk P w H h)(e:H a=!.dK kvs):-kvs<=sizeLine/\(a==B3)=false/\∃vs,KV kvs vs/\h.DictOf (Dt P w) a vs:=Ql ok (.inl e)
theorem N8(ok:HOk P w H h)(e:H a=!.tup (ks.map kV)):(OJ (Dt P w)).is h ks a:=by
 let#[_,j,r,o,l,m,n,A]:=(show CZ P w H h a (.tup (ks.map kV))from ok a _ e);exact#[o,j.toArray,n,l,m,A,by simpa using SH r]
theorem Qk(ok:HOk P w H h)(e:Rd H a (.dT kvs)):-kvs<=sizeLine/\(a==B3)=false /\
  ∃xs,KT H kvs xs/\h.DictOfH (OJ (Dt P w)) a xs:=by
 let#[z,y,xs,r,o,A,B,C,E,G,I,J]:=(show CZ P w H h a (.dT kvs)from j8 ok e);refine#[z,y,xs,r,o,A,B,C,E,G,I,λx j=>?_,J]
 let all:∀{l:¬(¬Key×V)} {m:¬(¬Key×AL×AE)},KT H l m->∀x∈m,(OJ (Dt P w)).is h x.1 x.2.1:=by
  intro l m q
  induction q with
  | nil=>ext
  | @cons p q N O Q t L=>
   intro x j
   rcases Ak.mp j with e | j
   ·subst e
    exact N8 ok (by ext)
   ·exact L x j
 exact all r x j
theorem rp(ok:HOk P w H h)(e:H a=!.dT kvs):-kvs<=sizeLine/\(a==B3)=false /\
  ∃xs,KT H kvs xs/\h.DictOfH (OJ (Dt P w)) a xs:=Qk ok (.inl e)
end
def K7(H:Hp)(a:AL)(y:V)(r:⇑V):Prop:=
 (∃j k,Rd H a (.dK j)/\y=kV k/\r=IL j k)∨∃j k b,Rd H a (.dT j)/\y=.ref b/\H b=!.tup (k.map kV)/\r=IL j k
def Tz(H:Hp)(a:AL)(y v:V)(H':Hp):Prop:=
 (∃j k,H a=!.dK j/\y=kV k/\-j < sizeLine/\H'=upd H a (.dK (IM j k v))) ∨
 ∃j k b,H a=!.dT j/\y=.ref b/\H b=!.tup (k.map kV)/\-j < sizeLine/\H'=upd H a (.dT (IM j k v))
theorem K7.k{H}{a}{kvs}{k}(e:H a=!.dK kvs):K7 H a (kV k) (IL kvs k):=.inl #[kvs,k,.inl e,rfl,rfl]
theorem K7.t{H}{a b}{kvs}{k}(e:H a=!.dT kvs)(eb:H b=!.tup (k.map kV)):K7 H a (.ref b) (IL kvs k):=.inr #[kvs,k,b,.inl e,rfl,eb,rfl]
theorem Tz.k{H}{a}{kvs}{k}{v}(e:H a=!.dK kvs)(hl:-kvs < sizeLine):Tz H a (kV k) v (upd H a (.dK (IM kvs k v))):=.inl #[kvs,k,e,rfl,hl,rfl]
theorem Tz.t{H}{a b}{kvs}{k}{v}(e:H a=!.dT kvs)(eb:H b=!.tup (k.map kV))(hl:-kvs < sizeLine) :
  Tz H a (.ref b) v (upd H a (.dT (IM kvs k v))):=.inr #[kvs,k,b,e,rfl,eb,hl,rfl]
variable{X:Cx}{a b:Expr}{ta tb:TE}{pos:Pos}
theorem Uw(j:IxR X r)(l:PE X a ta)(hb:PE X b tb)(hs:LQ b):PE X (.Subscript a b pos) (tOp r ta tb):=by
 intro m s o H Q I h;exact km (oQ l hb I h λv u w x y A B C E q=>j a b m w o A x y v u Q B C E q (hs _ _))
def rIxL(K:AB):R2:=λx y H Q=>∃p j i v,x=.ref p/\y=.int i/\SqL K H p j/\atI j i=!v/\Q v H
def rIxT(K:AB):R2:=λx y H Q=>∃p j i v,x=.ref p/\y=.int i/\SqT K H p j/\atI j i=!v/\Q v H
theorem ix_list:IxR X (rIxL X.K):=by
 intro value m A s B H x y v u Q I G J h C;let#[p,xs,i,z,rfl,rfl,L,N,q]:=h;cases G;let#[t,rfl]:=J;let#[O,r,o,hz]:=I.list L;let#[j,l,P,h3,R,S]:=Ya N;let#[w,ew,T]:=r.get P;let U:=-r;let hn:=N4;let fin:EP X A B Q w s:=#[z,H,I,T,q]
 by_cases E:0<=i
 ·let Y:i.toNat=j:=by
   rw[fA E S]at l;exact Bw l
  exact item_listR o.isList E ∅ (by ext) fin C
 ·let Y:(i+(O.toArray.size:Int)).toNat=j:=by
   rw[seqIndex_neg (by ext) R]at l;rw[BZ,<-U];exact Bw l
  exact aE (x:=w) o.isList.typeIs slot_list_getitem.lookup
   (wpAny_getItem_list_neg (Q:=λr Z=>r=w/\EP X A B Q r Z) o.isList ∅ ∅ ∅ (by grind) #[rfl,fin]) C
theorem dH:IxR X (rIxT X.K):=by
 intro value l m s o H x y v u Q I B C h E;let#[p,P,i,z,rfl,rfl,G,J,q]:=h;cases B;let#[t,rfl]:=C;let#[R,r,A,S]:=I.tuple G;let#[j,T,L,U,Y,Z]:=Ya J;let#[w,ew,N]:=r.get L;let hl:=-r;let hn:=N4;let fin:EP X m o Q w s:=#[z,H,I,N,q]
 exact aE (x:=w) A.typeIs slot_tuple_getitem.lookup
  (getItem_tuple (j:=j) (Q:=λr O=>r=w/\EP X m o Q r O) A ∅ ∅ (by ext) (by grind) #[rfl,fin]) E
theorem Wq(l:¬AE)(n j:Nat)(u:AE):Ej (·.setIfInBounds j u) { cls:=.type "list",data:=.seq l.toArray n }={ cls:=.type "list",data:=.seq (l.set j u).toArray n }:=by
 simp[Ej]
theorem Inv.lst(I:Inv X l m H s)(h:H p=!.lst xs) :
  ∃(j:¬AE) (n:Nat),Bl xs j/\s.heap.get? p=some { cls:=.type "list",data:=.seq j.toArray n }/\-xs<=sizeLine:=by
 let#[z,j,n,r,e]:=I.hok p _ h;exact#[j,n,r,e,z]
theorem Inv.lstUpd{m:¬(AL×Obj)}{o:St}{H:Hp}{s:AK}{p:AL}{xs j:¬V}{w its':¬AE}{n l:Nat}{f:Obj->Obj}(I:Inv X m o H s)(h:H p=!.lst xs)
  (B:s.heap.get? p=some { cls:=.type "list",data:=.seq w.toArray n }) (A:f { cls:=.type "list",data:=.seq w.toArray n }={ cls:=.type "list",data:=.seq its'.toArray l }) (r:Bl j its') (C:-j<=sizeLine) (t:Nat) :
  Inv X m o (upd H p (.lst j)) { s with heap:=s.heap.update p f,toks:=t }:=by
 let e:(s.heap.update p f).get? p=some { cls:=.type "list",data:=.seq its'.toArray l }:=by
  rw[Cq f B (by rw[A] <;> rfl),A]
 refine I.write (x:=p) (e:=p) (by rw[h];trivial) (.inl rfl) (λb u hb q=>(Dj _ _ (CU hb)).trans q) #[_,e] ?_;exact#[C,its',l,r,e]
def qr:V->V->V->Hp->(Hp->Prop)->Prop:=λo i v H Q=>∃p l k j,o=.ref p/\i=.int k/\H p=!.lst l/\ixN (-l) k=!j/\Q (upd H p (.lst (l.set j v)))
theorem bg:sJ X qr:=by
 intro G s J H o i v Y Z u Q I L N O h;let#[p,P,k,j,rfl,rfl,A,R,q]:=h;cases L;let#[t,rfl]:=N;let#[B,n,r,m,hz]:=I.lst A;let#[l,h2,S,T]:=YK R;let U:=-r;let hn:=N4
 let C:Inv X G J (upd H p (.lst (P.set j v))) { s with heap:=s.heap.update p (Ej (·.setIfInBounds j u)) }:=
  I.lstUpd A m (Wq B n j u) (r.set O j) ∅ s.toks
 by_cases E:0<=k
 ·let w:k.toNat=j:=by
   rw[fA E T]at l;exact Bw l
  exact PySem.W.ki_setAt m E ∅ ∅ (by rw[w];exact#[_,C,q])
 ·let w:(k+(B.toArray.size:Int)).toNat=j:=by
   rw[seqIndex_neg (by ext) S]at l;rw[BZ,<-U];exact Bw l
  exact PySem.W.ki_setBack m ∅ ∅ ∅ (by rw[w];exact#[_,C,q])
theorem Jy:IG X (.builtin "len") (λxs H Q=>∃p j,xs=[.ref p]/\(SqL X.K H p j∨SqT X.K H p j)/\Q (.int (-j)) H):=by
 intro E s G H xs J Q I r h;let#[p,j,rfl,l,q]:=h;let#[u,rfl,A]:=vals1 r;cases A;let L:=N4
 rcases l with l | l
 ·let#[B,o,w,C]:=I.list l
  let m:=-o;exact Calls.call_len_list w.isList (by simp only[BZ] <;> lia) #[.int (-j),H,I.tok _,#[s.toks+1,by ext],q]
 ·let#[B,o,w,C]:=I.tuple l
  let m:=-o;exact len_tuple w (by simp only[BZ] <;> lia) #[.int (-j),H,I.tok _,#[s.toks+1,by grind],q]
theorem NT:IG X (.type "list") (λxs H Q=>∃p A,xs=[.ref p]/\(SqL X.K H p A∨SqT X.K H p A)/\∀l,H l=none->Q (.ref l) (upd H l (.lst A))):=by
 intro S s T H xs Y Q I r h;let#[p,A,rfl,E,q]:=h;let#[u,rfl,U]:=vals1 r;cases U
 let fin:∀(m:¬AE),Bl A m->-A<=sizeLine->∀(j:BG) (B:Nat),(∀b R,s.heap.get? b=!R->j.get? b=!R) ->
   j.get? s.heap.objs.size=some { cls:=.type "list",dict:=none,data:=.seq m.toArray B,slots:=#[] }->EP X S T Q (.ref s.heap.objs.size) { s with heap:=j }:=λm C G j B kp e=>
  #[.ref s.heap.objs.size,_,I.laid (t':=s.toks) kp (AM _) (show CZ X.prog X.w _ j _ (.lst A)from#[G,m,B,C,e]),rfl,q _ (I.hok.fresh (AM _))]
 rcases E with E | E
 ·let#[m,C,L,G]:=I.list E
  let J:=-C;let#[o,N,O,n,P]:=L.isList;exact call_list_seq p (.inl rfl) N O P (λj B kp e=>fin m C G j B kp e) ∅
 ·let#[m,C,L,G]:=I.tuple E
  let J:=-C;let#[o,N,O,n,P]:=L;exact call_list_seq p (.inr rfl) N O P (λj B kp e=>fin m C G j B kp e) ∅
theorem Rc:IG X (.type "tuple") (λxs H Q=>∃p j,xs=[.ref p]/\((SqL X.K H p j/\∀l,H l=none->Q (.ref l) (upd H l (.tup j)))∨(SqT X.K H p j/\Q (.ref p) H))):=by
 intro G s J H xs S Q I r h;let#[p,j,rfl,h]:=h;let#[u,rfl,P]:=vals1 r;cases P
 rcases h with⟨A,q⟩ | ⟨A,q⟩
 ·let#[B,C,E,L]:=I.list A
  let N:=-C;refine call_tuple_list E.isList (λm kp=>?_) ∅;let O:Inv X G J H { s with heap:=m }:=I.kept (t':=s.toks) kp
  let R:Inv X G J (upd H m.objs.size (.tup j)) { s with heap:=m.push { cls:=.type "tuple",data:=.seq B.toArray } }:=
   O.laid (t':=s.toks) (λb o e=>AF _ e) (AM _) (show CZ X.prog X.w _ _ _ (.tup j)from#[#[L,#[_,AO _ rfl,rfl]],B,C,aN _ _])
  exact#[.ref m.objs.size,_,R,rfl,q _ (O.hok.fresh (AM _))]
 ·let#[B,C,E,L]:=I.tuple A
  exact call_tuple_same E #[.ref p,H,I,rfl,q]
def tyV(K:AB)(T:String)(x:V)(H:Hp):Prop:=match x with
 | .str _=>T = "str"
 | .int _=>T = "int"
 | .ref p=>(T = "list"/\∃l,SqL K H p l)∨(T = "tuple"/\∃o,K.lookup p=!o/\o.cls=.type "tuple"/\o.dict=none) ∨
   (T = "dict"/\((∃j,H p=!.dK j)∨∃j,H p=!.dT j))∨(T = "set"/\∃S n,H p=!.set S n)
 | _=>False
theorem bT(I:Inv X G J H s)(r:RelV x v)(ty:tyV X.K T x H) :
  s.TypeIs v T/\∀a,v=.ref a->∃ob,s.heap.get? a=!ob/\ob.dict=none:=by
 cases x with
 | str z=>
  let#[t,rfl]:=r;cases(show T = "str" from ty);exact#[typeIs_str s z t,λM e=>nomatch e]
 | int i=>
  let#[t,rfl]:=r;cases(show T = "int" from ty);exact#[typeIs_int s i t,λM e=>nomatch e]
 | ref p=>
  cases r
  rcases ty with⟨rfl,L,C⟩ | ⟨rfl,o,j,E,m⟩ | ⟨rfl,j⟩ | ⟨rfl,S,n,j⟩
  ·let#[N,_,B,_]:=I.list C
   refine#[B.isList.typeIs,λa e=>?_];cases e;let#[o,n,e,c,m,_]:=B;exact#[o,e,m]
  ·refine#[#[o,I.kIn p o j,E],λa e=>?_]
   cases e;exact#[o,I.kIn _ o j,m]
  ·let z:∃o,s.heap.get? p=!o/\o.ExactDict:=by
    rcases j with⟨w,j⟩ | ⟨w,j⟩
    ·let#[_,_,_,_,o,_,_,e,l,_]:=I.hok p _ j
     ext
    ·let#[_,_,_,_,o,_,_,e,l,_]:=I.hok p _ j
     ext
   let#[o,e,l]:=z;refine#[#[o,e,l.1],λa A=>?_];cases A;exact#[o,e,l.2.1]
  ·let#[o,_,_,_,e,l,_]:=I.hok p _ j
   refine#[#[o,e,l.1],λa A=>?_];cases A;exact#[o,e,l.2.1]
 | _=>exact RN ty
def tBM0(K:AB)(T:String)(r:V->¬V->Hp->VK->Prop)(to:TE):TE:=λl H Q=>to l H λx j=>tyV K T x j/\r x [] j Q
def tBM(K:AB)(T:String)(r:V->¬V->Hp->VK->Prop)(to:TE)(t:TA):TE:=λj H Q=>to j H λx l=>tyV K T x l/\t j l λm o=>r x m o Q
variable{o e:Expr}{es:¬Expr}{to:TE}{t:TA}{name:Str}{apos cpos:Pos}{T id:String}{r:V->¬V->Hp->VK->Prop}
theorem me(pa:PlainAttrs T)(slot:Slot T name id)(C:typeOf (.builtin id)=pure (.type "method_descriptor")) (E:MtR X id r) (G:PE X o to)
  (j:↑(Bd o name X.env (A2 o X.env)=A2 o X.env)) (l:↑((apos.endLine==cpos.line))):PE X (.Call (.Attribute o name apos) [] [] cpos) (tBM0 X.K T r to):=by
 intro m s w H Q I h;refine wpAny_Call_method0_late j l (thn (G m s w H _ I h) ?_);rintro v J ⟨x,L,A,B,ty,N⟩;let#[O,P]:=bT A B ty;exact#[T,id,pa,slot,C,O,P,Gc rfl (PySem.evalArgs_none (E m J w L x [] v [] Q A B .nil N))]
theorem cR(pa:PlainAttrs T)(slot:Slot T name id)(J:typeOf (.builtin id)=pure (.type "method_descriptor")) (L:MtR X id r) (N:PE X o to) (O:PA X (e :: es) t)
  (j:↑(Bd o name X.env (A2 o X.env)=A2 o X.env))
  (m:↑(((Cv cpos (AG (e :: es) X.env)).all (λx=>not x.1)&&(LV cpos (G1 [] X.env)).all (λx=>x.1.isSome)
    &&decide (-(e :: es)+-([]:¬IJ)+(if ([]:¬IJ).isEmpty then 0 else 1) < 30))))
  (l:↑((apos.endLine==cpos.line))) (hs:↑(zSp X e es)) (w:↑((Cv cpos (AG es X.env)).any (·.1)=false)) :
  PE X (.Call (.Attribute o name apos) (e :: es) [] cpos) (tBM X.K T r to t):=by
 intro A s B H Q I h;refine wpAny_Call_method_late j m l rfl (thn (N A s B H _ I h) ?_);rintro v P ⟨x,R,C,E,ty,S⟩;let#[U,Y]:=bT C E ty;refine#[T,id,pa,slot,J,U,Y,?_];let G:=O cpos A P B R _ C S;rw[hs]at G ⊢;refine Gc (by assumption) (Lb ?_)
 exact thn G (by rintro Z s2 ⟨vs,H2,I2,r2,q2⟩;exact L A s2 B H2 x vs v Z Q I2 E r2 q2)
end
section
def MtM(X:Cx)(id:String)(r:V->¬V->Hp->VK->Prop):Prop:=
 ∀(j:¬(AL×Obj)) (s:AK) (l:St) (H:Hp) (x:V) (m:¬V) (v:AE) (o:¬AE) (Q:VK),Inv X j l H s->RelV x v->Bl m o->r x m H Q ->
  AW (AY X.prog X.w) X.A (call (.builtin id) (v :: o)) (EP X j l Q) X.xe s
theorem Bl.one:∀{x:V} {us:¬AE},Bl [x] us->∃u,us=[u]/\RelV x u
 | _,_,h=>by
  cases h with
  | cons r t=>cases t;exact#[_,rfl,r]
section
variable{X:Cx}{ζ:¬(AL×Obj)}{σ:St}{H:Hp}{s:AK}{a:AL}{y v:V}{u r:AE}{o:⇑V}{A:BR}{E:AE->AK->Prop}
theorem Inv.big(I:Inv X ζ σ H s):B3 < s.heap.objs.size:=by
 let h:BD < s.heap.objs.size:=(I.mod.glob.keeps I.bk).lt;exact Ol ∅ h
theorem Zi(L:A.units+1 < Bf)(I:Inv X ζ σ H s)(g:K7 H a y (!v))(J:RelV y u)(h:∀j s',Inv X ζ σ H s'->RelV v j->Q j s') :
  AW (AY X.prog X.w) A (JF (.ref a) u) Q E s:=by
 rcases g with⟨m,k,e,B,l⟩ | ⟨m,k,b,e,B,N,l⟩
 ·subst B
  let#[z,O,vs,rel,C]:=Ql I.hok e;let#[j,hw,G]:=JZ.some_of (v:=v) (o:=RB vs k) (by rw[l];exact rel.val k);exact wpAny_getItem_of (SG J) C.mapOf hw (h j _ (I.tok _) G)
 ·subst B
  cases(show u=AV b from J);let#[z,O,P,rel,C]:=Qk I.hok e;let#[j,hw,G]:=JZ.some_of (v:=v) (o:=(KI P k).map (·.2)) (by rw[l];exact rel.val k);let#[p,R,S]:=C9.mp hw;refine kX (Gp L) (N8 I.hok N) C R ?_;rw[S];exact h j _ (I.tok _) G
theorem d_in(J:A.units+1 < Bf)(I:Inv X ζ σ H s)(g:K7 H a y o)(G:RelV y u)(h:∀s',Inv X ζ σ H s'->Q (.bool o.isSome) s') :
  AW (AY X.prog X.w) A (Bk .In u (.ref a)) Q E s:=by
 rcases g with⟨j,k,e,m,l⟩ | ⟨j,k,b,e,m,L,l⟩
 ·subst m
  let#[z,B,vs,rel,C]:=Ql I.hok e;refine wpAny_in_of (SG G) B C.mapOf ?_;rw[<-(rel.val k).isSome_eq,<-l];exact h _ (I.tok _)
 ·subst m
  cases(show u=AV b from G);let#[z,B,N,rel,C]:=Qk I.hok e;refine wpAny_in_heap (Gp J) (N8 I.hok L) B C ?_;let q:=(rel.val k).isSome_eq;rw[Et]at q;rw[<-q,<-l];exact h _ (I.tok _)
theorem jP(J:A.units+1 < Bf)(I:Inv X ζ σ H s)(g:K7 H a y o)(G:RelV y u)(h:∀s',Inv X ζ σ H s'->Q (.bool (not o.isSome)) s') :
  AW (AY X.prog X.w) A (Bk .NotIn u (.ref a)) Q E s:=by
 rcases g with⟨j,k,e,m,l⟩ | ⟨j,k,b,e,m,L,l⟩
 ·subst m
  let#[z,B,vs,rel,C]:=Ql I.hok e;refine wpAny_notIn_of (SG G) B C.mapOf ?_;rw[<-(rel.val k).isSome_eq,<-l];exact h _ (I.tok _)
 ·subst m
  cases(show u=AV b from G);let#[z,B,N,rel,C]:=Qk I.hok e;refine wpAny_notIn_heap (Gp J) (N8 I.hok L) B C ?_;let q:=(rel.val k).isSome_eq;rw[Et]at q;rw[<-q,<-l];exact h _ (I.tok _)
theorem To(I:Inv X ζ σ H s)(j:Mut (H a))(hs:DV a s.heap h')(l:∃q,h'.get? a=!q)(new:CZ X.prog X.w (upd H a ob) h' a ob) :
  Inv X ζ σ (upd H a ob) { s with heap:=h',toks:=t' }:=
 I.write (x:=a) (e:=a) j (.inl rfl) (λb q hb z=>(hs.2 b hb).trans z) l new
theorem oG(z:-kvs<=sizeLine)(j:(a==B3)=false)(rel:KV kvs vs)(l:h'.DictOf (Dt P w) a vs) :
  CZ P w H' h' a (.dK kvs):=#[z,j,vs,rel,l]
theorem Zh(Z:A.units+1 < Bf)(I:Inv X ζ σ H s)(g:Tz H a y v H')(R:RelV y u)(S:RelV v r)(h:∀s',Inv X ζ σ H' s'->Q () s') :
  AW (AY X.prog X.w) A (aF (.ref a) u r) Q E s:=by
 rcases g with⟨j,k,e,C,l,G⟩ | ⟨j,k,b,e,C,T,l,G⟩
 ·subst C G
  let#[z,J,vs,rel,L]:=r0 I.hok e
  let N:-vs<=sizeLine:=by rw[<-rel.length];exact z
  let O:-IM j k v<=sizeLine:=by let:=Kv j k v;lia
  refine wpAny_setItem_pairs (hsz:=N) (SG R) L λU m P=>h _ ?_
  let he:∃q,U.get? a=!q:=let #[q,_,_,B,_]:=m;#[q,B]
  exact To I (by rw[e];exact EJ) P he (oG O J (rel.put k S) m)
 ·subst C G
  cases(show u=AV b from R);let#[z,J,xs,rel,L]:=rp I.hok e
  let N:-xs<=sizeLine:=by rw[<-C5 rel];exact z
  let O:-IM j k v<=sizeLine:=by let:=Kv j k v;lia
  refine kS (hsz:=N) (Gp Z) (N8 I.hok T) L λU m P=>h _ ?_
  let#[q,es,ep,B,h2,h3,h4,_,h5]:=m;refine To I (by rw[e];exact EJ) P #[q,B] #[O,J,_,(rel.put k T S).keeps λc ys Y=>?_,q,es,ep,B,h2,h3,h4,h5];rw[AQ (kE Y e (λz=>nomatch z))];exact Y
variable{X:Cx}{ζ:¬(AL×Obj)}{σ:St}{H:Hp}{s:AK}{l:AL}{xs ys:¬V}
theorem Inv.lset{j its':¬AE}{n:Nat}{f:Array AE->Array AE}{t':Nat}(I:Inv X ζ σ H s)(m:H l=!.lst xs)
  (e:s.heap.get? l=some { cls:=.type "list",data:=.seq j.toArray n }) (w:f j.toArray=its'.toArray) (B:Bl ys its') (C:-ys<=sizeLine) :
  Inv X ζ σ (upd H l (.lst ys)) { s with heap:=s.heap.update l (Ej f),toks:=t' }:=by
 let q:=PySem.IsL.update e f;rw[w]at q;refine I.write (x:=l) (e:=l) (by rw[m];exact trivial) (.inl rfl) (λJ u hb G=>(Dj s.heap (Ej f) (CU hb)).trans G) #[_,q] ?_;exact#[C,its',_,B,q]
theorem Inv.lnew(I:Inv X ζ σ H s)(m:Bl ys j)(w:-ys<=sizeLine) :
  Inv X ζ σ (upd H s.heap.objs.size (.lst ys)) { s with heap:=s.heap.push { cls:=.type "list",data:=.seq j.toArray },toks:=t' }:=
 I.laid (λG G q=>AF _ q) (AM _) #[w,j,0,m,AO _ rfl]
theorem Inv.fresh(I:Inv X ζ σ H s):H s.heap.objs.size=none:=I.hok.fresh (AM _)
theorem Inv.lstM(I:Inv X ζ σ H s)(m:H l=!.lst xs):-xs<=sizeLine/\∃(j:¬AE) (n:Nat),Bl xs j/\-xs=-j/\s.heap.get? l=some { cls:=.type "list",data:=.seq j.toArray n }:=by
 let#[z,j,n,r,e]:=I.hok l _ m;exact#[z,j,n,r,r.length,e]
theorem cg(h:n<=sizeLine):Hl n=false:=by
 unfold Hl;ext
end
def Zt(i:Expr):Prop:=∀j l,T1 i false j l=operate [j,l] (JF j l)
theorem Xq{prog}{w}{A}{E}{s}{C}{value j}{pos}{T id}{Q}
  (hl:typeLookup (.type T) "__getitem__" = pure (!.builtin id)) (hs:Zt j)
  (h:AW (AY prog w) A (A2 value C) (λo m=>AW (AY prog w) A (A2 j C) (λi s₂=>s₂.TypeIs o T/\AW (AY prog w) A (JF o i) Q E s₂) E m) E s) :
  AW (AY prog w) A (A2 (.Subscript value j pos) C) Q E s:=by
 refine km (Da h (λo m G=>Da G (λi s₂ l=>?_) λJ J x=>x) λJ J x=>x);let#[I,l]:=l;unfold Ye;refine AA ?_;rw[getitemInPython_of_ne I.not_modules];refine AA (EO I hl ?_)
 let fin:AW (AY prog w) A (T1 j false o i) (λr B=>AW (AY prog w) A (letTemporaryGo value o r >>= λJ=>pure r) Q E B) E s₂:=by
  rw[hs o i];exact wpAny_operating (Da l (λr B H=>AA (wpAny_letTemporaryGo (AC H))) λJ J x=>x)
 first
  | exact AC (AA fin)
  | exact AA (AC (AA fin))
  | exact AA fin
theorem VU(I:Inv X m w H s)(g:K7 H a y o):s.TypeIs (.ref a) "dict":=by
 rcases g with⟨j,k,e,_,_⟩ | ⟨j,k,b,e,_,_,_⟩
 ·let#[_,_,vs,_,l]:=Ql I.hok e
  exact l.typeIs
 ·let#[_,_,A,_,l]:=Qk I.hok e
  exact l.typeIs
def qT(m ty:TE):TE:=λj H Q=>m j H λx o=>ty j o λy l=>∃a v,x=.ref a/\K7 l a y (!v)/\Q v l
def tDIn(ty m:TE):TE:=λj H Q=>ty j H λy w=>m j w λx l=>∃a o,x=.ref a/\K7 l a y o/\Q (.bl o.isSome) l
def h9(ty m:TE):TE:=λj H Q=>ty j H λy w=>m j w λx l=>∃a o,x=.ref a/\K7 l a y o/\Q (.bl (not o.isSome)) l
def qi(m ty o:TE):TS:=λD j H=>o j H λv w=>m j w λx A=>ty j A λy B=>∃a l,x=.ref a/\Tz B a y v l/\D.nx j l
variable{X:Cx}
def iM:V->¬V->Hp->VK->Prop:=λx vs H Q=>∃l j y,x=.ref l/\vs=[y]/\H l=!.lst j/\-j < sizeLine/\Q .non (upd H l (.lst (j++[y])))
theorem N3:MtM X "list.append" iM:=by
 intro B s C H x vs v E Q I o w h;let#[l,G,y,rfl,rfl,j,J,q]:=h;cases o;let#[u,rfl,A]:=w.one;let#[z,m,n,r,L,e]:=I.lstM j;refine kg F.slot_list_append #[_,e,rfl] F.entry_list_append (F.args_list_append_2 _ _) (PySem.list_append l m.toArray n u ∅) #[e,?_];refine#[.non,_,I.lset (its':=m++[u]) j e ∅ (r.append (.cons A .nil)) ?_,rfl,q];rw[AT,Am]
 lia
def iL:V->¬V->Hp->VK->Prop:=λx vs H Q=>∃l b j m,x=.ref l/\vs=[.ref b]/\H l=!.lst j/\H b=!.lst m/\-j+-m<=sizeLine/\Q .non (upd H l (.lst (j++m)))
theorem ZN:MtM X "list.extend" iL:=by
 intro O s P H x vs v R Q I A B h;let#[l,b,S,T,rfl,rfl,w,C,U,q]:=h;cases A;let#[u,rfl,E]:=B.one;cases E;let#[z,j,n,r,Y,e]:=I.lstM w;let#[Z,m,G,J,zw,L]:=I.lstM C
 let o:j.toArray.size+m.toArray.size<=sizeLine:=by rw[BZ,BZ];ext
 let N:Not (not j.toArray.isEmpty&&Hl (j.toArray.size+m.toArray.size)):=by
  rw[cg o,jk];exact An
 refine kg F.slot_list_extend #[_,e,rfl] F.entry_list_extend (F.args_list_extend_2 _ _)
  (AutoSeq1.list_extend_list_list_0 l j.toArray n b m.toArray G N (by rw[BZ];ext) ∅) #[e,L,?_]
 refine#[.non,_,I.lset (its':=j++m) w e ∅ (r.append J) ?_,rfl,q];ext
def rCat:R2:=λx y H Q=>∃l b j m,x=.ref l/\y=.ref b/\H l=!.lst j/\H b=!.lst m/\-j+-m<=sizeLine/\∀p,H p=none->Q (.ref p) (upd H p (.lst (j++m)))
theorem nG:OpR X (D7 .Add) rCat:=by
 intro J s L H x y v u Q I o w h;let#[l,b,N,O,rfl,rfl,A,B,R,q]:=h;cases o;cases w;let#[z,j,n,r,S,e]:=I.lstM A;let#[T,m,U,C,Y,E]:=I.lstM B;refine PySem.P.add_list e E ?_ ∅
 let G:j.toArray++m.toArray=(j++m).toArray:=by simp
 rw[G];exact#[.ref _,_,I.lnew (t':=s.toks) (r.append C) ∅,rfl,q _ I.fresh]
section
variable{X:Cx}{o i value:Expr}{pos pos':Pos}{td ty tv:TE}
theorem X7(w:X.A.units+1 < Bf)(B:PE X o td)(hi:PE X i ty)(hs:Zt i):PE X (.Subscript o i pos) (qT td ty):=by
 intro j s l H Q I h;refine Xq Q4.lookup hs (thn (B j s l H _ I h) ?_);rintro u C ⟨x,E,G,J,L⟩;refine thn (hi j C l E _ G L) ?_;rintro U Y ⟨y,N,m,O,a,v,P,g,R⟩;subst P;obtain rfl:u=AV a:=J;exact#[VU m g,Zi w m g O λZ s3 S T=>#[v,N,S,T,R]]
theorem mj(m:X.A.units+1 < Bf)(hi:PE X i ty)(w:PE X o td):PC X .In i o (tDIn ty td):=by
 intro j s l H Q I h
 refine thn (hi j s l H _ I h) λU B #[y,C,E,G,J]=>thn (w j B l C _ E J) ?_;rintro u Y ⟨x,L,N,O,a,P,R,g,S⟩
 subst R;obtain rfl:u=AV a:=O
 exact d_in m N g G λZ T=>#[.bl P.isSome,L,T,rfl,S]
theorem SA(m:X.A.units+1 < Bf)(hi:PE X i ty)(w:PE X o td):PC X .NotIn i o (h9 ty td):=by
 intro j s l H Q I h
 refine thn (hi j s l H _ I h) ?_;rintro U B ⟨y,C,E,G,J⟩;refine thn (w j B l C _ E J) ?_;rintro u Y ⟨x,L,N,O,a,P,R,g,S⟩
 subst R;obtain rfl:u=AV a:=O
 exact jP m N g G λZ T=>#[.bl (not P.isSome),L,T,rfl,S]
theorem TJ(m:X.A.units+1 < Bf)(w:PE X o td)(hi:PE X i ty)(B:PE X value tv)(hs:BX value (!.Subscript o i pos') pos.line X.env=pure false) :
  PS X (.Assign [.Subscript o i pos'] value pos) (qi td ty tv):=by
 intro l s j H D I h;refine aD (thn (B l s j H _ I h) λr C #[v,E,G,J,L]=>thn (w l C j E _ G L) ?_) hs;rintro u N ⟨x,O,P,Q,R⟩;refine thn (hi l N j O _ P R) ?_;rintro iv s3 ⟨y,H3,S,T,a,U,Y,g,Z⟩;subst Y;obtain rfl:u=AV a:=Q
 exact Zh m S g T J λs4 I4=>#[j,U,I4,Z]
end
theorem dq(h:BG)(hb:B3 < h.objs.size):CZ P w H (h.push { cls:=.type "dict",data:=.dict #[] }) h.objs.size (.dK []):=
 #[Bc _,beq_eq_false_iff_ne.mpr (CU (Ar hb)),[],.nil,BG.DictOf.new h]
theorem dk(h:BG)(hb:B3 < h.objs.size):CZ P w H (h.push { cls:=.type "dict",data:=.dict #[] }) h.objs.size (.dT []):=
 #[Bc _,beq_eq_false_iff_ne.mpr (CU (Ar hb)),[],.nil,_,#[],0,AO _ rfl,#[rfl,rfl,rfl],rfl,rfl,IQ]
def ll:TE:=λG H Q=>∀p,H p=none->Q (.ref p) (upd H p (.dK []))
def lh:TE:=λG H Q=>∀p,H p=none->Q (.ref p) (upd H p (.dT []))
variable{prog:Ao}{w:A3}{A:BR}{E:AE->AK->Prop}{s:AK}
section
variable{X:Cx}{pos:Pos}
theorem Uy:PE X (.Dict [] [] pos) ll:=λj s l H Q I h=>
 SX #[.ref s.heap.objs.size,_,I.laid (a:=s.heap.objs.size) (o:=.dK []) (t':=s.toks) (λG G q=>AF _ q) (AM _) (dq s.heap I.big),rfl,h _ (I.hok.fresh (AM _))]
theorem cN:PE X (.Dict [] [] pos) lh:=λj s l H Q I h=>
 SX #[.ref s.heap.objs.size,_,I.laid (a:=s.heap.objs.size) (o:=.dT []) (t':=s.toks) (λG G q=>AF _ q) (AM _) (dk s.heap I.big),rfl,h _ (I.hok.fresh (AM _))]
end
structure M2(X:Cx)(o:Expr)(m:Str)(apos:Pos)(e f:Expr)(cpos:Pos):Prop where
 base:Bd o m X.env (A2 o X.env)=A2 o X.env
 few:((Cv cpos (AG [e,f] X.env)).all (λx=>not x.1)&&(LV cpos (G1 [] X.env)).all (λx=>x.1.isSome)
   &&decide (-([e,f]:¬Expr)+-([]:¬IJ)+(if ([]:¬IJ).isEmpty then 0 else 1) < 30))=true
 line:(apos.endLine==cpos.line)=true
 trees:Cv cpos (AG [e,f] X.env)=[(false,A2 e X.env),(false,A2 f X.env)]
def IsD(H:Hp)(a:AL):Prop:=(∃j,Rd H a (.dK j))∨∃j,Rd H a (.dT j)
theorem nh(I:Inv X C G H s)(d:IsD H a) :
  s.TypeIs (.ref a) "dict"/\(∀b,AV a=.ref b->∃ob,s.heap.get? b=!ob/\ob.dict=none)/\(a==B3)=false:=by
 rcases d with⟨l,e⟩ | ⟨l,e⟩
 ·let#[_,m,vs,_,j]:=Ql I.hok e
  refine#[j.typeIs,λb q=>?_,m];cases q;let#[ob,_,_,o,B,_]:=j;exact#[ob,o,B.2.1]
 ·let#[_,m,J,_,j]:=Qk I.hok e
  refine#[j.typeIs,λb q=>?_,m];cases q;let#[ob,_,_,o,B,_]:=j;exact#[ob,o,B.2.1]
section
variable{X:Cx}{ζ:¬(AL×Obj)}{σ:St}{H:Hp}{s:AK}{a:AL}{y d:V}{u r:AE}{o:⇑V}{A:BR}{E:AE->AK->Prop}
theorem oJ(L:A.units+1 < Bf)(I:Inv X ζ σ H s)(g:K7 H a y o)(G:RelV y u)(rd:RelV d r)(h:∀J s',Inv X ζ σ H s'->RelV (o.getD d) J->Q J s') :
  AW (AY X.prog X.w) A (call (.builtin "dict.get") [.ref a,u,r]) Q E s:=by
 rcases g with⟨m,k,e,B,l⟩ | ⟨m,k,b,e,B,N,l⟩
 ·subst B
  let#[z,C,vs,rel,j]:=Ql I.hok e;refine RG Ei j.typeIs Jf (JJ _ _ _) (meets_dict_get_default (Dt X.prog X.w) a (SG G) C r) #[_,j.mapOf,h _ _ (I.tok _) ?_];rw[l];exact(rel.val k).getD rd
 ·subst B
  cases(show u=AV b from G);let#[z,C,O,rel,j]:=Qk I.hok e;refine RG Ei j.typeIs Jf (JJ _ _ _) (Zw (OJ (Dt X.prog X.w)) a b C r) #[Gp L,k,O,N8 I.hok N,j,h _ _ (I.tok _) ?_];rw[l];exact(rel.val k).getD rd
end
def lq(B ty C:TE):TE:=λj H Q=>B j H λx l=>∃a,x=.ref a/\IsD l a/\ty j l λy G=>C j G λz m=>∃o,K7 m a y o/\Q (o.getD z) m
section
variable{X:Cx}{o e f:Expr}{apos cpos:Pos}{td ty tx:TE}
theorem cQ(C:X.A.units+1 < Bf)(G:PE X o td)(J:PE X e ty)(L:PE X f tx)(m:M2 X o "get" apos e f cpos):PE X (.Call (.Attribute o "get" apos) [e,f] [] cpos) (lq td ty tx):=by
 intro j s l H Q I h;refine oj m.base m.few m.line Rj Ei T5 (thn (G j s l H _ I h) ?_);rintro u N ⟨x,O,B,P,a,R,d,S⟩;subst R;obtain rfl:u=AV a:=P;let#[T,U,_]:=nh B d;refine#[T,U,?_];rw[m.trees]
 refine Gc rfl (Lb (Ed (thn (J j N l O _ B S) λiv Y #[y,Z,I2,ry,q2]=>
  Ed (thn (L j Y l Z _ I2 q2) ?_))));rintro fv s3 ⟨z,H3,I3,rz,ov,g,q3⟩;refine JB ?_
 exact oJ C I3 g ry rz λw' s4 I4 uf=>#[_,H3,I4,uf,q3]
end
end
end L2
namespace Att
open PySem.W PySem.Calls
theorem Os:∀(ns:Z') (vs:¬AE),WellAll P h vs (ns.map sQ)->F9 vs ns:=by
 intro ns
 induction ns with
 | nil=>
  intro vs w;rw[Vh]at w;cases w;exact .nil
 | cons n ns j=>
  intro vs w;rw[Al]at w
  cases w with
  | cons a b=>
   cases a;exact .cons _ _ (j _ b)
theorem ZB{l:OpenLaw}{n:Nat}(G:l.most=!n){P:Params}{h:BG}{args:¬WData}{m:¬AE}
  (B:l.row.toRowW.claim.pre args) (H:WellAll P h m args) :
  ∃a vs j,m=[AV a]/\args=[WData.list (j.map sQ)]/\h.get? a=some { cls:=.type "list",data:=.seq vs.toArray }/\F9 vs j/\-j<=n:=by
 let A:WShape.hasAll [] args [.list .int]:=(pre_splitW B).1;let C:l.pre.holds [] { args:=args }=true:=(pre_splitW B).2;let#[d,r,rfl,I,J]:=hasAllW_cons A;obtain rfl:=hasAllW_nil J;let#[S,rfl,L]:=hasW_list I;let#[j,rfl]:=items_int L
 let o:-j<=n:=by
  unfold OpenLaw.pre at C
  let w:(WTm.not (.lt (.lit (.int (n:Int))) (.len (.arg 0)))).holds [] { args:=[.list (j.map .int)] }=true:=by
   let w:=(holds_andW C).1;rw[G]at w;exact w
  let E:=condW_of w (w_not (w_lt w_lit (w_len_list (w_arg rfl))));rw[AD]at E
  refine fH λq=>?_
  let T:(n:Int) < ((-j:Nat):Int):=by ext
  first
   | ext
   | (simp at E;omega)
 cases H with
 | cons N O=>
  cases O
  cases N with
  | list Q R=>exact#[_,_,j,rfl,rfl,Q,Os j _ R,o]
theorem ZE(l:OpenLaw)(args:¬WData):l.row.toRowW.claim.post args (.bool true) args:=
 postW_of (r:=l.row.toRowW) (X:=(true==true))
  (show WShape.has [] (.bool true) .bool=true by rfl)
  (show(WTm.eq .res (.lit (.bool true))).value [] { args:=args,res:=!.bool true,after:=args }=!.bool (true==true)from w_eq_bool (w_res rfl) w_lit) rfl
theorem VZ{l:OpenLaw}{n:Nat}{q:Ao}{m:¬Str}{P:(Str->⇑AE)->BG->Prop}{Q:A3->BG->Prop}{d:DefRec}
  (X:l.most=!n) (Z:d.params.defaults=[])
  (call:∀(w:A3) (A j:AK) (I N:Str->⇑AE) (E:AL) (o:Obj) (O J B:AE) (a:AL) (vs:¬AE) (L:Z'),
   Ground q m [] P w A I N j.heap->Q w j.heap ->
   j.heap.get? E=!o->o.data=.func (docDef d.name d.params d.body d.scope O J B)->j.heap.CodeRec J d.name->I d.name=!.ref E ->
   j.heap.get? a=some { cls:=.type "list",data:=.seq vs.toArray }->F9 vs L->-L<=n->j.gens = #[] ->
   HP (AY l.prog w) RF (.call (.ref E) #[[.ref a],[]]) (λr s'=>r=.ok (.ret (.bool true))/\OldK j.heap s'.heap/\s'.os=j.os/\JM s'.gens) j) :
  WalkO q m P Q l.row.toRowW d [] (λf vs=>Yi f vs):=by
 intro w A j I N G Y E o O J B dV kV ho hd tR R wR hg S T as ug U hrd U' vW;obtain rfl:dV=.none:=Dflts.none R Z;obtain rfl:kV=.none:=Dflts.noKw R;let#[a,vs,L,rfl,rfl,wV,C,H]:=ZB X ug U';refine enter_call (Ey (call w A j I N E o O J B a vs L G Y ho (fd_plain hd) tR wR wV C H hg) λr s' hq=>?_);let#[rfl,h2,h3,h4]:=hq;exact#[.inl #[.bool true,.bool true,[],rfl,λM=>rfl,.bool true,ZE l _,λM=>#[Ro,λM hm=>(nomatch hm)]],h2,h3,h4]
end Att
namespace L2
theorem Ru:∀{vs:¬AE} {j:Z'},F9 vs j->Bl (j.map V.int) vs
 | _,_,.nil=>.nil
 | _,_,.cons n t h=>.cons #[t,rfl] (Ru h)
def jY(H:Hp):Prop:=∀b,H b=none∨∃o j,H b=!.frz o (.lst j)
theorem cw{P}{w}{K}{l L}{CX}{k}{N a}{fd}{x}{sp}{s₁}{vs}{A}
  (T:K.In s₁.heap) (U:s₁.heap.Ns BD l) (hb:s₁.heap.Ns Vv L) (O:∀x:Str,x≠"__name__"->L x=ES x) (V':s₁.heap.NoLimit) (hg:s₁.gens = #[])
  (Q:s₁.heap.get? a=some { cls:=.type "list",data:=.seq vs.toArray }) (hi:F9 vs A) (hl:-A<=sizeLine) (hr:FK k RF)
  (F:∀base:BG,K.In base->base.Ns BD l->Ca P w K l base CX k N fd [x] sp) (yq:∀(s:AK) (u:AE),Vm s fd #[[u],[]] [(x,u)])
  (xQ:∀H:Hp,jY H->SqL K H a (A.map V.int)->sp [.ref a] H (λv M=>v=.bl true) λM M M=>False)
  (W':∀H e s',CX [] H s₁ (λM M M=>False) e s'->False) :
  HP (AY P w) RF (.call (.ref N) #[[.ref a],[]]) (λr s'=>r=.ok (.ret (.bool true))/\OldK s₁.heap s'.heap/\s'.os=s₁.os/\JM s'.gens) s₁:=by
 let rv:=Ru hi;let X:=-hi
 let j:∀H:Hp,jY H->SqL K H a (A.map V.int)->HOk P w H s₁.heap->(∀b,H b≠none->b=a)->(H a≠none->K.lookup a=none) ->
   HP (AY P w) RF (.call (.ref N) #[[.ref a],[]]) (λr s'=>r=.ok (.ret (.bool true))/\OldK s₁.heap s'.heap/\s'.os=s₁.os/\JM s'.gens) s₁:=by
  intro H Y hS B hA hK
  let Z:∀{b:AL} {o:Obj},s₁.heap.get? b=!o->H b=none->(Ti s₁.heap H).get? b=!o:=λe n=>dR e n
  let yl:∀{b:AL} {o:Obj} {G:Array La} {I:Nat},s₁.heap.get? b=!o->o.data=.dict G I->H b=none:=λ{b o G I} e d=>by
   grind
  let J:∀{b:AL} {m:Str->⇑AE},s₁.heap.Ns b m->(Ti s₁.heap H).Ns b m:=λ{b m} #[o,G,I,e,d,r]=>#[o,G,I,Z e (yl e d),d,r]
  let C:K.In (Ti s₁.heap H):=λb o e=>Z (T b o e) (by
   grind)
  let hM:Mod K l (Ti s₁.heap H):=#[C,J U,#[L,J hb,O],let #[mc,h1,h2]:=V';#[mc,J h1,h2]];let e0:XH P w K l (Ti s₁.heap H) RF [] s₁ H:=#[rfl,hM,λb o e=>io e,pT (ZY _ _),trivial,λb hb=>zX (show b∈([]:¬AL)from hb) ∅,B,.of_eq hg]
  refine Ey ((F _ C (J U)).run RF [] s₁ H #[[.ref a],[]] [.ref a] [.ref a] _ _ hr e0 (yq s₁ (.ref a)) (.cons rfl .nil) (xQ H Y hS)) λr s' h=>?_
  cases r with
  | error e=>exact(W' H e s' h).elim
  | ok fl=>
   cases fl with
   | next=>exact RN h
   | brk=>exact RN h
   | cont=>exact RN h
   | ret u=>
    let#[v,H',os,E,un,Y',r',q]:=h;let q':v=.bl true:=q;subst q';obtain rfl:u=Mg true:=r';refine#[rfl,OldK.of_keep λb o e=>?_,os,E]
    cases q:H b with
    | none=>exact un.keep b o e q (by intro z;exact zX (show b∈([]:¬AL)from z) ∅) ∅
    | some u=>
     rcases Y b with z | ⟨ob,xs,z⟩
     ·ext
     ·let z2:=un.frzs b ob _ z
      let#[e1,_]:=B b _ z;let#[e2,_]:=Y' b _ z2
      ext
 cases R:K.lookup a with
 | some o=>
  let e:=T a o R;rw[Q]at e;cases e
  refine j (λM=>none) (λM=>.inl rfl) (.inr #[_,vs.toArray,_,R,rfl,rfl,rfl,by ext,by ext]) (λb u z=>by ext) (λb z=>zX rfl z) λz=>zX rfl z
 | none=>
  refine j (λb=>if b=a then !.frz { cls:=.type "list",data:=.seq vs.toArray } (.lst (A.map V.int))else none) (λb=>?_) (.inl (.inr #[{ cls:=.type "list",data:=.seq vs.toArray },qX rfl])) (λb u z=>?_) (λb z=>?_) λM=>R
  ·by_cases hb:b=a
   ·exact .inr #[_,_,qX hb]
   ·exact .inl (qY hb)
  ·by_cases hb:b=a
   ·let S:=(qX hb).symm.trans z
    cases S;subst hb;exact#[Q,by rw[AD];exact hl,vs,_,rv,Q]
   ·let S:=(qY hb).symm.trans z
    cases S
  ext
theorem fq{l:PySem.W.OpenLaw}{n k:Nat}{q:Ao}{m:¬Str}{O:(Str->⇑AE)->BG->Prop}{J:A3->BG->Prop}{d:DefRec}{K:Params->AB}{CX:A3->CXT}{sp:A3->Sp}{x:Str}
  (P:l.most=!n) (Q:n<=sizeLine) (R:d.params.defaults=[]) (S:FK k RF)
  (U:∀(w:A3) (h:BG),J w h->(K w.params).In h)
  (F:∀(w:A3) (B:Str->⇑AE) (E:AL) (h:BG),(K w.params).In h->h.Ns BD B->B d.name=!.ref E ->
   ∃fd:EA,(∀(s:AK) (u:AE),Vm s fd #[[u],[]] [(x,u)]) /\
    ∀base:BG,(K w.params).In base->base.Ns BD B->Ca l.prog w (K w.params) B base (CX w) k E fd [x] (sp w))
  (X:∀(w:A3) (H:Hp) (a:AL) (I:Z'),I.length<=n->jY H->SqL (K w.params) H a (I.map V.int)->sp w [.ref a] H (λv M=>v=.bl true) λM M M=>False)
  (Z:∀(w:A3) (H:Hp) (s:AK) (e:AE) (s':AK),CX w [] H s (λM M M=>False) e s'->False) :
  PySem.W.WalkO q m O J l.row.toRowW d [] (λf vs=>Yi f vs):=by
 refine Att.VZ P R λw L C B mb E o pm cd doc a vs I G Y ho hd tR wR wV A j hg=>?_
 let N:=U w _ Y;let#[fd,hb,hF]:=F w B E _ N G.T.g wR
 exact cw N G.T.g G.T.b G.T.builtins G.T.nolimit hg wV A (A5 j Q) S hF hb (λH hO hS=>X w H a I j hO hS) λH e s'=>Z w H C e s'
def Jv(s:B5)(j:Nat):B5:=match s with
 | .ClassDef _ _ _ l _ _ _ _ _ _ _=>l.getD j (.Pass #[0,0,0,0])
 | _=>.Pass #[0,0,0,0]
def Jw(s:B5):Arguments:=match s with
 | .FunctionDef _ a _ _ _ _ _ _ _ _=>a
 | _=>{ posonlyargs:=[],args:=[],vararg:=none,kwonlyargs:=[],kw_defaults:=[],kwarg:=none,defaults:=[] }
def FI(s:B5):¬B5:=match s with
 | .FunctionDef _ _ b _ _ _ _ _ _ _=>b
 | _=>[]
def By(s:B5):LW:=match s with
 | .FunctionDef _ _ _ _ _ _ j _ _ _=>j
 | _=>{ kind:=.function,names:=[],isGenerator:=false,isCoroutine:=false }
structure Fun(K:AB)(x qual:Str)(st:B5)(f:AL)(fd:EA):Prop where
 ex:∃(oc:AE) (od:⇑AL) (kV doc pm:AE) (an:⇑AL) (t4 ct:AE) (uz:Array (⇑AE)),
  fd=He x qual (Jw st) (FI st) (By st) .none kV doc pm an t4 ct/\K.lookup f=!#[oc,od,.func fd,uz]/\Ph K t4 qual=true
 kp:GI K (.ref f)=true
section
variable{K:AB}
theorem Fun.binds{x j}{st}{f}{fd}{m}(F:Fun K x j st f fd)
  (h:∀(kV l o:AE) (w:⇑AL) (A ct:AE) (us:¬AE),us.length=-m->fE (He x j (Jw st) (FI st) (By st) .none kV l o w A ct) #[us,[]]=pure (m.zip us)):Binds K fd m []:=by
 let#[B,C,kV,l,o,w,A,ct,E,rfl,G,H]:=F.ex;exact .all (h kV l o w A ct)
theorem dY{x j}{st}{f}{B}{C w}{E}{kV m A o ct}(l:K.lookup f=!#[B,C,.func (He x j (Jw st) (FI st) (By st) .none kV m A w o ct),E])
  (c:Ph K o j) (k:GI K (.ref f)):Fun K x j st f (He x j (Jw st) (FI st) (By st) .none kV m A w o ct):=#[#[B,C,kV,m,A,w,o,ct,E,rfl,l,c],k]
end
section
variable{X:Cx}
theorem pv(i:Nat)(j:↑(X.N[i]?=!x))(l:autoParam (Vis X.env.scope x) yq13q)(m:↥((x==("__debug__" : Str))=false))
  (o:↥((x==("__classdict__" : Str))=false)):PE X (.Name x pos) (DI i):=mT j l m o
end
def Same(H H':Hp):Prop:=∀b o,H b=!o->H' b=!o
theorem Same.trans(a:Same H j)(b:Same j H2):Same H H2:=λc o h=>b c o (a c o h)
set_option genInjectivity true in
inductive D where
 | non | bl (b:Bool) | int (i:Int) | str (x:Str) | tup (ds:¬D) | fro (ds:¬D) | ref (n:Nat) | exc (C:AL)
def Vd(K:AB)(H:Hp)(a:AL)(vs:¬V):Prop:=
 (∃o,H a=!.frz o (.lst vs)) ∨
  ∃(o:Obj) (j:Array AE) (n:Nat),K.lookup a=!o/\o.cls=.type "list"/\o.dict=none/\o.data=.seq j n/\j.size<=sizeLine/\Bl vs j.toList
theorem Vd.sq{K}{H}{a}{vs}(h:Vd K H a vs):SqL K H a vs:=by
 rcases h with h | h
 ·exact .inl (.inr h)
 ·exact .inr h
def ExcO(o:Obj)(C:AL):Prop:=o.cls=.ref C/\o.dict=none/\∃vs,o.data=.fields vs
set_option genInjectivity true in
mutual
inductive DU(K:AB)(ρ:¬AL)(H:Hp):D->V->Prop where
 | non:DU K ρ H .non .non
 | bl (b:Bool):DU K ρ H (.bl b) (.bl b)
 | int (i:Int):DU K ρ H (.int i) (.int i)
 | str (x:Str):DU K ρ H (.str x) (.str x)
 | tup {ds:¬D} {a:AL} {vs:¬V}:H a=!.tup vs->A7 K ρ H ds vs->DU K ρ H (.tup ds) (.ref a)
 | fro {ds:¬D} {a:AL} {vs:¬V}:Vd K H a vs->A7 K ρ H ds vs->DU K ρ H (.fro ds) (.ref a)
 | ref {n:Nat} {a:AL}:ρ[n]?=!a->DU K ρ H (.ref n) (.ref a)
 | exc {C a:AL} {o:Obj} {u:HO}:H a=!.frz o u->ExcO o C->DU K ρ H (.exc C) (.ref a)
inductive A7(K:AB)(ρ:¬AL)(H:Hp):¬D->¬V->Prop where
 | nil:A7 K ρ H [] []
 | cons {d:D} {v:V} {ds:¬D} {vs:¬V}:DU K ρ H d v->A7 K ρ H ds vs->A7 K ρ H (d :: ds) (v :: vs)
end
structure Le(K:AB)(ρ:¬AL)(H:Hp)(ρ':¬AL)(H':Hp):Prop where
 pre:∀(n:Nat) a,ρ[n]?=!a->ρ'[n]?=!a
 tup:∀a xs,H a=!.tup xs->H' a=!.tup xs
 frz:∀a o u,H a=!.frz o u->H' a=!.frz o u
 oth:∀a o,H a=!o->(∀n:Nat,ρ[n]?≠!a)->H' a=!o/\∀n:Nat,ρ'[n]?≠!a
theorem Vd.mono{K}{H H'}{a}{xs}(l:∀a o u,H a=!.frz o u->H' a=!.frz o u)(h:Vd K H a xs):Vd K H' a xs:=by
 rcases h with⟨o,h⟩ | h
 ·exact .inl #[o,l _ _ _ h]
 ·exact .inr h
section
variable{K:AB}{ρ ρ' ρ'':¬AL}{H H' uv:Hp}
theorem Le.refl:Le K ρ H ρ H:=#[λG G h=>h,λG G h=>h,λG G G h=>h,λG G h n=>#[h,n]]
theorem Le.trans(a:Le K ρ H ρ' H')(b:Le K ρ' H' ρ'' uv):Le K ρ H ρ'' uv:=
 #[λn x h=>b.pre n x (a.pre n x h),λx j h=>b.tup x j (a.tup x j h),λx o u h=>b.frz x o u (a.frz x o u h),λx o h n=>b.oth x o (a.oth x o h n).1 (a.oth x o h n).2]
mutual
theorem DU.keep(l:∀a xs,H a=!.tup xs->H' a=!.tup xs)(j:∀a o u,H a=!.frz o u->H' a=!.frz o u):∀{d:D} {v:V},DU K ρ H d v->DU K ρ H' d v
 | _,_,h=>by
  cases h with
  | non=>exact .non
  | bl b=>exact .bl b
  | int i=>exact .int i
  | str x=>exact .str x
  | tup h r=>exact .tup (l _ _ h) (A7.keep l j r)
  | fro h r=>exact .fro (h.mono j) (A7.keep l j r)
  | ref h=>exact .ref h
  | exc h e=>exact .exc (j _ _ _ h) e
theorem A7.keep(j:∀a xs,H a=!.tup xs->H' a=!.tup xs)(l:∀a o u,H a=!.frz o u->H' a=!.frz o u):∀{ds:¬D} {vs:¬V},A7 K ρ H ds vs->A7 K ρ H' ds vs
 | _,_,h=>by
  cases h with
  | nil=>exact .nil
  | cons r t=>exact .cons (DU.keep j l r) (A7.keep j l t)
end
theorem A7.length:∀{ds:¬D} {vs:¬V},A7 K ρ H ds vs->-ds=-vs
 | _,_,h=>by
  cases h with
  | nil=>rfl
  | cons _ t=>rw[Au,Au,A7.length t]
theorem A7.get:∀{ds:¬D} {vs:¬V} {i:Nat} {d:D},A7 K ρ H ds vs->ds[i]?=!d->∃v,vs[i]?=!v/\DU K ρ H d v
 | _,_,_,_,.nil,e=>by simp at e
 | _,_,0,_,.cons r _,e=>by ext
 | _,_,i+1,d,.cons _ t,e=>by
  let#[v,j,l]:=A7.get t (by simpa using e);ext
theorem A7.get':∀{ds:¬D} {vs:¬V} {i:Nat} {v:V},A7 K ρ H ds vs->vs[i]?=!v->∃d,ds[i]?=!d/\DU K ρ H d v
 | _,_,_,_,.nil,e=>by simp at e
 | _,_,0,_,.cons r _,e=>by ext
 | _,_,i+1,d,.cons _ t,e=>by
  let#[v,j,l]:=A7.get' t (by simpa using e);ext
theorem A7.append:∀{ds es:¬D} {vs us:¬V},A7 K ρ H ds vs->A7 K ρ H es us->A7 K ρ H (ds++es) (vs++us)
 | _,_,_,_,h,s=>by
  cases h with
  | nil=>exact s
  | cons r t=>exact .cons r (A7.append t s)
theorem A7.take:∀{ds:¬D} {vs:¬V} (n:Nat),A7 K ρ H ds vs->A7 K ρ H (ds.take n) (vs.take n)
 | _,_,0,_=>.nil
 | _,_,_+1,.nil=>.nil
 | _,_,n+1,.cons r t=>.cons r (A7.take n t)
theorem A7.drop:∀{ds:¬D} {vs:¬V} (n:Nat),A7 K ρ H ds vs->A7 K ρ H (ds.drop n) (vs.drop n)
 | _,_,0,r=>r
 | _,_,_+1,.nil=>.nil
 | _,_,n+1,.cons _ t=>A7.drop n t
theorem A7.set(r:DU K ρ H d v):∀{ds:¬D} {vs:¬V} (i:Nat),A7 K ρ H ds vs->A7 K ρ H (ds.set i d) (vs.set i v)
 | _,_,_,.nil=>.nil
 | _,_,0,.cons _ t=>.cons r t
 | _,_,i+1,.cons q t=>.cons q (A7.set r i t)
theorem A7.reverse(h:A7 K ρ H ds vs):A7 K ρ H ds.reverse vs.reverse:=by
 induction ds generalizing vs with
 | nil=>cases h;exact .nil
 | cons d ds j=>
  cases h with
  | cons r t=>rw[aI,aI];exact(j t).append (.cons r .nil)
theorem A7.of_ints:∀(j:Z'),A7 K ρ H (j.map D.int) (j.map V.int)
 | []=>.nil
 | n :: j=>.cons (.int n) (A7.of_ints j)
theorem A7.ints:∀{j:Z'} {vs:¬V},A7 K ρ H (j.map D.int) vs->vs=j.map V.int
 | [],_,.nil=>rfl
 | n :: j,_,.cons r t=>by
  cases r;rw[A7.ints t];rfl
end
set_option genInjectivity true in
inductive Ob where
 | lst (ds:¬D)
 | dK (kvs:¬(Key×D))
 | dT (kvs:¬(¬Key×D))
 | ins (C:AL) (fs:¬(Str×D))
 | fK (kvs:¬(Key×D))
 | fT (kvs:¬(¬Key×D))
 | mem (L:Key->Int)
abbrev Sto:=¬Ob
def memU:¬Key:=(A0 1000).map λ(i:Nat)=>Dw (i:Int)
abbrev KVR{j:Type}(K:AB)(ρ:¬AL)(H:Hp):¬(j×D)->¬(j×V)->Prop:=Ez λ(p:j×D) (q:j×V)=>p.1=q.1/\DU K ρ H p.2 q.2
def Of(K:AB)(ρ:¬AL)(H:Hp)(a:AL):Ob->Prop
 | .lst ds=>∃vs,H a=!.lst vs/\A7 K ρ H ds vs
 | .dK j=>∃l,H a=!.dK l/\KVR K ρ H j l
 | .dT j=>∃l,H a=!.dT l/\KVR K ρ H j l
 | .ins C fs=>∃o m,H a=!.ins C o m/\KVR K ρ H fs m
 | .fK j=>∃ob l,H a=!.frz ob (.dK l)/\KVR K ρ H j l
 | .fT j=>∃ob l,H a=!.frz ob (.dT l)/\KVR K ρ H j l
 | .mem L=>∃l,H a=!.dK l/\(l.map (·.1)).Nodup/\∀x∈l,x.1∈memU/\x.2=V.int (L x.1)
structure Ow(K:AB)(ρ:¬AL)(S:Sto)(H:Hp):Prop where
 len:-ρ=-S
 nd:∀(i j:Nat) a,ρ[i]?=!a->ρ[j]?=!a->i=j
 ob:∀(n:Nat) o a,S[n]?=!o->ρ[n]?=!a->Of K ρ H a o
section
variable{K:AB}{ρ:¬AL}{H H':Hp}{S:Sto}{a:AL}{o:Ob}
theorem Of.has(h:Of K ρ H a o):H a≠none:=by
 cases o with
 | lst ds=>let#[_,e,_]:=h;ext
 | dK ds=>let#[_,e,_]:=h;ext
 | dT ds=>let#[_,e,_]:=h;ext
 | ins C fs=>let#[_,_,e,_]:=h;ext
 | fK ds=>let#[_,_,e,_]:=h;ext
 | fT ds=>let#[_,_,e,_]:=h;ext
 | mem L=>let#[_,e,_]:=h;lia
theorem Of.keep(m:∀a xs,H a=!.tup xs->H' a=!.tup xs)(w:∀a o u,H a=!.frz o u->H' a=!.frz o u)(e:H' a=H a)(h:Of K ρ H a o):Of K ρ H' a o:=by
 cases o with
 | lst ds=>let#[vs,j,l]:=h;exact#[vs,e.trans j,l.keep m w]
 | dK ds=>let#[vs,j,l]:=h;exact#[vs,e.trans j,Ez.mapP l λG G z=>#[z.1,z.2.keep m w]]
 | dT ds=>let#[vs,j,l]:=h;exact#[vs,e.trans j,Ez.mapP l λG G z=>#[z.1,z.2.keep m w]]
 | ins C fs=>let#[A,vs,j,l]:=h;exact#[A,vs,e.trans j,Ez.mapP l λG G z=>#[z.1,z.2.keep m w]]
 | fK ds=>let#[A,vs,j,l]:=h;exact#[A,vs,e.trans j,Ez.mapP l λG G z=>#[z.1,z.2.keep m w]]
 | fT ds=>let#[A,vs,j,l]:=h;exact#[A,vs,e.trans j,Ez.mapP l λG G z=>#[z.1,z.2.keep m w]]
 | mem L=>let#[vs,j,l]:=h;exact#[vs,e.trans j,l]
theorem Ow.there(h:Ow K ρ S H){m:Nat}(e:ρ[m]?=!a):∃o,S[m]?=!o/\Of K ρ H a o:=by
 let j:m < -S:=by rw[<-h.len];exact(AI.mp e).1
 exact#[S[m],by simp[j],h.ob m _ a (by simp[j]) e]
end
set_option genInjectivity true in
inductive Res(α:Type) where
 | ok (a:α) (S:Sto) | err (c:AL) (S:Sto) | bad
abbrev Lo:=¬⇑D
structure oW(K:AB)(ρ:¬AL)(H:Hp)(e:Lo)(σ:St):Prop where
 len:-e=-σ
 at':∀(i:Nat) d,e[i]?=!(!d)->∃v,σ[i]?=!(!v)/\DU K ρ H d v
section
variable{K:AB}{ρ:¬AL}{H:Hp}{e:Lo}{σ:St}
theorem oW.set(h:oW K ρ H e σ)(r:DU K ρ H d v)(i:Nat):oW K ρ H (e.set i (!d)) (σ.set i (!v)):=by
 refine#[by simp[h.len],λj o q=>?_]
 by_cases l:i=j
 ·subst l
  let m:i < -e:=by
   let:=(AI.mp q).1;simpa using this
  rw[Ee m]at q;cases q;exact#[v,by rw[Ee (by rw[<-h.len];exact m)],r]
 ·rw[C1 l]at q ⊢
  exact h.at' j o q
end
abbrev EW:=AL->St->Hp->Prop
abbrev EH:=AL->Hp->Prop
abbrev noE:EW:=λG G G=>False
def sL{m:Type}(K:AB)(E:EH)(ρ:¬AL)(H:Hp)(r:Res m)(k:m->Sto->Prop):Prop:=match r with
 | .ok a S=>k a S
 | .err c S=>∀j l,Le K ρ H j l->Ow K j S l->E c l
 | .bad=>False
theorem PE.imp(h:PE X e t)(i:∀j H Q,t' j H Q->t j H Q):PE X e t':=λl s j H Q I q=>h l s j H Q I (i j H Q q)
theorem PT.imp(h:PT X e t)(i:∀j H Q,t' j H Q->t j H Q):PT X e t':=λl s j H Q I q=>h l s j H Q I (i j H Q q)
theorem PS.imp(h:PS X e t)(i:∀D j H,t' D j H->t D j H):PS X e t':=λl s j H D I q=>h l s j H D I (i D j H q)
theorem PSs.imp(h:PSs X e t)(i:∀D j H,t' D j H->t D j H):PSs X e t':=λl s j H D I q=>h l s j H D I (i D j H q)
theorem PI.imp(h:PI X tg e t)(i:∀j H R,t' j H R->t j H R):PI X tg e t':=λl s j H R I q=>h l s j H R I (i j H R q)
section
variable{e a:Expr}
def rD(K:AB)(f:D->D->Sto->Res D):R2:=λu v H Q=>∃l S x y d o,Ow K l S H/\DU K l H x u/\DU K l H y v/\f x y S=.ok d o /\
 ∀j m z,Le K l H j m->Ow K j o m->DU K j m d z->Q z m
variable{es:¬Expr}
noncomputable def iI(d:D)(S:Sto):⇑(¬D):=match d with
 | .tup ds=>!ds
 | .fro ds=>!ds
 | .ref n=>match S[n]? with
  | some (.lst ds)=>!ds
  | _=>none
 | _=>none
theorem Xt{K}{ρ}{H}{S}{d}{x}{ds}(hs:Ow K ρ S H)(r:DU K ρ H d x)(h:iI d S=!ds):∃p xs,x=.ref p/\A7 K ρ H ds xs/\(SqL K H p xs∨SqT K H p xs):=by
 cases r with
 | tup j l=>cases h;exact#[_,_,rfl,l,.inr (.inl (.inl j))]
 | fro j l=>cases h;exact#[_,_,rfl,l,.inl j.sq]
 | @ref n a m=>
  let#[o,w,A]:=hs.there m;unfold iI at h;simp only[w]at h
  cases o with
  | lst es=>cases h;let#[vs,e,B]:=A;exact#[_,_,rfl,B,.inl (.inl (.inl e))]
  | _=>cases h
 | _=>cases h
end
def spM(K:AB)(n:Nat)(f:¬D->Sto->Res D):Sp:=λvs H Q E=>∃m ds S,ds.length=n/\A7 K m H ds vs/\Ow K m S H/\sL K (λc l=>E (.ref c) none l) m H (f ds S) λd o=>
 ∀j l x,Le K m H j l->Ow K j o l->DU K j l d x->Q x l
theorem spM.len{K}{n}{f}{vs}{H}{Q}{E}(h:spM K n f vs H Q E):-vs=n:=by
 let#[m,ds,S,j,l,_]:=h;rw[<-l.length];exact j
def k8(E:EW)(j:St):XK:=λv o H=>o=none/\∃c,v=.ref c/\E c j H
theorem KVR.lookup{K}{ρ}{H}(f:Str):∀{x:¬(Str×D)} {y:¬(Str×V)} {d:D},KVR K ρ H x y->x.lookup f=!d->∃v,y.lookup f=!v/\DU K ρ H d v
 | _,_,d,z,h=>by
  cases z with
  | nil=>simp at h
  | @cons p q _ _ r t=>
   let#[g,a]:=p;let#[m,b]:=q;let#[j,o]:=r;subst j;rw[CI]at h ⊢
   cases l:(f==g)with
   | true=>ext
   | false=>rw[l]at h;exact KVR.lookup f t h
def cA(f:Str)(v:D):¬(Str×D)->¬(Str×D)
 | []=>[(f,v)]
 | (g,x) :: r=>if g=f then(g,v) :: r else(g,x) :: cA f v r
theorem KVR.putF{K}{ρ}{H}(f:Str){d}{v}(rd:DU K ρ H d v):∀{x:¬(Str×D)} {y:¬(Str×V)},KVR K ρ H x y->KVR K ρ H (cA f d x) (putF f v y)
 | _,_,z=>by
  cases z with
  | nil=>exact .cons #[rfl,rd] .nil
  | @cons p q _ _ r t=>
   let#[g,a]:=p;let#[o,b]:=q;let#[l,m]:=r;subst l;unfold cA L2.putF
   by_cases j:g=f
   ·rw[qX j,qX j];exact .cons #[rfl,rd] t
   ·rw[qY j,qY j];exact .cons #[rfl,m] (KVR.putF f rd t)
theorem KVR.length{j:Type}{K:AB}{ρ:¬AL}{H:Hp}{x:¬(j×D)}{y:¬(j×V)}(h:KVR K ρ H x y):-x=-y:=C5 h
section
variable{X:Cx}
instance(i j:Int):Decidable (oY i j):=inferInstanceAs (Decidable (_/\_))
instance(i j:Int):Decidable (eM i j):=inferInstanceAs (Decidable (_/\_/\_))
instance(i j:Int):Decidable (eN i j):=inferInstanceAs (Decidable (_∨_))
def qy(K:AB):R2:=λx y H Q=>∃a b j l,x=.ref a/\y=.ref b/\H a=!.tup j/\H b=!.tup l/\-j+-l<=sizeLine /\
 (j=[]->Q (.ref b) H)/\(l=[]->Q (.ref a) H)/\(∀p,H p=none->Q (.ref p) (upd H p (.tup (j++l))))
theorem YA:OpR X (D7 .Add) (qy X.K):=by
 intro J s L H x y v u Q I N O h;let#[a,b,w,P,rfl,rfl,A,hb,R,S,T,U]:=h;cases N;cases O;let#[Y,Z,p1,_]:=I.tuple (.inl (.inl A));let#[tw,r2,p2,_]:=I.tuple (.inl (.inl hb))
 by_cases l:w=[]
 ·let#[#[cls,dd,data,sl],B,C,n,E]:=id p1
  let#[#[G,m,data2,o],j,hc2,n2,hd2]:=id p2;simp only at C E hc2 hd2;subst C E hc2 hd2;let hi:=Z.nil_iff.mpr l
  exact aG #[_,B,rfl] #[_,j,rfl] SY Yf Je JI (Ii _ _)
   (tuple_addW0 a b Y.toArray tw.toArray n n2 dd m sl o (by simp[hi])) #[B,j,#[.ref b,H,I,rfl,S l]]
 ·exact il J s L H (.ref a) (.ref b) _ _ Q I rfl rfl #[a,b,w,P,rfl,rfl,.inl (.inl A),.inl (.inl hb),l,R,T,λM p hp=>U p hp]
theorem PX{K}{ρ}{H}{ds}{vs}{i}{d}(r:A7 K ρ H ds vs)(h:atI ds i=!d):∃v,atI vs i=!v/\DU K ρ H d v:=by
 unfold atI at h ⊢;rw[<-r.length]
 cases l:ixN (-ds) i with
 | none=>ext
 | some j=>
  rw[l]at h;exact r.get h
end
noncomputable def DD(X:Cx)(scope:LW)(N':¬Str)(m:¬(Str×AL))(C:AL)(j:AK)(l:Hp)(ex:¬AL)(pn:¬(AL×Obj)):Cx where
 prog:=X.prog
 w:=X.w
 K:=X.K
 mg:=X.mg
 base:=X.base
 A:=X.A
 N:=N'
 s₀:=j
 H₀:=l
 env:=compEnvC scope m C X.env
 outer:=X.stack
 stack:=X.stack
 ex:=ex
 fn:=λx=>scope.names.lookup x==!.cell
 calm:=X.calm
 pn:=pn
 xe:=λG G=>False
theorem Tq:∀(names:¬(Str×Ng)) (j:¬(Str×AL)),(∀y∈names,y.2=.free->∃c,o.cells.lookup y.1=!c)->(∀n c,j.lookup n=!c->o.cells.lookup n=!c) ->
  ∃w,(forIn names j (λ(x:Str×Ng) (H:¬(Str×AL))=>match x with | (name,kind)=>if (kind==FW) then do let a <-cellOf o name;pure (HA ((name,a) :: H))else pure (HA H)):Sem (¬(Str×AL)))=pure w /\
   (∀n c,w.lookup n=!c->o.cells.lookup n=!c)/\(∀n c,j.lookup n=!c->∃J,w.lookup n=!J)/\∀y∈names,y.2=.free->∃c,w.lookup y.1=!c
 | [],j,_,A=>#[j,rfl,A,λn c h=>#[c,h],λM h=>nomatch h]
 | (n,k) :: r,j,h,A=>by
  rw[D9]
  by_cases I:k=.free
  ·subst I
   let#[c,L]:=h (n,.free) Aa rfl
   let#[w,e,B,C,E]:=Tq r ((n,c) :: j) (λy l=>h y (AN _ l)) (λm d N=>by
    grind)
   let O:cellOf o n=pure c:=by unfold cellOf;rw[L]
   refine#[w,?_,B,λm d N=>C m (if m==n then c else d) ?_,λy l G=>?_]
   ·simp only[beq_self_eq_true,if_true,O,pure_bind]
    exact e
   ·grind
   ·rcases Ak.mp l with rfl | l
    ·ext
    ·exact E y l G
  ·let hb:(k==FW)=false:=by simpa using I
   let#[w,e,B,C,E]:=Tq r j (λy l=>h y (AN _ l)) A;refine#[w,?_,B,C,λy l G=>?_]
   ·simp only[hb,BB,if_false,pure_bind]
    exact e
   ·rcases Ak.mp l with rfl | l
    ·ext
    ·exact E y l G
theorem YX(h:∀y∈scope.names,y.2=.free->∃c,j.cells.lookup y.1=!c):∃l,closureFor scope j=pure l /\
  (∀n c,l.lookup n=!c->j.cells.lookup n=!c)/\∀y∈scope.names,y.2=.free->∃c,l.lookup y.1=!c:=by
 let#[l,e,m,_,o]:=Tq scope.names [] h (λn c z=>by simp at z);refine#[l,?_,m,o];unfold closureFor;exact(congrArg (λz=>z >>= λw=>pure w) e).trans (by rfl)
def XF(X:Cx)(j:¬Expr)(t:TT):Prop:=
 ∀(m:¬(AL×Obj)) (s:AK) (l:St) (H:Hp) (Q:Bool->Hp->Prop),Inv X m l H s->t l H Q ->
  AW (AY X.prog X.w) X.A (forIn j true λc r=>if r=true then do let ok <-KN c X.env (A2 c X.env);pure (HA ok)else pure (HA r)) (TP X m l Q) X.xe s
theorem Uu:XF X [] (λG H Q=>Q true H):=λj s l H Q I h=>wpAny_tests_nil #[H,I,h]
theorem cI(h:PT X c t):XF X [c] t:=λj s l H Q I q=>wpAny_tests_one (h j s l H Q I q)
structure K8(X:Cx)(scope:LW)(own N':¬Str):Prop where
 kind:scope.kind=.function
 names:∀y∈scope.names,y.2=.local->scope.names.lookup y.1=!.local
 free:∀y∈scope.names,y.2=.free->X.env.kindOf y.1=!.cell∨X.env.kindOf y.1=!.free
 len:-N'=-own+-X.N
 up:∀i x,N'[own.length+i]?=!x->Vis (JE scope X.env) x->(X.N[i]?=!x/\Vis X.env.scope x/\((JE scope X.env).names.lookup x=!.cell∨(JE scope X.env).names.lookup x=!.free)/\X.env.kindOf x≠!.local)/\(x,DJ)∉scope.names/\(x,FW)∈scope.names
 vis:∀x,((JE scope X.env).names.lookup x=!.cell∨(JE scope X.env).names.lookup x=!.free)->(x,FW)∈scope.names∨(x,DJ)∈scope.names
set_option tactic.hygienic true in
theorem FH:∀(names:¬(Str×Ng)) (n:Nat) (j:¬(Str×AL)) (x:Str) (c:AL),(CD n names j).lookup x=!c ->
  ((x,DJ)∈names/\n<=c)∨j.lookup x=!c
 | [],_,_,_,_,h=>.inr h
 | (y,k) :: r,n,j,x,c,h=>by
  unfold CD at h;split at h
  ·rename_i m
   let m:k=.cell:=by simpa using m
   subst m
   rcases FH r (n+1) _ x c h with⟨l,o⟩ | l
   ·exact .inl #[AN _ l,Om o]
   grind
  ·rcases FH r n j x c h with⟨l,o⟩ | l
   ·ext
   ·exact .inr l
theorem DS:∀(names:¬(Str×Ng)) (n:Nat) (j:¬(Str×AL)) (x:Str),(∃c,j.lookup x=!c)->∃c,(CD n names j).lookup x=!c
 | [],_,_,_,h=>h
 | (y,k) :: r,n,j,x,h=>by
  unfold CD;split
  ·refine DS r (n+1) _ x ?_
   grind
  ·exact DS r n j x h
theorem D2:∀(names:¬(Str×Ng)) (n:Nat) (j:¬(Str×AL)) (x:Str),(x,DJ)∈names->∃c,(CD n names j).lookup x=!c/\n<=c
 | (y,k) :: r,n,j,x,h=>by
  unfold CD
  by_cases m:(x,DJ)∈r
  ·split
   ·let#[c,l,w]:=D2 r (n+1) ((y,n) :: j) x m
    exact#[c,l,Om w]
   ·exact D2 r n j x m
  ·rcases Ak.mp h with e | e
   ·cases e
    rw[qX (show(DJ==DJ)=true from rfl)];let#[c,o]:=DS r (n+1) ((y,n) :: j) y #[n,by rw[CI,beq_self_eq_true]]
    rcases FH r (n+1) _ y c o with⟨l,_⟩ | l
    ·exact(m l).elim
    ·rw[CI,beq_self_eq_true]at l
     cases l;exact#[n,o,AM _]
   lia
theorem Lg(m:(x,DJ)∉names)(h:j.lookup x=!c):(CD n names j).lookup x=!c:=by
 let#[o,w]:=DS names n j x #[c,h]
 rcases FH names n j x o w with⟨l,_⟩ | l
 ·exact(m l).elim
 ext
theorem Iz:∀(names:¬(Str×Ng)) (n:Nat) (j:¬(Str×AL)),(∀x c,j.lookup x=!c->c < n)->(∀x y c,j.lookup x=!c->j.lookup y=!c->x=y) ->
  ∀x y c,(CD n names j).lookup x=!c->(CD n names j).lookup y=!c->x=y
 | [],_,_,_,h=>h
 | (z,k) :: r,n,j,m,h=>by
  unfold CD;split
  ·let l:∀x c,((z,n) :: j).lookup x=!c->(x=z/\c=n)∨j.lookup x=!c:=λx c q=>by
    rw[CI]at q
    cases hb:x==z with
    | true=>rw[hb]at q;cases q;exact .inl #[beq_iff_eq.mp hb,rfl]
    | false=>rw[hb]at q;exact .inr q
   refine Iz r (n+1) _ (λx c q=>?_) λx y c o w=>?_
   ·rcases l x c q with⟨_,rfl⟩ | e
    ·exact FZ _
    ·exact EG (m x c e)
   grind
  ·exact Iz r n j m h
set_option tactic.hygienic true in
theorem Iy:∀(names:¬(Str×Ng)) (h:BG) (j:¬(Str×AL)) (x:Str) (c:AL),(CD h.objs.size names j).lookup x=!c->j.lookup x=!c∨((F6 h names).IsCell c none/\h.objs.size<=c)
 | [],_,_,_,_,q=>.inl q
 | (y,k) :: r,h,j,x,c,q=>by
  unfold CD at q;unfold F6;split at q
  ·rename_i m
   rw[qX m];let:=Iy r (h.push { cls:=.type "cell",data:=.cell none }) ((y,h.objs.size) :: j) x c ∅
   rcases this with e | ⟨e,l⟩
   ·rw[CI]at e
    cases hb:x==y with
    | true=>
     rw[hb]at e;cases e;exact .inr #[#[_,UF _ _ _ _ (AO _ rfl),rfl],AM _]
    | false=>ext
   ·exact .inr #[e,by rw[DC]at l;exact Om l]
  ·rename_i m
   rw[qY m];exact Iy r h j x c q
theorem V7
  (h:Q (newEnv scope s.heap.objs.size globals (CD (s.heap.push { cls:=.type "dict",data:=.dict #[] }).objs.size scope.names B) l none .none (!j) Vv) { s with heap:=F6 (s.heap.push { cls:=.type "dict",data:=.dict #[] }) scope.names }) :
  AW M A (Vt scope globals B [] l none .none (!j)) Q E s:=by
 simp only[Vt,Mb,if_true];refine AA (wpAny_alloc ?_);refine AA (wpAny_layCells _ (λo w m=>by rfl) _ _ _ _ ?_);rw[Gi];exact AA (AC (AC h))
section
theorem W5(P:K8 X scope own N')(I:Inv X ζ S Q E)(G:∀b∈fp,MW X ζ Q b)(vm:∀b∈fp,b < E.heap.objs.size)
  (l:∀n c,B.lookup n=!c->X.env.cells.lookup n=!c) (c2:∀y∈scope.names,y.2=.free->∃c,B.lookup y.1=!c)
  (T:E.heap.objs.size<=n) (U:∀x c,(CD n scope.names B).lookup x=!c->B.lookup x=!c∨(s.heap.IsCell c none/\n<=c)) (Α:∀c,n<=c->H c=none)
  (Y:E.heap.objs.size<=C) (hn:s.heap.Ns C m) (vV:s.os=E.os) (hg:JM s.gens)
  (u:Un (frs X.stack) fp Q H E.heap s.heap) (Z:HOk X.prog X.w H s.heap) (xS:H C=none) :
  Inv (DD X scope N' (CD n scope.names B) C E Q fp (X.pn++ζ)) [] (Bj (-own) none++S) H s:=by
 let A:∀x c v,B.lookup x=!c->E.heap.IsCell c v->s.heap.IsCell c v:=by
  rintro x c v e ⟨o,ho,hd⟩
  let#[sl,q]:=u.any ho (I.freeC x c (l x c e)) λz=>(G c z).2.2.2.2.1 x c (l x c e) rfl
  exact#[_,q,hd]
 let clt:∀x c,B.lookup x=!c->c < n:=λx c e=>by
  let#[v,z]:=I.cell x c (l x c e);exact Ab z.lt T
 let ok':(DD X scope N' (CD n scope.names B) C E Q fp (X.pn++ζ)).Ok:=by
  refine#[I.ok.mod,P.kind,I.ok.glob,I.ok.blt,Y,Iz _ _ _ clt λx y c h1 h2=>I.ok.inj x y c (l x c h1) (l y c h2),λx hx=>?_,λx c z q=>?_,I.ok.hd,I.ok.frames,.inl rfl,λb hb=>?_,I.bs,A5 I.ok.bsz I.sz,λb o e hb=>?_,λb hb hb'=>?_,I.stack,I.stkFree]
  ·rcases P.vis x hx with h | h
   ·exact DS _ _ _ _ (c2 _ h rfl)
   ·let#[c,hc,_]:=D2 scope.names n B x h
    exact#[c,hc]
  ·let z:=z
   let#[c',J,hl]:=D2 scope.names n B x (De (beq_iff_eq.mp z));let q:(CD n scope.names B).lookup x=!c:=q;rw[J]at q;cases q;exact A5 T hl
  ·refine#[Ar (Ab (vm b hb) Y),λx c e=>?_]
   rcases U x c e with e | ⟨_,e⟩
   ·exact(G b hb).2.2.2.2.1 x c (l x c e)
   ·exact Ek (Ab (vm b hb) (A5 T e))
  ·let#[_,_,_,z,_]:=G b hb
   rcases z with z | z
   ·exact I.ok.noex b o e z
   ·exact zX (Ab (AX (I.ok.bs b o e).1) z) (Ev _)
  ·let#[_,z1,z2,_]:=G b hb
   rcases Ak.mp (I.stkSub b hb')with e | e
   ·exact z1 e
   ·exact z2 e
 refine#[ok',vV,hg,u,#[m,hn,λi x v e1 R e3=>?_],λx c e=>?_,xS,λx c e=>?_,λp hp=>?_,Z,?_]
 ·let hi:-own<=i:=by
   apply fH
   intro my;rw[Bq (by simpa using my),J5,qX my]at R;cases R
  obtain⟨j,rfl⟩:∃j,i=-own+j:=#[i - -own,by ext]
  rw[BU ∅]at R
  let e2':S[j]?=!(!v):=by simpa using R
  let#[#[n1,n2,n3,n4],n5,n6]:=P.up j x e1 e3;let#[m0,Β,hl]:=I.loc;let#[w',r,lk]:=hl j x v n1 e2' n2;refine#[w',r,.inr #[n3,?_]]
  rcases lk with⟨k,_⟩ | ⟨_,c,hc,tJ⟩
  ·ext
  ·let#[c',J]:=c2 _ n6 rfl
   let e:=l x c' J;rw[hc]at e;cases e;exact#[c,Lg n5 J,A x c _ J tJ]
 ·rcases U x c e with e | ⟨e,_⟩
  ·let#[v,z]:=I.cell x c (l x c e)
   exact#[v,A x c v e z]
  grind
 ·rcases U x c e with e | ⟨_,e⟩
  ·let#[v,o,ho,hd]:=I.cell x c (l x c e)
   exact u.free c o ho (I.freeC x c (l x c e)) λz=>(G c z).2.2.2.2.1 x c (l x c e) rfl
  ext
 ·let L:p∈X.pn++ζ:=by
   let hp:=hp;rwa [BP]at hp
  let#[e,n,ne,nf,d]:=I.pin p L
  let N:p.1∉frs X.stack:=λz=>(Ak.mp (I.stkSub _ z)).elim ne nf
  let O:p.1∉fp:=λz=>(G _ z).2.2.2.2.2 p L rfl
  exact#[u.keep p.1 p.2 e n N O,u.free p.1 p.2 e n O,Ar (Ab (AX e) Y),N,d]
 ·show(Bj (-own) none++S).length=-N'
  rw[AT,LA,I.len,P.len]
def Xp(k:Nat)(L:TI)(g:TG)(tc:TT)(N:TE):TE:=λB H Q=>L B H λJ C=>∀p,C p=none->∃W:Nat->Nat->St->Hp->¬V->Prop,(∃m,W 0 m (Bj k none++B) (upd C p (.lst [])) []) /\
 ∀i m w o l,W i m w o l->o p=!.lst l/\((J.stop i o/\Q (.ref p) o)∨(J.go i o/\-l < sizeLine/\∀x E,J.yld i o x E->g x w E λj O=>tc j O λb G=>
  if b=true then N j G λy I=>I p=!.lst l/\∃A,A < m/\W (i+1) A j (upd I p (.lst (l++[y]))) (l++[y])else ∃A,A < m/\W (i+1) A j G l))
theorem Zk{X':Cx}{X ϖ iter:Expr}{Y:¬Expr}{pos:Pos}{J:It}{it p:AL}{tn:Nat->BG->Prop}{g:TG}{tc:TT}{te:TE}{R:kn->AK->Prop}{Q:Hp->Prop}
  (hc:X'.calm) (hx:X'.xe=λM M=>False) (T:Qw X'.prog X'.w X'.K ϖ J N it tn) (hg:PG X' ϖ g) (wW:XF X' Y tc) (he:PE X' X te)
  (W:Nat->Nat->St->Hp->¬V->Prop) (Z:∀i m j H' xs,W i m j H' xs->H' p=!.lst xs/\((J.stop i H'/\Q H')∨(J.go i H'/\-xs < sizeLine/\∀x uv,J.yld i H' x uv->g x j uv λC H2=>tc C H2 λb H3=>
   if b=true then te C H3 λy H4=>H4 p=!.lst xs/\∃B,B < m/\W (i+1) B C (upd H4 p (.lst (xs++[y]))) (xs++[y])else ∃B,B < m/\W (i+1) B C H3 xs)))
  (fin:∀j H' s',Inv X' [] j H' s'->Q H'->R (.ok .next) s')
  {m0:Nat} {H:St} {H0:Hp} {s0:AK} (I0:Inv X' [] H H0 s0) (st0:tn 0 s0.heap) (f0:∀b∈N,MW X' [] H0 b) (w0:W 0 m0 H H0 []) :
  HP (AY X'.prog X'.w) X'.A (.compLoop (.ListComp X [#[ϖ,iter,Y,0]] scope pos) 0 (.ref it) (.ref p) X'.env) R s0:=by
 let uL:∀{H':Hp},(∀b∈N,H' b=none)->∀b∈N,MW X' [] H' b:=λhn b hb=>#[hn b hb,(f0 b hb).2]
 refine codeAny_loop rfl (λn s'=>∃i j H' xs,Inv X' [] j H' s'/\tn i s'.heap/\(∀b∈N,H' b=none)/\W i n j H' xs) (λn s1 hI=>?_) m0 #[0,H,H0,[],I0,st0,λb hb=>(f0 b hb).1,w0];let#[i,l,H1,xs,I1,tu,fr1,w1]:=hI;refine wpAny_noted ?_;rw[compTurn_list]
 let I:∀{α:Type} {t:Sem α} {P:α->AK->Prop} {E:AE->AK->Prop} {s:AK},AW (AY X'.prog X'.w) X'.A t P X'.xe s->AW (AY X'.prog X'.w) X'.A t P E s:=λh=>Da h (λM M z=>z) λM M z=>by ext
 let#[hp,yr]:=Z i n l H1 xs w1;refine AA (wpAny_standAt (AA ?_))
 rcases yr with⟨stop,q⟩ | ⟨go,hz,step⟩
 ·refine I (thn (T.done X' rfl rfl rfl hc i [] s1 l H1 X'.xe I1 (uL fr1) tu stop) ?_);rintro r s4 ⟨hr,I4⟩
  subst hr;exact AC (fin l H1 s4 I4 q)
 ·refine I (thn (T.item X' rfl rfl rfl hc i [] s1 l H1 X'.xe I1 (uL fr1) tu go) ?_);rintro r s4 ⟨u,hr,h4⟩
  subst hr;refine AA (I (thn h4 ?_));rintro _ s5 ⟨x,H5,I5,r5,y5,vM,fr5⟩;let MO:=I5.pinned (uL fr5) (T.obj _ _ vM);refine AA (I (thn (hg _ s5 l H5 x u _ MO r5 (step x H5 y5)) ?_));rintro _ s6 ⟨L,H6,I6,q6⟩
  let again:∀{O:AK} {G:St} {S:Hp} {ys:¬V},Inv X' ([]++QK N s5.heap) G S O->(∃B,B < n/\W (i+1) B G S ys)->∃m,m < n/\∃i j H' xs,Inv X' [] j H' O/\tn i O.heap/\(∀b∈N,H' b=none)/\W i m j H' xs:=λ{O G S ys} U #[B,hm,w7]=>by
   refine#[B,hm,i+1,G,S,ys,U.unpinned,T.keep _ _ _ vM λb hb o e=>(U.pin (b,o) (Bb _ (Bb _ (Jt hb e)))).1,λb hb=>?_,w7];let#[o,e,d]:=T.obj _ _ vM b hb;exact(U.pin (b,o) (Bb _ (Bb _ (Jt hb e)))).2.1
  refine AA (I (thn (wW _ s6 L H6 _ I6 q6) ?_));rintro ok O ⟨S,U,q7⟩
  cases ok with
  | false=>
   rw[qY An]at q7;exact AC #[rfl,again U q7]
  | true=>
   rw[qX rfl]at q7;refine AA (AA (I (thn (he _ O L S _ U q7) ?_)));rintro yv s8 ⟨y,H8,I8,r8,hp8,q8⟩;refine AA (I (thn (N3 _ s8 L H8 (.ref p) [y] (.ref p) [yv] (λv H9=>v=.non/\H9=upd H8 p (.lst (xs++[y]))) I8 rfl (.cons r8 .nil) #[p,xs,y,rfl,rfl,hp8,hz,rfl,rfl]) ?_));rintro v9 s9 ⟨v,H9,I9,r9,e9,e10⟩;subst e10;exact AC (AC #[rfl,again I9 q8])
end
section
theorem SQ(I:Inv X B L E m)(J:Inv (DD X scope N' Z C m E H (X.pn++B)) [] N H' s')(O:m.heap.objs.size<=C)(P:∀b∈H,MW X B E b)
  (A:DV C s'.heap h'):Inv X B L H' { s' with heap:=h' }:=by
 let ne:∀b o,m.heap.get? b=!o->b≠C:=λb o e=>Ar (Ab (AX e) O)
 let j:=J.base
 let u:Un (frs X.stack) H E H' m.heap h':=by
  refine#[λb o e n hb l=>(A.2 b (ne b o e)).trans (j.keep b o e n hb l),λb o e n hb l=>?_,j.free,λb o e l=>?_,j.tups,j.frzs,j.tbls]
  ·let#[Q,q]:=j.slot b o e n hb l
   exact#[Q,(A.2 b (ne b o e)).trans q]
  ·let#[R,q]:=j.there b o e l
   exact#[R,(A.2 b (ne b o e)).trans q]
 let xS:H' C=none:=J.free
 let G:HOk X.prog X.w H' h':=λa o e=>(J.hok a o e).stay (λb u hb q=>(A.2 b λz=>by
  ext).trans q) (λM q=>q) λM M q=>q
 exact I.call' (s':={ s' with heap:=h' }) J.os u G J.bare λb hb=>by
  let#[_,S,z2,T,U,Y]:=P b hb;exact#[T,S,U,Y]
theorem Qr{σ:St}{E:AE->AK->Prop}{Qf:AL->Hp->Prop}{RR:AE->AL->kn->AK->Prop}{it:AL}{J:It}{tn:Nat->BG->Prop}(hc:X.calm)(Sc:K8 X scope own N')
  (hg:∀H C l B Y pn,PG (DD X scope N' H C l B Y pn) ϖ g) (wW:∀H C l B Y pn,XF (DD X scope N' H C l B Y pn) Z tc) (he:∀H C l B Y pn,PE (DD X scope N' H C l B Y pn) elt te)
  (c1:∀n c,H.lookup n=!c->X.env.cells.lookup n=!c) (c2:∀y∈scope.names,y.2=.free->∃c,H.lookup y.1=!c)
  (S:Inv X ζ σ I s2) (T:Qw X.prog X.w X.K ϖ J U it tn) (mi:tn 0 s2.heap) (f2:∀b∈U,MW X ζ I b)
  (q2:∀p,I p=none->∃W:Nat->Nat->St->Hp->¬V->Prop,(∃m,W 0 m (Bj (-own) none++σ) (upd I p (.lst [])) []) /\
   ∀i m L H' xs,W i m L H' xs->H' p=!.lst xs/\((J.stop i H'/\Qf p H')∨(J.go i H'/\-xs < sizeLine/\∀x uv,J.yld i H' x uv->g x L uv λN I=>tc N I λb G=>
    if b=true then te N G λy j=>j p=!.lst xs/\∃m',m' < m/\W (i+1) m' N (upd j p (.lst (xs++[y]))) (xs++[y])else ∃m',m' < m/\W (i+1) m' N G xs)))
  (hRR:∀D C H L H' s',s2.heap.objs.size<=C->Inv (DD X scope N' H C s2 I U (X.pn++ζ)) [] L H' s'->Qf D H'->RR (.ref D) C (.ok .next) s') :
  AW (AY X.prog X.w) X.A (newList []) (λacc s₃=>AW (AY X.prog X.w) X.A (Vt scope X.env.globals H [] X.env.qual none .none (!X.env)) (λyt s₄=>
   HP (AY X.prog X.w) X.A (.compStart (.ListComp elt [#[ϖ,iter,Z,0]] scope pos) 0 (.ref it) acc { yt with scope:=JE scope X.env }) (RR acc yt.locals) s₄) E s₃) E s2:=by
 let vm:∀b∈U,b < s2.heap.objs.size:=λb hb=>by
  let#[o,e,_]:=T.obj _ _ mi b hb;exact AX e
 refine A8 (V7 ?_);generalize Q:s2.heap.push { cls:=.type "list",dict:=none,data:=.seq ([]:¬AE).toArray }=G;generalize R:G.push { cls:=.type "dict",data:=.dict #[] }=j
 let hC:G.objs.size=s2.heap.objs.size+1:=by rw[<-Q,DC]
 let hC4:j.objs.size=G.objs.size+1:=by rw[<-R,DC]
 let hDC:s2.heap.objs.size≠G.objs.size:=by rw[hC];exact Ar (FZ _)
 let vX:s2.heap.objs.size<=G.objs.size:=by rw[hC];exact Q6 _
 let yu:s2.heap.objs.size<=j.objs.size:=by rw[hC4];exact Nat.le_succ_of_le vX
 let yw:∀b o,G.get? b=!o->(F6 j scope.names).get? b=!o:=λb o e=>UF _ _ _ _ (R▸AF _ e)
 let O:∀b o,s2.heap.get? b=!o->(F6 j scope.names).get? b=!o:=λb o e=>yw b o (Q▸AF _ e)
 let tX:=yw _ _ (Q▸AO _ rfl)
 let Γ:(F6 j scope.names).Ns G.objs.size λM=>none:=by
  let:=(BG.Ns.new G (.type "dict")).keeps (UF scope.names (G.push { cls:=.type "dict",data:=.dict #[] }));rw[R]at this;exact this
 let hD:=S.hok.fresh (AM _);let u:Un (frs X.stack) U I (upd I s2.heap.objs.size (.lst [])) s2.heap (F6 j scope.names):=Un.laid O (AM _) hD;let hok:HOk X.prog X.w (upd I s2.heap.objs.size (.lst [])) (F6 j scope.names):=S.hok.laid O (AM _) #[Bc _,[],0,.nil,tX]
 let Α:∀c,s2.heap.objs.size < c->upd I s2.heap.objs.size (.lst []) c=none:=λc h=>by rw[AQ (Ek h)];exact S.hok.fresh (KP h)
 let xS:upd I s2.heap.objs.size (.lst []) G.objs.size=none:=Α _ (by ext)
 let uF:∀x c,(CD j.objs.size scope.names H).lookup x=!c->H.lookup x=!c∨((F6 j scope.names).IsCell c none/\j.objs.size<=c):=λx c e=>Iy scope.names j H x c e
 let#[W,#[m0,w0],turn]:=q2 s2.heap.objs.size hD
 let P:∀s₃:AK,s₃={ s2 with heap:=F6 j scope.names } ->
   HP (AY X.prog X.w) X.A (.compLoop (.ListComp elt [#[ϖ,iter,Z,0]] scope pos) 0 (.ref it) (.ref s2.heap.objs.size) (compEnvC scope (CD j.objs.size scope.names H) G.objs.size X.env))
    (RR (.ref s2.heap.objs.size) G.objs.size) s₃:=by
  rintro s₃ rfl
  let J0:Inv (DD X scope N' (CD j.objs.size scope.names H) G.objs.size s2 I U (X.pn++ζ)) [] (Bj (-own) none++σ) (upd I s2.heap.objs.size (.lst [])) { s2 with heap:=F6 j scope.names }:=
   W5 Sc S f2 vm c1 c2 yu uF (λc h=>Α c ∅) vX Γ rfl S.bare u hok xS
  refine Zk (X':=DD X scope N' (CD j.objs.size scope.names H) G.objs.size s2 I U (X.pn++ζ)) hc rfl T (hg _ _ _ _ _ _) (wW _ _ _ _ _ _) (he _ _ _ _ _ _) W turn (λL H' s' J q=>hRR _ _ _ L H' s' vX J q) J0 (T.keep _ _ _ mi λb M o e=>O b o e) (λb hb=>?_) w0;let#[z0,z1,z2,z3,z4,z5]:=f2 b hb;refine#[by rw[AQ (Ar (vm b hb))];exact z0,Ar (Ab (vm b hb) vX),λz=>?_,.inl hb,λx c e=>?_,λp hp=>?_]
  ·exact(Ak.mp (S.stkSub _ z)).elim z1 z2
  ·rcases uF x c e with e | ⟨_,e⟩
   ·exact z4 x c (c1 x c e)
   ·exact Ek (Ab (vm b hb) (A5 yu e))
  ·let hp:=hp
   rw[BP]at hp;exact z5 p hp
 exact codeAny_compStart_list (P _ rfl) (T.self X.A 0 _ _ _ (T.keep _ _ _ mi λb M o e=>O b o e) (P _ rfl))
theorem ie(O:X.calm)(A:K8 X scope own N')(hi:PI X G iter P)
  (R:∀o C j l w pn,PG (DD X scope N' o C j l w pn) G g) (S:∀o C j l w pn,XF (DD X scope N' o C j l w pn) B tc) (U:∀o C j l w pn,PE (DD X scope N' o C j l w pn) E Y)
  (hs:autoParam (∀x,B8 iter X.env x=pure x) yq2q):PE X (.ListComp E [#[G,iter,B,0]] scope pos) (Xp (-own) P g tc Y):=by
 intro Z s σ H Q I h;rw[eval_ListComp];let#[o,vx,c1,c2]:=YX (λy hy hf=>I.ok.has y.1 (A.free y hy hf));refine Yd rfl hs vx A.kind A.names (thn (hi Z s σ H _ I h) λv s1 h1=>thn h1 λitv s2 h2=>?_);let#[it,fp,tn,J,H2,rfl,L,T,mi,N,q2]:=h2
 refine Qr O A R S U c1 c2 L T mi N q2 λD C cl' σ' H' s' hC J q=>?_
 let#[m,hn,_]:=J.loc;exact#[m,hn,λh' sb=>#[.ref D,H',SQ L J hC N sb,rfl,q]]
theorem X3{i:Nat}{y:Str}{py uh:Pos}(hc:X.calm)(P:BX (.ListComp E [#[Q,iter,G,0]] scope pos) (!.Name y py) uh.line X.env=pure true)
  (hN:X.N.Nodup) (R:X.N[i]?=!y) (Δ:Loc X.env.scope y) (O:K8 X scope own N') (hi:PI X Q iter wi)
  (hg:∀w C j l L pn,PG (DD X scope N' w C j l L pn) Q g) (wW:∀w C j l L pn,XF (DD X scope N' w C j l L pn) G tc) (he:∀w C j l L pn,PE (DD X scope N' w C j l L pn) E te)
  (hs:autoParam (∀x,B8 iter X.env x=pure x) yq2q) (S:autoParam (X.fn y=true∨X.env.scope.names.lookup y=!.local) yq3q) :
  PS X (.Assign [.Name y py] (.ListComp E [#[Q,iter,G,0]] scope pos) uh) (iB (Xp (-own) wi g tc te) (Ie i)):=by
 intro ζ s σ H D I h;rw[exec_Assign_Name_used _ _ _ _ P];refine AA (wpAny_standAt (AA ?_));let#[w,vx,c1,c2]:=YX (λy R S=>I.ok.has y.1 (O.free y R S))
 refine AA (Da (Yd rfl hs vx O.kind O.names
  (thn (hi ζ s σ H _ I h) λv s1 h1=>thn h1 λitv s2 h2=>?_)) (λM s' hq=>AC (AC hq)) λM M e=>e)
 let#[it,fp,tn,J,H2,rfl,B,T,mi,f2,q2]:=h2
 refine Qr hc O hg wW he c1 c2 B T mi f2 q2 λA C cl' σ' H' s' U J q=>?_
 let#[m,hn,_]:=J.loc;let I3:=SQ B J U f2 (Si ..);let xS:=J.free
 let tJ:∀x c,X.env.cells.lookup x=!c->c≠C:=λx c e z=>by
  let#[v,q]:=B.cell x c e;exact zX (Ab q.lt ∅) (Ev _)
 let yx:=Ek (Ab B.lt U);refine oi (Ry (v:=.ref A) I3 hN R Δ rfl (?_) S);rintro s4 I4 ⟨a,sb,ha⟩
 let Y:C≠a:=by
  rcases ha with e | e
  ·ext
  ·exact CU (tJ _ _ e)
 refine#[m,hn.sameBut sb Y,λh' Z=>#[_,H',?_,q]]
 refine I4.turned (t':=s4.toks) (λb o hb e=>(Z.2 b hb).trans e) xS yx (.inr (A5 B.sz U)) tJ λp hp z=>?_
 exact zX (Ab (AX (B.pin p hp).1) ∅) (Ev _)
end
end L2
namespace L2
open PySem.SeqAt
noncomputable def K0:D->D->⇑Bool
 | .non,.non=>!true
 | .bl a,.bl b=>!a==b
 | .int a,.int b=>!a==b
 | .str a,.str b=>!a==b
 | .non,.int _=>!false
 | .non,.str _=>!false
 | .non,.bl _=>!false
 | .non,.tup _=>!false
 | .int _,.non=>!false
 | .str _,.non=>!false
 | .bl _,.non=>!false
 | .tup _,.non=>!false
 | .int _,.tup _=>!false
 | .tup _,.int _=>!false
 | _,_=>none
def eqL(f:D->D->⇑Bool):¬D->¬D->⇑Bool
 | [],[]=>!true
 | [],_ :: _=>!false
 | _ :: _,[]=>!false
 | x :: j,y :: l=>match f x y,eqL f j l with
  | some a,!b=>!(a&&b)
  | _,_=>none
def eqP:Nat->D->D->⇑Bool
 | 0,x,y=>K0 x y
 | n+1,x,y=>match x,y with
  | .tup j,.tup l=>eqL (eqP n) j l
  | x,y=>K0 x y
theorem Kz(h:eqL f (x :: xs) (y :: j)=!b):∃a c,f x y=!a/\eqL f xs j=!c/\b=(a&&c):=by
 unfold eqL at h;split at h
 ·ext
 ·cases h
theorem YU:∀{xs l:¬D} {b:Bool},eqL f xs l=!b->(∀(j:Nat) x y,xs[j]?=!x->l[j]?=!y->∃c,f x y=!c) /\
  b=((A0 (min (-xs) (-l))).all (λj=>match xs[j]?,l[j]? with | some x,!y=>(f x y).getD false | _,_=>false)&&-xs==-l)
 | [],[],b,h=>by cases h;simp
 | [],y :: l,b,h=>by cases h;ext
 | x :: xs,[],b,h=>by cases h;simp
 | x :: xs,y :: l,b,h=>by
  let#[a,c,m,o,rfl]:=Kz h;let#[w,A]:=YU o;refine#[λj B C E G=>?_,?_]
  ·cases j with
   | zero=>ext
   | succ j=>exact w j B C (by simpa using E) (by simpa using G)
  ·rw[A,Au,Au,show min (-xs+1) (-l+1)=min (-xs) (-l)+1 by ext,Vg,kr,Vl]
   simp only[UK,m,Z5,Function.comp_def,List.getElem?_cons_succ]
   lia
section
variable{K:AB}{ρ:¬AL}{H:Hp}
theorem YS(n k:Nat)(y:D):eqP n (.ref k) y=none:=by cases n <;> cases y <;> rfl
theorem YT(n:Nat)(ds:¬D)(y:D):eqP n (.fro ds) y=none:=by cases n <;> cases y <;> rfl
theorem jM(n:Nat)(c:AL)(y:D):eqP n (.exc c) y=none:=by cases n <;> cases y <;> rfl
theorem NB(w:DU K ρ H x v)(j:DU K ρ H l v):x=l∨(∃ds m vs,x=.tup ds/\l=.tup m/\A7 K ρ H ds vs/\A7 K ρ H m vs)∨(∀n y,eqP n x y=none)∨∀n y,eqP n l y=none:=by
 cases w with
 | non=>cases j;exact .inl rfl
 | bl b=>cases j;exact .inl rfl
 | int b=>cases j;exact .inl rfl
 | str b=>cases j;exact .inl rfl
 | fro _ _=>exact .inr (.inr (.inl λn y=>YT n _ y))
 | ref _=>exact .inr (.inr (.inl λn y=>YS n _ y))
 | exc _ _=>exact .inr (.inr (.inl λn y=>jM n _ y))
 | tup A B=>
  cases j with
  | fro _ _=>exact .inr (.inr (.inr λn y=>YT n _ y))
  | ref _=>exact .inr (.inr (.inr λn y=>YS n _ y))
  | exc _ _=>ext
  | tup o C=>
   rw[A]at o;cases o;exact .inr (.inl #[_,_,_,rfl,rfl,B,C])
theorem jL:∀(n:Nat) {x A y:D} {v:V} {b b':Bool},DU K ρ H x v->DU K ρ H A v->eqP n x y=!b->eqP n A y=!b'->b=b':=by
 intro n
 induction n with
 | zero=>
  intro x A y v b b' E G h j
  rcases NB E G with rfl | ⟨ds,I,vs,rfl,rfl,_,_⟩ | q | q
  ·rw[h]at j;cases j;rfl
  ·let:eqP 0 (.tup ds) y=eqP 0 (.tup I) y:=by cases y <;> rfl
   rw[<-this,h]at j;cases j;rfl
  ·rw[q]at h;cases h
  ext
 | succ n L=>
  intro x A y v b b' E G h j
  let lists:∀{B:¬D} {vs:¬V} {C l:¬D} {b b':Bool},A7 K ρ H B vs->A7 K ρ H C vs->eqL (eqP n) B l=!b->eqL (eqP n) C l=!b'->b=b':=by
   intro B
   induction B with
   | nil=>
    intro vs C l b b' m o g w;cases m;cases o;rw[g]at w;cases w;rfl
   | cons d ds J=>
    intro vs C l b b' m o g w
    cases m with
    | cons N O=>
     cases o with
     | cons P Q=>
      cases l with
      | nil=>cases g;cases w;rfl
      | cons y l=>
       let#[p,q,R,S,rfl]:=Kz g;let#[X,Y,T,U,rfl]:=Kz w;rw[L N P R T,J O Q S U]
  rcases NB E G with rfl | ⟨ds,I,vs,rfl,rfl,m,o⟩ | q | q
  ·rw[h]at j;cases j;rfl
  ·by_cases c:∃l,y=.tup l
   ·let#[l,rfl]:=c
    exact lists m o h j
   ·let:eqP (n+1) (.tup ds) y=eqP (n+1) (.tup I) y:=by
     cases y <;> first | rfl | exact(c #[_,rfl]).elim
    rw[<-this,h]at j;cases j;rfl
  ·rw[q]at h;cases h
  ext
theorem EX(h:K0 x x=!b):b=true:=by
 cases x <;> first | (cases h;done) | (cases h;simp)
theorem Qg:∀(n:Nat) {x:D} {b:Bool},eqP n x x=!b->b=true
 | 0,_,_,h=>EX h
 | n+1,x,b,h=>by
  let lists:∀{j:¬D} {b:Bool},eqL (eqP n) j j=!b->b=true:=by
   intro j
   induction j with
   | nil=>intro b g;cases g;rfl
   | cons d ds l=>
    intro b g;let#[p,q,m,o,rfl]:=Kz g;rw[Qg n m,l o];rfl
  cases x with
  | tup j=>exact lists h
  | non=>exact EX (x:=.non) h
  | bl c=>exact EX (x:=.bl c) h
  | int c=>exact EX (x:=.int c) h
  | str c=>exact EX (x:=.str c) h
  | ref c=>exact EX (x:=.ref c) h
  | fro c=>exact EX (x:=.fro c) h
  | exc c=>exact EX (x:=.exc c) h
theorem LL(j:(∃f,y=.fro f)∨(∃r,y=.ref r)∨∃c,y=.exc c)(n:Nat):eqP n x y=none:=by
 rcases j with⟨f,rfl⟩ | ⟨r,rfl⟩ | ⟨c,rfl⟩ <;> (cases n <;> cases x <;> rfl)
theorem dh(n:Nat)(B:DU K ρ H x v)(m:DU K ρ H y v)(h:eqP n x y=!b):b=true:=by
 induction n generalizing x y v b with
 | zero=>
  rcases NB B m with rfl | ⟨ds,C,vs,rfl,rfl,_,_⟩ | q | q
  ·exact Qg 0 h
  ·cases h
  ·ext
  ·cases m with
   | fro _ _=>rw[LL (.inl #[_,rfl])]at h;cases h
   | ref _=>rw[LL (.inr (.inl #[_,rfl]))]at h;cases h
   | exc _ _=>rw[LL (.inr (.inr #[_,rfl]))]at h;cases h
   | non=>cases(q 0 .non)
   | bl b=>cases(q 0 (.bl b))
   | int b=>cases(q 0 (.int b))
   | str b=>cases(q 0 (.str b))
   | tup _ _=>cases(q 0 .non)
 | succ n E=>
  let lists:∀{o w:¬D} {vs:¬V} {b:Bool},A7 K ρ H o vs->A7 K ρ H w vs->eqL (eqP n) o w=!b->b=true:=by
   intro o
   induction o with
   | nil=>intro w vs b j l g;cases j;cases l;cases g;rfl
   | cons d ds A=>
    intro w vs b j l g
    cases j with
    | cons G I=>
     cases l with
     | cons J L=>
      let#[p,q,N,O,rfl]:=Kz g;rw[E G J N,A I L O];rfl
  rcases NB B m with rfl | ⟨ds,C,vs,rfl,rfl,j,l⟩ | q | q
  ·exact Qg (n+1) h
  ·exact lists j l h
  ·ext
  ·cases m with
   | fro _ _=>rw[LL (.inl #[_,rfl])]at h;cases h
   | ref _=>rw[LL (.inr (.inl #[_,rfl]))]at h;cases h
   | exc _ _=>rw[LL (.inr (.inr #[_,rfl]))]at h;cases h
   | non=>cases(q 0 .non)
   | bl b=>cases(q 0 (.bl b))
   | int b=>cases(q 0 (.int b))
   | str b=>cases(q 0 (.str b))
   | tup _ _=>cases(q 0 .non)
end
section
variable{X:Cx}{ζ:¬(AL×Obj)}{σ:St}{H:Hp}{s:AK}{ρ:¬AL}
theorem F3(A:BR):A.in1.units=A.units+1:=rfl
theorem Bl.at_(r:Bl vs l)(h:j < l.toArray.size):∃v,vs[j]?=!v/\RelV v l.toArray[j]:=by
 let m:j < -l:=by simpa using h
 let o:j < -vs:=by rw[r.length];exact m
 let#[u,w,A]:=r.get (i:=j) (x:=vs[j]) (by simp[o])
 ext
theorem S9(N:∀(x y:D) (b:Bool) (m o:V) (u v:AE),eqP n x y=!b->DU X.K ρ H x m->DU X.K ρ H y o->RelV m u->RelV o v->EqAt A s u v b)
  (h:eqL (eqP n) xs B=!b) (C:A7 X.K ρ H xs vs) (E:A7 X.K ρ H B O) (G:Bl vs us) (I:Bl O l) :
  ∃e:Nat->Bool,(∀j (J:j < us.toArray.size) (L:j < l.toArray.size),EqAt A s us.toArray[j] l.toArray[j] (e j))/\b=((A0 (min us.toArray.size l.toArray.size)).all e&&us.toArray.size==l.toArray.size):=by
 let#[P,Q]:=YU h;refine#[λj=>match xs[j]?,B[j]? with | some x,!y=>(eqP n x y).getD false | _,_=>false,λj J L=>?_,?_]
 ·let#[v,R,S]:=Bl.at_ G J
  let#[w,T,U]:=Bl.at_ I L;let#[x,Y,Z]:=C.get' R;let#[y,e4,ry]:=E.get' T;let#[c,hc]:=P j x y Y e4;let:=N x y c v w _ _ hc Z ry S U;ext
 ·rw[Q,C.length,E.length,G.length,I.length]
  simp
theorem N9(I:Inv X ζ σ H s)(l:A.units < Bf)(h:K0 x y=!b)(G:DU X.K ρ H x J)(m:DU X.K ρ H y L)(o:RelV J u)(j:RelV L v) :
  EqAt A s u v b/\RcAt A s u v b/\RcNeAt A s u v (not b):=by
 cases G with
 | non=>
  cases o
  cases m with
  | non=>cases j;cases h;exact#[EqAt.same _,RcAt.none_none,RcNeAt.none_none]
  | bl c=>cases j;cases h;exact#[EqAt.none_bool _,RcAt.none_bool _,RcNeAt.none_bool _]
  | int i=>let#[t,rfl]:=j;cases h;exact#[EqAt.none_int _ _,RcAt.none_int _ _,RcNeAt.none_int _ _]
  | str z=>let#[t,rfl]:=j;cases h;exact#[EqAt.none_str _ _,RcAt.none_str _ _,RcNeAt.none_str _ _]
  | tup w B=>
   cases j;cases h;let#[C,_,p,_]:=I.tuple (.inl (.inl w));exact#[EqAt.none_tuple p l,RcAt.none_tuple p l,RcNeAt.none_tuple p l]
  | _=>cases h
 | bl a=>
  cases o
  cases m with
  | non=>cases j;cases h;exact#[EqAt.bool_none _,RcAt.bool_none _,RcNeAt.bool_none _]
  | bl c=>cases j;cases h;exact#[EqAt.bool_bool _ _,RcAt.bool_bool _ _,RcNeAt.bool_bool _ _]
  | _=>cases h
 | int a=>
  let#[t,rfl]:=o
  cases m with
  | non=>cases j;cases h;exact#[EqAt.int_none _ _,RcAt.int_none _ _,RcNeAt.int_none _ _]
  | int i=>let#[E,rfl]:=j;cases h;exact#[EqAt.int_int _ _ _ _,RcAt.int_int _ _ _ _,RcNeAt.int_int _ _ _ _]
  | tup w B=>
   cases j;cases h;let#[C,_,p,_]:=I.tuple (.inl (.inl w));exact#[EqAt.int_tuple _ _ p l,RcAt.int_tuple _ _ p l,RcNeAt.int_tuple _ _ p l]
  | _=>cases h
 | str a=>
  let#[t,rfl]:=o
  cases m with
  | non=>cases j;cases h;exact#[EqAt.str_none _ _,RcAt.str_none _ _,RcNeAt.str_none _ _]
  | str i=>let#[E,rfl]:=j;cases h;exact#[EqAt.str_str _ _ _ _,RcAt.str_str _ _ _ _,RcNeAt.str_str _ _ _ _]
  | _=>cases h
 | tup w B=>
  cases o;let#[C,_,p,_]:=I.tuple (.inl (.inl w))
  cases m with
  | non=>cases j;cases h;exact#[EqAt.tuple_none p l,RcAt.tuple_none p l,RcNeAt.tuple_none p l]
  | int i=>let#[E,rfl]:=j;cases h;exact#[EqAt.tuple_int _ _ p l,RcAt.tuple_int _ _ p l,RcNeAt.tuple_int _ _ p l]
  | _=>cases h
 | _=>cases h
theorem W4(I:Inv X ζ σ H s):∀(n:Nat) (A:BR) (x y:D) (b:Bool) (j l:V) (u v:AE),A.units+n < Bf->eqP n x y=!b->DU X.K ρ H x j->DU X.K ρ H y l->RelV j u->RelV l v->EqAt A s u v b:=by
 intro n
 induction n with
 | zero=>exact λA x y b j l u v N h o w B C=>(N9 I (by omega) h o w B C).1
 | succ n O=>
  intro A x y b j l u v N h o w B C
  by_cases P:∃E G,x=.tup E/\y=.tup G
  ·let#[E,G,rfl,rfl]:=P
   cases o with
   | @tup _ a vs J L=>
    cases w with
    | @tup _ c ws b1 b2=>
     cases B;cases C
     by_cases m:a=c
     ·subst m
      rw[dh (n+1) (.tup J L) (.tup b1 b2) h];exact EqAt.same _
     ·let#[mh,Q,p,_]:=I.tuple (.inl (.inl J))
      let#[tw,R,S,_]:=I.tuple (.inl (.inl b1));let#[e,T,rfl]:=S9 (λx y b j l u v U Y Z g4 g5=>O A.in1 x y b j l u v (by rw[F3];lia) U Y Z g4 g5) h L b2 Q R;exact EqAt.of_refs m (pQ p S ∅ T)
  ·let hf:K0 x y=!b:=by
    cases x <;> cases y <;> first | exact h | ext
   exact(N9 I ∅ hf o w B C).1
def Wu(d:D)(S:Sto):⇑(¬D):=match d with
 | .fro ds=>!ds
 | .ref n=>match S[n]? with
  | some (.lst ds)=>!ds
  | _=>none
 | _=>none
def eqB(x y:D)(S:Sto):⇑Bool:=match Wu x S,Wu y S with
 | some j,!l=>if -j=-l then eqL (eqP 8) j l else !false
 | none,none=>eqP 8 x y
 | some _,none=>match y with
  | .tup _=>!false
  | .non=>!false
  | _=>none
 | none,!_=>match x with
  | .tup _=>!false
  | .non=>!false
  | _=>none
def eqD(neg:Bool)(x y:D)(S:Sto):Res D:=match eqB x y S with
 | some b=>.ok (.bl (if neg then not b else b)) S
 | none=>.bad
theorem PN{K}{S}{d}{x}{ds}(hs:Ow K ρ S H)(r:DU K ρ H d x)(h:Wu d S=!ds):∃p xs,x=.ref p/\A7 K ρ H ds xs/\SqL K H p xs:=by
 cases r with
 | fro j l=>cases h;exact#[_,_,rfl,l,j.sq]
 | @ref n a m=>
  let#[o,w,A]:=hs.there m;unfold Wu at h;simp only[w]at h
  cases o with
  | lst C=>cases h;let#[vs,e,B]:=A;exact#[_,_,rfl,B,.inl (.inl e)]
  | _=>cases h
 | _=>cases h
set_option tactic.hygienic true in
theorem Tn{S}{x y}{b}{E G}{u v}(I:Inv X ζ σ H s)(hu:X.A.units+64 < Bf)(hs:Ow X.K ρ S H)(J:DU X.K ρ H x E)(L:DU X.K ρ H y G)(N:RelV E u)(O:RelV G v)(h:eqB x y S=!b) :
  RcAt X.A s u v b/\RcNeAt X.A s u v (not b):=by
 unfold eqB at h;split at h
 ·rename_i P Z T U
  let#[p,vs,rfl,Q,sq]:=PN hs J T;let#[p',vY,rfl,Ε,sq']:=PN hs L U;cases N;cases O;let#[o,B,j,_]:=I.list sq;let#[C,Ζ,Y,_]:=I.list sq';split at h
  ·rename_i m
   let#[e,R,rfl]:=S9 (λx y b E G u v g1 g2 g3 g4 g5=>W4 I 8 X.A.in1 x y b E G u v (by rw[F3];lia) g1 g2 g3 g4 g5) h Q Ε B Ζ
   let l:o.toArray.size=C.toArray.size:=by
    simp only[BZ];rw[<-B.length,<-Ζ.length,<-Q.length,<-Ε.length];exact m
   let e1:((A0 (min o.toArray.size C.toArray.size)).all e&&o.toArray.size==C.toArray.size)=(A0 o.toArray.size).all e:=by
    rw[<-l,Nat.min_self,beq_self_eq_true,Bool.and_true]
   rw[e1];exact#[RcAt.lists j.isList Y.isList l ∅ R,RcNeAt.lists j.isList Y.isList l ∅ R]
  ·rename_i m
   cases h
   let l:(o.toArray.size != C.toArray.size):=by
    simp only[BZ];rw[<-B.length,<-Ζ.length,<-Q.length,<-Ε.length];simpa using m
   exact#[RcAt.lists_lengths j.isList Y.isList l ∅,RcNeAt.lists_lengths j.isList Y.isList l ∅]
 ·by_cases ht:∃P Z,x=.tup P/\y=.tup Z
  ·let#[P,Z,rfl,rfl]:=ht
   cases J with
   | tup a1 a2=>
    cases L with
    | tup b1 b2=>
     cases N;cases O;let#[o,B,p,_]:=I.tuple (.inl (.inl a1));let#[C,uf,w,_]:=I.tuple (.inl (.inl b1));let#[e,R,rfl]:=S9 (λx y b E G u v g1 g2 g3 g4 g5=>W4 I 7 X.A.in1 x y b E G u v (by rw[F3];lia) g1 g2 g3 g4 g5) h a2 b2 B uf;exact#[pQ p w ∅ R,RcNeAt.tuples p w ∅ R]
  ·let hf:K0 x y=!b:=by
    cases x <;> cases y <;> first | exact h | lia
   exact(N9 I ∅ hf J L N O).2
 ·rename_i P T U
  let#[p,vs,rfl,Q,sq]:=PN hs J T;cases N;let#[o,B,j,_]:=I.list sq;split at h
  ·cases h
   cases L with
   | tup b1 b2=>
    cases O;let#[C,uf,w,_]:=I.tuple (.inl (.inl b1));exact#[RcAt.list_tuple j.isList w ∅,RcNeAt.list_tuple j.isList w ∅]
  ·cases h
   cases L;cases O;exact#[RcAt.list_none j.isList ∅,RcNeAt.list_none j.isList ∅]
  ·cases h
 ·rename_i P T U
  let#[p,vs,rfl,Q,sq]:=PN hs L U;cases O;let#[o,B,j,_]:=I.list sq;split at h
  ·cases h
   cases J with
   | tup b1 b2=>
    cases N;let#[C,uf,w,_]:=I.tuple (.inl (.inl b1));exact#[RcAt.tuple_list w j.isList ∅,RcNeAt.tuple_list w j.isList ∅]
  ·cases h
   cases J;cases N;exact#[RcAt.none_list j.isList ∅,RcNeAt.none_list j.isList ∅]
  ·cases h
set_option tactic.hygienic true in
theorem kC(m:X.A.units+64 < Bf):OpR X (Bk .Eq) (rD X.K (eqD false)):=by
 intro ζ s σ H x y v u Q I o w h;let#[ρ,S,a,b,d,G,l,B,C,j,k]:=h;unfold eqD at j;split at j
 ·rename_i c E
  cases j;exact(Tn I m l B C o w E).1 _ _ _ _ #[.bl c,H,I,rfl,k ρ H _ .refl l (.bl _)]
 ·cases j
set_option tactic.hygienic true in
theorem rJ(m:X.A.units+64 < Bf):OpR X (Bk .NotEq) (rD X.K (eqD true)):=by
 intro ζ s σ H x y v u Q I o w h;let#[ρ,S,a,b,d,G,l,B,C,j,k]:=h;unfold eqD at j;split at j
 ·rename_i c E
  cases j;exact(Tn I m l B C o w E).2 _ _ _ _ #[.bl (not c),H,I,rfl,k ρ H _ .refl l (.bl _)]
 ·cases j
def K6(x:D):¬D->⇑Bool
 | []=>!false
 | d :: ds=>match eqP 8 d x,K6 x ds with
  | some a,!b=>!(a||b)
  | _,_=>none
def inD(neg:Bool)(x y:D)(S:Sto):Res D:=match iI y S with
 | some ds=>match K6 x ds with
  | some b=>.ok (.bl (if neg then not b else b)) S
  | none=>.bad
 | none=>.bad
theorem XB(h:K6 x (d :: ds)=!b):∃a c,eqP 8 d x=!a/\K6 x ds=!c/\b=(a||c):=by
 unfold K6 at h;split at h
 ·ext
 ·cases h
open Classical in
theorem K5(I:Inv X ζ σ H s)(P:A.units+8 < Bf)(Q:DU X.K ρ H x R)(S:RelV R v):∀{ds:¬D} {vs:¬V} {us:¬AE} {b:Bool},A7 X.K ρ H ds vs->Bl vs us->K6 x ds=!b ->
  ∃e:AE->Bool,(∀y∈us,EqAt A s y v (e y))/\b=us.any e:=by
 intro ds vs us b r q h
 letI e:AE->Bool:=λy=>decide (∃d w,d∈ds/\DU X.K ρ H d w/\RelV w y/\eqP 8 d x=!true)
 let all:∀{j:¬D} {m:¬V} {l:¬AE} {o:Bool},(∀d∈j,d∈ds)->A7 X.K ρ H j m->Bl m l->K6 x j=!o->(∀y∈l,EqAt A s y v (e y))/\o=l.any e:=by
  intro j
  induction j with
  | nil=>intro m l o _ r q h;cases r;cases q;cases h;ext
  | cons d j T=>
   intro m l o L r q h
   cases r with
   | cons E U=>
    cases q with
    | @cons w y _ _ G Y=>
     let#[a,c,J,Z,rfl]:=XB h;let#[i1,i2]:=T (λz B=>L z (AN _ B)) U Y Z
     let N:e y=a:=by
      by_cases C:∃d w,d∈ds/\DU X.K ρ H d w/\RelV w y/\eqP 8 d x=!true
      ·let#[d',w',_,O,g2,g3]:=id C
       rw[RelV.inj g2 G]at O;let:=jL 8 O E g3 J;rw[<-this];exact wX C
      ·let:a=false:=by
        cases a with
        | false=>rfl
        | true=>exact(C #[d,_,L d Aa,E,G,J]).elim
       rw[this];exact wY C
     refine#[λz B=>?_,by rw[Mm,N,<-i2]]
     rcases Ak.mp B with rfl | B
     ·rw[N]
      exact W4 I 8 A d x a _ _ _ _ P J E Q G S
     ext
 let#[e1,e2]:=all (λM h=>h) r q h;exact#[e,e1,e2]
set_option tactic.hygienic true in
theorem kB(R:X.A.units+64 < Bf):OpR X (Bk .In) (rD X.K (inD false)):=by
 intro ζ s σ H x y v u Q I C L h;let#[ρ,S,a,b,d,T,l,E,N,j,k]:=h;unfold inD at j;split at j
 ·rename_i ds O
  split at j
  ·rename_i c G
   cases j;let#[p,U,rfl,J,sq]:=Xt l N O;cases L
   rcases sq with sq | sq
   ·let#[m,o,w,_]:=I.list sq
    let#[e,B,rfl]:=K5 I (A:=X.A.in1) (by rw[F3];lia) E C J o G;exact in_listAt e w.isList (λz P=>B z (by ext)) #[.bl (m.toArray.any e),H,I,rfl,by rw[J6];exact k ρ H _ .refl l (.bl _)]
   ·let#[m,o,w,_]:=I.tuple sq
    let#[e,B,rfl]:=K5 I (A:=X.A.in1) (by rw[F3];lia) E C J o G;exact in_tupleAt e w (λz P=>B z (by grind)) #[.bl (m.toArray.any e),H,I,rfl,by rw[J6];exact k ρ H _ .refl l (.bl _)]
  ·cases j
 ·cases j
set_option tactic.hygienic true in
theorem cZ(R:X.A.units+64 < Bf):OpR X (Bk .NotIn) (rD X.K (inD true)):=by
 intro ζ s σ H x y v u Q I C L h;let#[ρ,S,a,b,d,T,l,E,N,j,k]:=h;unfold inD at j;split at j
 ·rename_i ds O
  split at j
  ·rename_i c G
   cases j;let#[p,U,rfl,J,sq]:=Xt l N O;cases L
   rcases sq with sq | sq
   ·let#[m,o,w,_]:=I.list sq
    let#[e,B,rfl]:=K5 I (A:=X.A.in1) (by rw[F3];lia) E C J o G;exact notIn_listAt e w.isList (λz P=>B z (by ext)) #[.bl (not (m.toArray.any e)),H,I,rfl,by rw[J6];exact k ρ H _ .refl l (.bl _)]
   ·let#[m,o,w,_]:=I.tuple sq
    let#[e,B,rfl]:=K5 I (A:=X.A.in1) (by rw[F3];lia) E C J o G;exact notIn_tupleAt e w (λz P=>B z (by grind)) #[.bl (not (m.toArray.any e)),H,I,rfl,by rw[J6];exact k ρ H _ .refl l (.bl _)]
  ·cases j
 ·cases j
end
def AR{j β:Type}[DecidableEq j](kvs:¬(j×β))(k:j):⇑β:=(kvs.find? λl=>decide (l.1=k)).map (·.2)
noncomputable def Cz{l m:Type}[DecidableEq l](kvs:¬(l×m))(k:l)(v:m):¬(l×m):=
 if (kvs.any λj=>decide (j.1=k)) then kvs.map (λj=>if j.1=k then(j.1,v)else j)else kvs++[(k,v)]
section
variable{κ:Type}[DecidableEq κ]{K:AB}{ρ:¬AL}{H:Hp}
theorem KVR.val(k:κ):∀{x:¬(κ×D)} {y:¬(κ×V)},KVR K ρ H x y->(AR x k=none->IL y k=none)/\∀d,AR x k=!d->∃v,IL y k=!v/\DU K ρ H d v
 | _,_,h=>by
  cases h with
  | nil=>exact#[λG=>rfl,λd h=>by cases h]
  | @cons p q _ _ r t=>
   let#[g,a]:=p;let#[l,b]:=q;let#[j,m]:=r;subst j;unfold AR IL;rw[CV,CV]
   by_cases e:g=k
   ·ext
   ·simp only[e,decide_false]
    exact KVR.val k t
theorem KVR.any(k:κ):∀{x:¬(κ×D)} {y:¬(κ×V)},KVR K ρ H x y->(x.any λj=>decide (j.1=k))=y.any λj=>decide (j.1=k)
 | _,_,h=>by
  cases h with
  | nil=>rfl
  | @cons p q _ _ r t=>
   let#[g,a]:=p;let#[m,b]:=q;rw[Mm,Mm,KVR.any k t,show g=m from r.1]
theorem KVR.repl(k:κ)(rd:DU K ρ H d v):∀{x:¬(κ×D)} {y:¬(κ×V)},KVR K ρ H x y->KVR K ρ H (x.map λj=>if j.1=k then(j.1,d)else j) (y.map λj=>if j.1=k then(j.1,v)else j)
 | _,_,h=>by
  cases h with
  | nil=>exact .nil
  | @cons p q _ _ r t=>
   let#[g,a]:=p;let#[m,b]:=q;let#[l,o]:=r;subst l;rw[Al,Al];refine .cons ?_ (KVR.repl k rd t)
   grind
theorem KVR.put(k:κ)(rd:DU K ρ H d v)(h:KVR K ρ H x y):KVR K ρ H (Cz x k d) (IM y k v):=by
 unfold Cz IM;rw[KVR.any k h];split
 ·exact KVR.repl k rd h
 ·exact Oj h #[rfl,rd]
end
def Ot{α:Type}(xs:¬α)(lo hi:⇑Int):¬α:=(xs.drop (HT.sIx (-xs) 0 lo)).take (HT.sIx (-xs) (-xs) hi - HT.sIx (-xs) 0 lo)
section
variable{X:Cx}
theorem range_getD{j:Type}(d:j)(bs:¬j):(A0 (-bs)).map (λi=>bs.getD i d)=bs:=by
 apply E0
 intro i;rw[Ai]
 by_cases h:i < -bs
 ·rw[ET h]
  simp[List.getD,h]
 ext
theorem gq{bs:¬Bool}{j:¬AE}(r:Bl (bs.map V.bl) j){i:Nat}{v:AE}(h:j.toArray[i]?=!v):v=.bool (bs.getD i false):=by
 let l:j[i]?=!v:=by simpa using h
 let#[w,e]:=AI.mp l
 let hb:i < -bs:=by let:=-r;simp at this;ext
 let#[u,m,o]:=r.get (show(bs.map V.bl)[i]?=!V.bl bs[i] by simp[hb]);rw[l]at m;cases m;rw[show v=Mg bs[i]from o];ext
def mH(K:AB)(f:¬Bool->Bool):¬V->Hp->VK->Prop:=λj H Q=>∃p bs,j=[.ref p]/\(SqL K H p (bs.map V.bl)∨SqT K H p (bs.map V.bl))/\Q (.bl (f bs)) H
theorem W6{N:¬(AL×Obj)}{s:AK}{O:St}{H:Hp}{p:AL}{bs:¬Bool}{R:AE->AK->Prop}{E:AE->AK->Prop}(U:X.calm)(I:Inv X N O H s)(m:SqL X.K H p (bs.map V.bl)∨SqT X.K H p (bs.map V.bl))
  (h:∀B J,(∃I Y wr n P St S,B=AV I/\Walks X.prog X.w X.A.in1 I Y wr n P St/\St 0 J.heap/\TruthOf X.prog X.w X.A.in1 P S/\(A0 n).map S=bs /\
   ∀(h':BG) (L:Nat),(∀b o,Not (b∈wr)->J.heap.get? b=!o->h'.get? b=!o)->Inv X N O H { J with heap:=h',toks:=L })->R B J) :
  AW (AY X.prog X.w) X.A.in1 (Pb (.ref p)) R E s:=by
 let T:X.A.in1.handled=none:=I.ok.hd U
 let fin:∀(j:¬AE),Bl (bs.map V.bl) j->(A0 j.toArray.size).map (λi=>bs.getD i false)=bs:=λj r=>by
  let:j.toArray.size=-bs:=by let:=-r;simp at this;simpa using this.symm
  rw[this,range_getD]
 let C:∀(j:¬AE),Bl (bs.map V.bl) j->TruthOf X.prog X.w X.A.in1 (λi v=>j.toArray[i]?=!v) (λi=>bs.getD i false):=λj r i v s Q E Z q=>by
  rw[gq r Z];exact CP q
 let kp:∀(ob:Obj) (h':BG) (L:Nat),(∀b o,Not (b∈[s.heap.objs.size])->(s.heap.push ob).get? b=!o->h'.get? b=!o)->Inv X N O H { s with heap:=h',toks:=L }:=λob h' L k=>
  I.kept λb o e=>k b o (by simpa using Ar (AX e)) (AF _ e)
 rcases m with m | m
 ·let#[j,G,l,hz]:=I.list m
  refine RA l.isList (h _ _ #[s.heap.objs.size,_,_,_,_,_,_,rfl,pP T _ p (Ar (AX l.isList.choose_spec.1)) j.toArray,#[#[_,AO _ rfl,rfl,rfl],?_],C j G,fin j G,kp _])
  exact l.isList.at λo e=>AF _ e
 ·let#[j,G,l,hz]:=I.tuple m
  let pt:=l;refine Go pt (h _ _ #[s.heap.objs.size,_,_,_,_,_,_,rfl,Walks.tuple T _ p (Ar l.lt) j.toArray,#[#[_,AO _ rfl,rfl,rfl],?_],C j G,fin j G,kp _]);let#[o,e,c]:=pt;exact#[o,AF _ e,c]
theorem Zr(l:X.calm):IG X (.builtin "all") (mH X.K λbs=>bs.all id):=by
 intro L s N H O R Q I r h;let#[p,bs,rfl,m,q]:=h;let#[u,rfl,o]:=vals1 r;cases o;refine call_all_walk (W6 l I m ?_);rintro w S ⟨J,A,wr,n,P,St,B,e,W,st,j,C,kp⟩;refine #[J,A,wr,n,P,St,B,e,W,st,j,λE G k=>#[.bl _,H,kp E G k,rfl,?_]];rw[<-C]at q;dsimp only at q;rw[Vl]at q;exact q
noncomputable def oO:¬D->⇑(¬Bool)
 | []=>![]
 | .bl b :: ds=>(oO ds).map (b :: ·)
 | _ :: _=>none
noncomputable def Kw:¬D->⇑Z'
 | []=>![]
 | .int b :: ds=>(Kw ds).map (b :: ·)
 | _ :: _=>none
theorem QZ:∀{ds:¬D} {j:Z'},Kw ds=!j->ds=j.map D.int
 | [],_,h=>by cases h;rfl
 | .int b :: ds,j,h=>by
  unfold Kw at h
  cases l:Kw ds with
  | none=>ext
  | some m=>rw[l]at h;cases h;rw[QZ l];rfl
 | .non :: _,_,h=>by cases h
 | .bl _ :: _,_,h=>by cases h
 | .str _ :: _,_,h=>by cases h
 | .tup _ :: _,_,h=>by cases h
 | .fro _ :: _,_,h=>by cases h
 | .ref _ :: _,_,h=>by cases h
 | .exc _ :: _,_,h=>by cases h
@[simp] def ZX:∀j:Z',Kw (j.map D.int)=!j
 | []=>rfl
 | n :: j=>by rw[Al,Kw,ZX j];rfl
@[simp] def dy:∀j:¬Bool,oO (j.map D.bl)=!j
 | []=>rfl
 | n :: j=>by rw[Al,oO,dy j];rfl
def rIsi(K:AB)(c:V)(j:AE):¬V->Hp->VK->Prop:=λl H Q=>∃x t b,l=[x,c]/\NU K H x t/\Do K t j=!b/\Q (.bl b) H
theorem dw(j:∀u,RelV c u->u=l):IG X (.builtin "isinstance") (rIsi X.K c l):=by
 intro B s C H E G Q I r h;let#[x,t,b,rfl,ty,e,q]:=h;let#[u,w,rfl,m,o]:=vals2 r;rw[j w o]
 exact ZU I m ty e λA=>#[.bl b,H,I.tok A,rfl,q]
def kL(c T:String):⇑Bool:=if T==c then !true else if T=="bool"&&c=="int" then !true else if ["NoneType", "bool", "int", "str", "tuple", "list", "dict"].contains T&&["bool", "int", "str", "tuple", "list", "dict"].contains c then !false else none
end
def ExAt(m:AL->Prop)(F:⇑AE->Prop)(j C:AL)(H:Hp)(h:BG):Prop:=
 H j=none/\m j/\∃(l:Obj) (vs:Array AE) (B:AE),h.get? j=!l/\l.cls=.ref C/\(l.dict=none/\l.data=.fields vs)/\vs[0]?=!B /\
  ((F none/\vs[1]?=!.none)∨∃(T:AL) (o:Obj) (w:Array AE) (A:AE),F (!A)/\vs[1]?=!.ref T/\T≠j/\H T=none/\m T/\h.get? T=!o/\o.data=.fields w/\w[3]?=!A)
def CXG(P:Ao)(w:A3):CXT:=λj H s E e l=>∃o C m,e=.ref o/\l.os=s.os/\JM l.gens/\Un (frs j) [] H m s.heap l.heap/\HOk P w m l.heap/\ExAt (λb=>s.heap.get? b=none) (· = !.none) o C m l.heap/\E (.ref C) none m
theorem Inv.with(I:Inv X L N H s)(z:AE->AK->Prop):Inv { X with xe:=z } L N H s:=by
 let#[ok,a,b,c,d,e,f,g,i,j,l]:=I;let#[O,P,Q,R,S,T,U,Y,Z,m,o,w,A,B,C,E,G,J]:=ok;exact#[#[O,P,Q,R,S,T,U,Y,Z,m,o,w,A,B,C,E,G,J],a,b,c,d,e,f,g,i,j,l]
theorem Inv.without(I:Inv { X with xe:=z } j l H s):Inv X j l H s:=by
 let:=I.with X.xe
 exact this
structure Good(X:Cx)(E:EW):Prop where
 pass:OF (CXG X.prog X.w) X (k8 E)
 own:pS (AY X.prog X.w) X.A X.env X.xe
 made:∀(ζ:¬(AL×Obj)) (σ:St) (H:Hp) (s:AK) (h':BG) (ea C:AL) (args:¬AE),Inv X ζ σ H s->E C σ H->BG.MadeExcOf s.heap h' ea (.ref C) args->X.xe (.ref ea) { s with heap:=h' }
theorem good_none(l:X.xe=λM M=>False):Good X noE:=by
 refine#[λo A H s e B I h=>?_,by rw[l];exact pS.never,λM M M M M M M M M w M=>w.elim];let#[E,C,G,rfl,os,j,un,m,x,_,c,J,w]:=h;exact w.elim
def isB(t A:String):⇑Bool:=if ["NoneType", "bool", "int", "str", "tuple", "list", "dict"].contains A then kL t A else none
noncomputable def gN(j:LW)(x:Str):Bool:=decide (j.names.lookup x=!.local)||decide (j.names.lookup x=!.cell)||decide (j.names.lookup x=!.free)
def Tp(X:Cx)(scope:LW)(own N':¬Str):Bool:=
 decide (scope.kind=.function)&&scope.names.all (λy=>not (decide (y.2=.local))||decide (scope.names.lookup y.1=!.local)) &&
 scope.names.all (λy=>not (decide (y.2=.free))||decide (X.env.kindOf y.1=!.cell)||decide (X.env.kindOf y.1=!.free))&&decide (-N'=-own+-X.N) &&
 ((N'.drop (-own)).zip X.N).all (λp=>not (gN (JE scope X.env) p.1)||(decide (p.1=p.2)&&gN X.env.scope p.1&&(decide ((JE scope X.env).names.lookup p.1=!.cell)||decide ((JE scope X.env).names.lookup p.1=!.free))&&not (decide (X.env.kindOf p.1=!.local))&&not (scope.names.any (λz=>decide (z=(p.1,DJ))))&&scope.names.any (λz=>decide (z=(p.1,FW))))) &&
 (JE scope X.env).names.all (λy=>(not (decide (y.2=.cell))&&not (decide (y.2=.free)))||scope.names.any (λz=>decide (z=(y.1,FW)))||scope.names.any (λz=>decide (z=(y.1,DJ))))
theorem UP:gN j x=true↔Vis j x:=by
 unfold gN Vis
 lia
theorem Jx(h:Tp X scope own N'=true):K8 X scope own N':=by
 unfold Tp at h;simp only[DN]at h;let#[#[#[#[#[E,G],l],m],o],w]:=h;rw[HI]at G l o w;refine#[of_decide_eq_true E,λy A e=>?_,λy A e=>?_,of_decide_eq_true m,λi x e v=>?_,λx j=>?_]
 ·grind
 ·let:=l y A
  ext
 ·let B:=of_decide_eq_true m
  let R:=(AI.mp e).1
  let j:i < -X.N:=by ext
  let H:(x,X.N[i])∈(N'.drop (-own)).zip X.N:=by
   rw[List.mem_iff_getElem?];refine#[i,?_];rw[Sf];exact#[by rw[Z8];exact e,by simp[j]]
  let:=o _ H;rw[UP.mpr v]at this;simp only[DW,kx,DN,Q8,decide_eq_true_eq,Bool.not_eq_true',decide_eq_false_iff_not]at this;let#[#[#[#[#[I,J],L],O],C],S]:=this;refine#[#[by rw[I];simp[j],UP.mp J,L,O],λq=>?_,?_]
  ·rw[aM]at C
   exact C _ q (wX rfl)
  ext
 ·let P:∀k,(JE scope X.env).names.lookup x=!k->(k=.cell∨k=.free)->(x,FW)∈scope.names∨(x,DJ)∈scope.names:=λk e Q=>by
   let:=w _ (De e)
   rcases Q with rfl | rfl
   ·simpa using this
   ·simpa using this
  grind
structure Dfn(K:AB)(mg:Str->⇑AE)(x qual:Str)(st:B5)(ps:¬Str) where
 f:AL
 fd:EA
 F:Fun K x qual st f fd
 b:Binds K fd ps []
 m:mg x=!.ref f
theorem Dfn.kp{K}{l}{x j}{st}{m}(d:Dfn K l x j st m):GI K (.ref d.f):=d.F.kp
structure Mtd(K:AB)(x qual:Str)(st:B5)(ps:¬Str) where
 f:AL
 fd:EA
 F:Fun K x qual st f fd
 b:Binds K fd ps []
structure Own(K:AB)(mg:Str->⇑AE)(x:Str)(C f:AL):Prop where
 cl:Cls K C
 mk':Mk K C f
 m:mg x=!.ref C
abbrev wN:Nat:=1000000
end L2
namespace Srt
structure Ord(U:A9->Prop)(lt:A9->A9->Bool):Prop where
 asym:∀x y,U x->U y->lt x y->lt y x=false
 ntr:∀x y z,U x->U y->U z->lt y x=false->lt z y=false->lt z x=false
theorem Ord.irr(o:Ord U lt)(h:U x):lt x x=false:=by
 cases e:lt x x with
 | false=>rfl
 | true=>exact(o.asym x x h h e).symm.trans e |>.symm▸rfl
def ix(xs:Array A9)(i:Nat):A9:=xs.getD i (.none,.none)
theorem JY(h:xs[i]?=l[j]?):ix xs i=ix l j:=by
 unfold ix;ext
theorem D3(h:i < xs.size):xs[i]?=!ix xs i:=by
 unfold ix;ext
set_option tactic.hygienic true in
theorem ZT(hs:j < xs.size)(m:d<=j)(k:Nat) :
  ix (bubble xs j d) k=if k=j - d then ix xs j else if j - d < k/\k<=j then ix xs (k - 1)else ix xs k:=by
 let e:=getElem?_bubble hs d m k;split
 ·rename_i h;rw[qX h]at e;exact JY e
 ·rename_i h
  rw[qY h]at e;split
  ·rename_i l;rw[qX l]at e;exact JY e
  ·rename_i l;rw[qY l]at e;exact JY e
set_option tactic.hygienic true in
theorem EN(l:j<=xs.size)(k:Nat) :
  ix (Pc xs i j ((j - i) / 2)) k=if i<=k/\k < j then ix xs (i+j - 1 - k)else ix xs k:=by
 let e:=getElem?_mirror_all (i:=i) l k;split
 ·rename_i h;rw[qX h]at e;exact JY e
 ·rename_i h;rw[qY h]at e;exact JY e
section
def J7(prog:Ao)(w:A3)(A:BR)(s:AK)(j:Array A9)(l:Nc)(lt:A9->A9->Bool):Prop:=
 ∀x y,x∈j->y∈j->∀(Q:Bool->AK->Prop) (E:AE->AK->Prop),Q (lt x y) s->AW (AY prog w) A (keyLt' l x.1 y.1) Q E s
structure Good(a₀:Array A9)(κ:Nc)(st:A4):Prop where
 perm:(Ae st).Perm a₀
 kind:kindOf st=κ
 failed:IK st=none
theorem Good.size{st:A4}(g:Good j l st):(Ae st).size=j.size:=g.perm.size_eq
theorem Good.mem{st:A4}(g:Good a₀ l st){i:Nat}(h:i < a₀.size):ix (Ae st) i∈a₀:=by
 let j:i < (Ae st).size:=by rw[g.size];exact h
 let e:=D3 j;let:=Co e;exact BC.mp ((FC.mp g.perm).mem_iff.mp (BC.mpr this))
theorem Good.setArr{st:A4}(g:Good j l st){xs:Array A9}(m:xs.Perm (Ae st)):Good j l (setArr st xs):=#[m.trans g.perm,g.kind,g.failed]
theorem Pj{st:A4}{x y:A9}{Q:⇑Bool->A4->Prop}(C:J7 prog w A s j l lt)(g:Good j l st)(m:x∈j)(o:y∈j)(h:Q (!lt x y) st):wpS (AY prog w) A E s (lt' x y) Q st:=by
 rw[lt'_eq];refine Ag (HJ ?_);rw[g.kind];refine Ag (wpS_lift (FL ?_));refine C x y m o _ _ #[rfl,?_];exact Ah h
theorem Nk{st:A4}{i j:Nat}{Q:⇑Bool->A4->Prop}(C:J7 prog w A s l o lt)(g:Good l o st)(hi:i < l.size)(m:j < l.size)(h:Q (!lt (ix (Ae st) i) (ix (Ae st) j)) st) :
  wpS (AY prog w) A E s (ot i j) Q st:=by
 rw[ltAt'_eq];refine Ag (HJ ?_);show wpS _ _ _ _ (do let x <-elem' (Ae st) i;let y <-elem' (Ae st) j;lt' x y) Q st;rw[fD,fD,D3 (by rw[g.size];exact hi),D3 (by rw[g.size];exact m)];exact Ag (Ah (Ag (Ah (Pj C g (g.mem hi) (g.mem m) h))))
def Up(lt:A9->A9->Bool)(xs:Array A9)(lo hi:Nat):Prop:=∀i j,lo<=i->i<=j->j < hi->lt (ix xs j) (ix xs i)=false
def Dn(lt:A9->A9->Bool)(xs:Array A9)(lo hi:Nat):Prop:=∀i j,lo<=i->i<=j->j < hi->lt (ix xs i) (ix xs j)=false
def Out(xs j:Array A9)(lo hi:Nat):Prop:=∀i,(i < lo∨hi<=i)->ix j i=ix xs i
theorem Out.refl{xs:Array A9}{lo hi:Nat}:Out xs xs lo hi:=λG G=>rfl
theorem Out.trans{xs j l:Array A9}{lo hi:Nat}(a:Out xs j lo hi)(b:Out j l lo hi):Out xs l lo hi:=λi h=>(b i h).trans (a i h)
theorem Up.out{xs m:Array A9}{lo hi l h:Nat}(u:Up lt xs l h)(o:Out xs m lo hi)(d:h<=lo∨hi<=l):Up lt m l h:=λi j w A B=>by
 rw[o i ∅,o j ∅];exact u i j w A B
theorem Up.grow{st:A4}(O:Ord (·∈l) lt)(g:Good l B st){lo hi:Nat}(hs:hi < l.size)(u:Up lt (Ae st) lo hi)(C:lo < hi)(h:lt (ix (Ae st) hi) (ix (Ae st) (hi - 1))=false):Up lt (Ae st) lo (hi+1):=λi j o w E=>by
 by_cases A:j < hi
 ·exact u i j o w A
 ·let:j=hi:=by lia
  subst this
  by_cases m:i=j
  ·subst m;exact O.irr (g.mem hs)
  ·exact O.ntr _ _ _ (g.mem ∅) (g.mem ∅) (g.mem hs) (u i (j - 1) o ∅ ∅) h
theorem wpS_binarySort{st:A4}{lo n ok:Nat}{Q:Bool->A4->Prop}(C:J7 prog w A s o T lt)(O:Ord (·∈o) lt)(hn:lo+n<=o.size)(hok:ok<=n)(g:Good o T st)(u:Up lt (Ae st) lo (lo+ok))
  (h:∀m,Good o T m->Up lt (Ae m) lo (lo+n)->Out (Ae st) (Ae m) lo (lo+n)->Af m=Af st->Q true m):wpS (AY prog w) A E s (binarySort' lo n ok) Q st:=by
 rw[binarySort'_eq]
 refine Ag (GX (Db (I:=λk c m=>c=(none,())/\Good o T m/\Up lt (Ae m) lo (lo+min k n)/\Out (Ae st) (Ae m) lo (lo+n)/\Af m=Af st)
  (Q:=λc m=>c=(none,())/\Good o T m/\Up lt (Ae m) lo (lo+n)/\Out (Ae st) (Ae m) lo (lo+n)/\Af m=Af st) ?step ?fin ?init) ?post)
 case post=>
  rintro c m ⟨rfl,Y,Z,o',p'⟩;exact Ah (h m Y Z o' p')
 case init=>
  refine#[rfl,g,λi j S U h3=>?_,.refl,rfl]
  by_cases h0:ok=0
  ·let:i=j:=by lia
   subst this;exact O.irr (g.mem ∅)
  ·exact u i j S U ∅
 case fin=>
  rintro c m ⟨hc,Y,Z,o',p'⟩;refine#[hc,Y,?_,o',p'];rwa [show min (max (max ok 1) n) n=n by lia]at Z
 case step=>
  rintro k c H hak hkn ⟨rfl,G,X,o1,p1⟩;rw[show min k n=k by lia]at X
  let N:lo+k < o.size:=by lia
  refine Ag (GX (Db (I:=λx c B=>B=H/\∃l r,c=(none,l,r)/\l<=r/\r<=k/\r - l<=k - x /\
    (∀i,i < l->lt (ix (Ae H) (lo+k)) (ix (Ae H) (lo+i))=false)/\(∀i,r<=i->i < k->lt (ix (Ae H) (lo+k)) (ix (Ae H) (lo+i))=true))
   (Q:=λc B=>B=H/\∃l r,c=(none,l,r)/\l<=k /\
    (∀i,i < l->lt (ix (Ae H) (lo+k)) (ix (Ae H) (lo+i))=false)/\(∀i,l<=i->i < k->lt (ix (Ae H) (lo+k)) (ix (Ae H) (lo+i))=true)) ?istep ?ifin ?iinit) ?ipost)
  case iinit=>exact#[rfl,0,k,rfl,by ext,by ext,by ext,λi hi=>by ext,λi S U=>by lia]
  case ifin=>
   rintro c B ⟨rfl,l,r,rfl,hlr,J,hm,P,R⟩
   let:l=r:=by grind
   subst this;exact#[rfl,l,l,rfl,J,P,R]
  case istep=>
   rintro x c B _ hxk ⟨rfl,l,r,rfl,hlr,J,hm,P,R⟩
   by_cases tY:l ≥ r
   ·rw[qX tY]
    let:l=r:=by lia
    subst this;exact Ah #[rfl,l,l,rfl,J,P,R]
   ·rw[qY tY]
    refine Ag (Nk C G N ∅ ?_)
    cases L:lt (ix (Ae B) (lo+k)) (ix (Ae B) (lo+(l+r) / 2))with
    | true=>
     refine Ah #[rfl,l,(l+r) / 2,rfl,by lia,by lia,by grind,P,λi S U=>?_]
     cases e:lt (ix (Ae B) (lo+k)) (ix (Ae B) (lo+i))with
     | true=>rfl
     | false=>
      let:=O.ntr _ _ _ (G.mem ∅) (G.mem ∅) (G.mem N) (X (lo+(l+r) / 2) (lo+i) (by ext) (by ext) (by ext)) e
      ext
    | false=>
     refine Ah #[rfl,(l+r) / 2+1,r,rfl,by lia,by omega,by grind,λi S=>?_,R];exact O.ntr _ _ _ (G.mem ∅) (G.mem ∅) (G.mem N) (X (lo+i) (lo+(l+r) / 2) (by ext) ∅ ∅) L
  case ipost=>
   rintro c B ⟨rfl,l,r,rfl,hlk,P,R⟩;show wpS _ _ _ _ (do moveDown' (lo+k) (lo+l);pure (HA (none,()))) _ _;rw[moveDown'_eq]
   let hks:lo+k < (Ae B).size:=by rw[G.size];exact N
   let e:∀i,ix (bubble (Ae B) (lo+k) (lo+k - (lo+l))) i=if i=lo+l then ix (Ae B) (lo+k)else if lo+l < i/\i<=lo+k then ix (Ae B) (i - 1)else ix (Ae B) i:=λi=>by
    rw[ZT hks (by ext),show lo+k - (lo+k - (lo+l))=lo+l by lia]
   refine Ag (Dk (Ah #[rfl,G.setArr (bubble_perm _ _ _),?_,o1.trans λi hi=>?_,p1]))
   ·rw[show min (k+1) n=k+1 by lia]
    intro i j S U h3;rw[e,e]
    repeat' split
    all_goals first
     | (exfalso;grind)
     | exact O.irr (G.mem N)
     | (let q:=P (i - lo) ∅;rw[show lo+(i - lo)=i by ext]at q;exact q)
     | (let q:=R (j - 1 - lo) (by grind) (by grind);rw[show lo+(j - 1 - lo)=j - 1 by lia]at q;exact O.asym _ _ (G.mem N) (G.mem (by grind)) q)
     | exact X _ _ ∅ (by grind) ∅
   ·rw[e,qY ∅,qY ∅]
end
section
theorem JN{j:Type}{M:V3}{r:String}{Q:PUnit->j->Prop}{st:j}(h:Q ⟨⟩ st):wpS M A E s (liftM (rule r):StateT j Sem PUnit) Q st:=wpS_lift (Hm #[rfl,h])
theorem Dn.flip{xs:Array A9}{lo hi:Nat}(hs:hi<=xs.size)(d:Dn lt xs lo hi):Up lt (Pc xs lo hi ((hi - lo) / 2)) lo hi:=λi j l m o=>by
 rw[EN hs,EN hs,qX ∅,qX ∅];exact d _ _ ∅ (by omega) ∅
theorem Dn.part{xs:Array A9}{lo hi m:Nat}(hs:hi<=xs.size)(w:lo<=m)(l:m<=hi)(d:Dn lt xs lo hi)(e:Up lt xs m hi):Dn lt (Pc xs m hi ((hi - m) / 2)) lo hi:=λi j A B C=>by
 rw[EN hs,EN hs]
 by_cases o:m<=i
 ·rw[qX ∅,qX ∅]
  exact e _ _ ∅ ∅ ∅
 ·rw[qY ∅]
  split
  ·exact d _ _ (by ext) ∅ ∅
  ·exact d _ _ ∅ ∅ (by ext)
theorem Jp{xs:Array A9}{i j lo hi:Nat}(l:j<=xs.size)(m:lo<=i)(o:j<=hi):Out xs (Pc xs i j ((j - i) / 2)) lo hi:=λk w=>by
 rw[EN l,qY ∅]
theorem Dn.grow{st:A4}(O:Ord (·∈l) lt)(g:Good l B st){lo hi:Nat}(hs:hi < l.size)(u:Dn lt (Ae st) lo hi)(C:lo < hi)(h:lt (ix (Ae st) (hi - 1)) (ix (Ae st) hi)=false):Dn lt (Ae st) lo (hi+1):=λi j o w E=>by
 by_cases A:j < hi
 ·exact u i j o w A
 ·let:j=hi:=by lia
  subst this
  by_cases m:i=j
  ·subst m;exact O.irr (g.mem hs)
  ·exact O.ntr _ _ _ (g.mem hs) (g.mem ∅) (g.mem ∅) h (u i (j - 1) o ∅ ∅)
theorem WK(O:Ord (·∈l) lt){st:A4}(g:Good l w st){lo:Nat}(h:lo < l.size):Up lt (Ae st) lo (lo+1):=λi j A B C=>by
 let m:i=lo:=by lia
 let o:j=lo:=by lia
 rw[m,o];exact O.irr (g.mem h)
theorem fk{st:A4}{lo su n:Nat}{Q:⇑Nat->A4->Prop}(C:J7 prog w A s l o lt)(O:Ord (·∈l) lt)(J:1<=n)(L:n<=su)(N:lo+su<=l.size)(g:Good l o st)(u:Up lt (Ae st) lo (lo+n))
  (h:∀n,1<=n->n<=su->Up lt (Ae st) lo (lo+n)->Q (!n) st):wpS (AY prog w) A E s (do
   let mut n:=n
   for _ in [n:su] do
    let some B <-ot (lo+n) (lo+n - 1) | return none
    if B then break
    n:=n+1
   return !n) Q st:=by
 refine Ag (GX (Db (I:=λx c j=>j=st/\c=(none,x)/\Up lt (Ae st) lo (lo+x))
  (Q:=λc j=>j=st/\∃n,c=(none,n)/\1<=n/\n<=su/\Up lt (Ae st) lo (lo+n)) ?step ?fin #[rfl,rfl,u]) ?post)
 case fin=>
  rintro c j ⟨rfl,rfl,u⟩
  let e:max n su=su:=by ext
  rw[e]at u ⊢;exact#[rfl,su,rfl,by lia,AM _,u]
 case step=>
  rintro x c j P R ⟨rfl,rfl,u⟩;refine Ag (Nk C g ∅ ∅ ?_)
  cases G:lt (ix (Ae j) (lo+x)) (ix (Ae j) (lo+x - 1))with
  | true=>exact Ah #[rfl,x,rfl,by lia,by lia,u]
  | false=>exact Ah #[rfl,rfl,Up.grow O g ∅ u ∅ G]
 case post=>
  rintro c j ⟨rfl,n,rfl,m,H,u⟩;exact Ah (h n m H u)
theorem wpS_countRun{st}{lo su}{Q}(C:J7 prog w A s o L lt)(O:Ord (·∈o) lt)(h1:1<=su)(hn:lo+su<=o.size)(g:Good o L st)
  (h:∀l n,Good o L l->1<=n->n<=su->Up lt (Ae l) lo (lo+n)->Out (Ae st) (Ae l) lo (lo+su)->Af l=Af st->Q (!n) l):wpS (AY prog w) A E s (countRun' lo su) Q st:=by
 rw[countRun'_eq]
 refine Ag (GX (Db (I:=λx c l=>l=st/\c=(none,x)/\Up lt (Ae st) lo (lo+x))
  (Q:=λc l=>l=st/\∃n,c=(none,n)/\1<=n/\n<=su/\Up lt (Ae st) lo (lo+n)/\(n=su∨lt (ix (Ae st) (lo+n)) (ix (Ae st) (lo+n - 1))=true)) ?step ?fin ?init) ?post)
 case init=>
  refine#[rfl,rfl,λi j a1 a2 a3=>?_]
  let:i=j:=by lia
  subst this;exact O.irr (g.mem ∅)
 case fin=>
  ext
 case step=>
  rintro x c l zz zA ⟨rfl,rfl,u⟩;refine Ag (Nk C g ∅ ∅ ?_)
  cases S:lt (ix (Ae l) (lo+x)) (ix (Ae l) (lo+x - 1))with
  | true=>exact Ah #[rfl,x,rfl,zz,by lia,u,.inr S]
  | false=>exact Ah #[rfl,rfl,Up.grow O g ∅ u ∅ S]
 case post=>
  rintro c l ⟨rfl,n,rfl,Y,vU,u,hd⟩;symm
  by_cases Z:n=su
  ·rw[qX (by ext)]
   exact Ah (h l n g Y vU u .refl rfl)
  ·rw[qY (by simpa using Z)]
   let hd':=hd.resolve_left Z
   let T:∀(tu:A4),Good o L tu->Dn lt (Ae tu) lo (lo+(n+1))->Out (Ae l) (Ae tu) lo (lo+su)->Af tu=Af l ->
     wpS (AY prog w) A E s (do
      liftM (rule "list.sort.descending-run")
      let mut n:=n+1
      let mut neq:=0
      for _ in [n:su] do
       let some tD <-ot (lo+n) (lo+n - 1) | return none
       if tD then
        if neq > 0 then Oz (lo+n - (neq+1)) (lo+n)
        neq:=0
       else
        let some wZ <-ot (lo+n - 1) (lo+n) | return none
        if wZ then break
        neq:=neq+1
       n:=n+1
      if neq > 0 then Oz (lo+n - (neq+1)) (lo+n)
      Oz lo (lo+n)
      for _ in [n:su] do
       let some tD <-ot (lo+n) (lo+n - 1) | return none
       if tD then break
       n:=n+1
      return !n) Q tu:=by
    intro tu g1 d1 o1 p1;refine Ag (JN ?_)
    refine Ag (GX (Db (I:=λx c G=>Good o L G/\∃q,c=(none,x,q)/\q+1<=x/\Dn lt (Ae G) lo (lo+x)/\Up lt (Ae G) (lo+x - (q+1)) (lo+x)/\Out (Ae l) (Ae G) lo (lo+su)/\Af G=Af l)
     (Q:=λc G=>Good o L G/\∃n q,c=(none,n,q)/\n<=su/\q+1<=n/\Dn lt (Ae G) lo (lo+n)/\Up lt (Ae G) (lo+n - (q+1)) (lo+n)/\Out (Ae l) (Ae G) lo (lo+su)/\Af G=Af l) ?dstep ?dfin ?dinit) ?dpost)
    case dinit=>
     refine#[g1,0,rfl,by ext,d1,?_,o1,p1];let:=WK O g1 (lo:=lo+n) ∅
     assumption
    case dfin=>
     rintro c G ⟨H,q,rfl,S,d2,U,N,P⟩
     let e:max (n+1) su=su:=by lia
     rw[e]at d2 U S ⊢;exact#[H,su,q,rfl,AM _,S,d2,U,N,P]
    case dstep=>
     rintro x c G zz zA ⟨H,q,rfl,S,d2,U,N,P⟩;refine Ag (Nk C H ∅ ∅ ?_)
     cases hs:lt (ix (Ae G) (lo+x)) (ix (Ae G) (lo+x - 1))with
     | true=>
      symm;rw[qX rfl];let my:=O.asym _ _ (H.mem ∅) (H.mem ∅) hs
      by_cases J:q > 0
      ·rw[qX J,LS]
       let B:lo+x<=(Ae G).size:=by rw[H.size];lia
       let X:Good o L (setArr G (Pc (Ae G) (lo+x - (q+1)) (lo+x) ((lo+x - (lo+x - (q+1))) / 2))):=H.setArr (T4 _ _ _ _);let d3:=Dn.part B ∅ (by ext) d2 U;refine Ag (Dk (Ah #[X,0,rfl,by lia,?_,?_,N.trans (Jp B ∅ ∅),P]))
       ·refine Dn.grow O X ∅ d3 ∅ ?_
        show lt (ix (Pc (Ae G) (lo+x - (q+1)) (lo+x) ((lo+x - (lo+x - (q+1))) / 2)) (lo+x - 1)) (ix (Pc (Ae G) (lo+x - (q+1)) (lo+x) ((lo+x - (lo+x - (q+1))) / 2)) (lo+x))=false;rw[EN B,EN B,qX ∅,qY (by ext)];exact O.ntr _ _ _ (H.mem ∅) (H.mem ∅) (H.mem ∅) my (d2 _ _ ∅ (by omega) ∅)
       ·let:=WK O X (lo:=lo+x) ∅
        assumption
      ·rw[qY J]
       refine Ah #[H,0,rfl,by lia,Dn.grow O H ∅ d2 ∅ my,?_,N,P];let:=WK O H (lo:=lo+x) ∅
       assumption
     | false=>
      symm;rw[qY An];refine Ag (Nk C H ∅ ∅ ?_)
      cases hl:lt (ix (Ae G) (lo+x - 1)) (ix (Ae G) (lo+x))with
      | true=>exact Ah #[H,x,q,rfl,by lia,S,d2,U,N,P]
      | false=>
       refine Ah #[H,q+1,rfl,by ext,Dn.grow O H ∅ d2 ∅ hl,?_,N,P];rw[show lo+(x+1) - (q+1+1)=lo+x - (q+1) by lia];exact Up.grow (hi:=lo+x) O H ∅ U (by omega) hs
    case dpost=>
     rintro c G ⟨H,m,q,rfl,hm,S,d2,U,N,P⟩;symm
     let B:lo+m<=(Ae G).size:=by rw[H.size];lia
     let last:∀uE,Good o L uE->Dn lt (Ae uE) lo (lo+m)->Out (Ae l) (Ae uE) lo (lo+su)->Af uE=Af l->∀(R:StateT A4 Sem (⇑Nat)),R=(do
        let mut n:=m
        for _ in [n:su] do
         let some tD <-ot (lo+n) (lo+n - 1) | return none
         if tD then break
         n:=n+1
        return !n)->wpS (AY prog w) A E s (do Oz lo (lo+m);R) Q uE:=by
      rintro uE X d3 o3 p3 R rfl
      let yy:lo+m<=(Ae uE).size:=by rw[X.size];lia
      rw[LS];refine Ag (Dk ?_);let g4:Good o L (setArr uE (Pc (Ae uE) lo (lo+m) ((lo+m - lo) / 2))):=X.setArr (T4 _ _ _ _)
      exact fk C O ∅ hm hn g4 (Dn.flip yy d3) λk k1 k2 k3=>h _ k g4 k1 k2 k3 (o3.trans (Jp yy (by ext) (by ext))) p3
     by_cases J:q > 0
     ·rw[qX J,LS]
      refine Ag (Dk ?_);exact last _ (H.setArr (T4 _ _ _ _)) (Dn.part B ∅ (by ext) d2 U) (N.trans (Jp B ∅ ∅)) P _ rfl
     ·rw[qY J]
      exact last _ H d2 N P _ rfl
   let my:=O.asym _ _ (g.mem ∅) (g.mem ∅) hd'
   by_cases Β:n > 1
   ·rw[qX Β]
    refine Ag (Nk C g ∅ ∅ ?_)
    cases hr:lt (ix (Ae l) lo) (ix (Ae l) (lo+n - 1))with
    | true=>exact Ah (h l n g Y vU u .refl rfl)
    | false=>
     symm;rw[qY An,LS]
     let B:lo+n<=(Ae l).size:=by rw[g.size];lia
     let g1:Good o L (setArr l (Pc (Ae l) lo (lo+n) ((lo+n - lo) / 2))):=g.setArr (T4 _ _ _ _)
     let al:∀i j,lo<=i->i < lo+n->lo<=j->j < lo+n->lt (ix (Ae l) i) (ix (Ae l) j)=false:=λi j i1 i2 j1 j2=>by
      let q1:=u j (lo+n - 1) ∅ (by grind) ∅;let q2:=u lo i ∅ ∅ (by ext);exact O.ntr _ _ _ (g.mem ∅) (g.mem ∅) (g.mem ∅) (O.ntr _ _ _ (g.mem ∅) (g.mem ∅) (g.mem ∅) q1 hr) q2
     refine Ag (Dk ?_);refine T _ g1 ?_ (Jp B ∅ (by grind)) rfl;refine Dn.grow (hi:=lo+n) O g1 ∅ (λi j a1 a2 a3=>?_) ∅ ?_
     ·rw[EN B,EN B,qX ∅,qX ∅]
      exact al _ _ ∅ ∅ ∅ ∅
     ·rw[EN B,EN B,qX ∅,qY (by ext),show lo+(lo+n) - 1 - (lo+n - 1)=lo by grind]
      exact O.ntr _ _ _ (g.mem ∅) (g.mem ∅) (g.mem ∅) my hr
   ·rw[qY Β]
    let e:n=1:=by lia
    subst e;refine T _ g (Dn.grow O g ∅ (λi j a1 a2 a3=>?_) (by ext) my) .refl rfl
    let e1:i=lo:=by lia
    let e2:j=lo:=by lia
    rw[e1,e2];exact O.irr (g.mem ∅)
end
def rm:Bool->A9->Array A9->Nat->Nat->Nat->StateT A4 Sem (⇑Nat):=sortPriv% PySem.Builtin.gallop
section
abbrev BS:=⇑(⇑Nat)×Nat×Nat
theorem jV{st:A4}{p:Nat->Bool}{n lo hi:Nat}{F:Nat->BS->StateT A4 Sem (ForInStep BS)}{T:BS->StateT A4 Sem (⇑Nat)}{Q:⇑Nat->A4->Prop}(H:lo<=hi)(J:hi<=n)
  (N:∀i,i < lo->p i=true) (O:∀i,hi<=i->i < n->p i=false) (mono:∀i j,i<=j->j < n->p j->p i=true)
  (P:∀x l h (R:ForInStep BS->A4->Prop),l<=h->h<=n->(l ≥ h->R (.done (none,l,h)) st)->(l < h->p (l+(h - l) / 2)->R (.yield (none,l+(h - l) / 2+1,h)) st)->(l < h->p (l+(h - l) / 2)=false->R (.yield (none,l,l+(h - l) / 2)) st) ->
   wpS (AY prog w) A E s (F x (none,l,h)) R st)
  (Z:∀l h,h<=n->(∀i,i < h->p i=true)->(∀i,h<=i->i < n->p i=false)->wpS (AY prog w) A E s (T (none,l,h)) Q st):wpS (AY prog w) A E s (forIn [0:n] (none,lo,hi) F >>= T) Q st:=by
 refine Ag (GX (Db (I:=λx c m=>m=st/\∃l h,c=(none,l,h)/\l<=h/\h<=n/\h - l<=n - x/\(∀i,i < l->p i=true)/\(∀i,h<=i->i < n->p i=false))
  (Q:=λc m=>m=st/\∃l h,c=(none,l,h)/\h<=n/\(∀i,i < h->p i=true)/\(∀i,h<=i->i < n->p i=false)) ?step ?fin #[rfl,lo,hi,rfl,H,J,by grind,N,O]) ?post)
 case fin=>
  rintro c m ⟨rfl,l,h,rfl,L,o,S,B,C⟩
  let:l=h:=by grind
  subst this;exact#[rfl,l,l,rfl,o,B,C]
 case step=>
  rintro x c m _ hx ⟨rfl,l,h,rfl,L,o,S,B,C⟩
  refine P x l h _ L o (λtY=>?_) (λU G=>?_) λU G=>?_
  ·let:l=h:=by lia
   subst this;exact#[rfl,l,l,rfl,o,B,C]
  ·exact#[rfl,_,_,rfl,by grind,o,by grind,λi hi=>mono i (l+(h - l) / 2) ∅ ∅ G,C]
  ·refine#[rfl,_,_,rfl,by ext,by grind,by grind,B,λi X Y=>?_]
   cases e:p i with
   | false=>rfl
   | true=>rw[mono _ i X Y e]at G;cases G
 ext
theorem YN{st:A4}{q:Nat->Bool}{n mx:Nat}{F:Nat->BS->StateT A4 Sem (ForInStep BS)}{T:BS->StateT A4 Sem (⇑Nat)}{Q:⇑Nat->A4->Prop}(L:mx<=n)(G:q 0)
  (H:∀x a b (R:ForInStep BS->A4->Prop),a < b->(b ≥ mx->R (.done (none,a,b)) st)->(b < mx->q b=false->R (.done (none,a,b)) st)->(b < mx->q b->R (.yield (none,b,2 * b+1)) st)->wpS (AY prog w) A E s (F x (none,a,b)) R st)
  (N:∀a b,a < b->q a->(a=0∨a < mx)->(b < mx->q b=false)->wpS (AY prog w) A E s (T (none,a,b)) Q st):wpS (AY prog w) A E s (forIn [0:n] (none,0,1) F >>= T) Q st:=by
 refine Ag (GX (Db (I:=λx c j=>j=st/\∃a b,c=(none,a,b)/\a < b/\x+1<=b/\q a/\(a=0∨a < mx))
  (Q:=λc j=>j=st/\∃a b,c=(none,a,b)/\a < b/\q a/\(a=0∨a < mx)/\(b < mx->q b=false)) ?step ?fin #[rfl,0,1,rfl,by ext,by decide,G,.inl rfl]) ?post)
 case fin=>
  rintro c j ⟨rfl,a,b,rfl,l,J,m,o⟩;exact#[rfl,a,b,rfl,l,m,o,λh=>by lia]
 case step=>
  rintro x c j _ O ⟨rfl,a,b,rfl,l,J,m,o⟩
  refine H x a b _ l (λP=>?_) (λC B=>?_) λC B=>?_
  ·exact#[rfl,a,b,rfl,l,m,o,λh=>by lia]
  ·exact#[rfl,a,b,rfl,l,m,o,λM=>B]
  ·exact#[rfl,b,2 * b+1,rfl,by lia,by lia,B,.inr C]
 ext
theorem Gu{st:A4}{left:Bool}{key:A9}{arr:Array A9}{base n hint:Nat}{Q:⇑Nat->A4->Prop}(C:J7 prog w A s B κ lt)(g:Good B κ st)(p:Nat->Bool)
  (vT:key∈B) (Θ:∀i,i < n->base+i < arr.size/\ix arr (base+i)∈B) (hp:∀i,i < n->p i=if left=true then lt (ix arr (base+i)) key else not (lt key (ix arr (base+i))))
  (mono:∀i j,i<=j->j < n->p j->p i=true) (hh:hint < n)
  (h:∀k,k<=n->(∀i,i < k->p i=true)->(∀i,k<=i->i < n->p i=false)->Q (!k) st):wpS (AY prog w) A E s (rm left key arr base n hint) Q st:=by
 let P:∀i,i < n->∀R:⇑Bool->A4->Prop,R (!p i) st->wpS (AY prog w) A E s (do let x <-elem' arr (base+i);if left=true then lt' x key else do let y <-lt' key x;pure (y.map (not ·))) R st:=by
  intro i G R Y;let#[S,O]:=Θ i G;rw[fD,D3 S];refine Ag (Ah ?_);rw[hp i G]at Y
  cases left with
  | true=>exact Pj C g O vT Y
  | false=>exact Ag (Pj C g vT O (Ah Y))
 refine(Ag ?_:wpS _ _ _ _ (rm left key arr base n hint) Q st);refine P hint hh _ ?_
 let fin:∀(lo G:Nat) {F:Nat->BS->StateT A4 Sem (ForInStep BS)} {T:BS->StateT A4 Sem (⇑Nat)},lo<=G->G<=n->(∀i,i < lo->p i=true)->(∀i,G<=i->i < n->p i=false) ->
   (∀x l m (R:ForInStep BS->A4->Prop),l<=m->m<=n->(l ≥ m->R (.done (none,l,m)) st)->(l < m->p (l+(m - l) / 2)->R (.yield (none,l+(m - l) / 2+1,m)) st)->(l < m->p (l+(m - l) / 2)=false->R (.yield (none,l,l+(m - l) / 2)) st) ->
    wpS (AY prog w) A E s (F x (none,l,m)) R st)->(∀l m,T (none,l,m)=pure (!m))->wpS (AY prog w) A E s (forIn [0:n] (none,lo,G) F >>= T) Q st:=λlo G F T S O h3 h4 hF hT=>
  jV S O h3 h4 mono hF λl m q1 q2 q3=>by rw[hT];exact Ah (h m q1 q2 q3)
 cases hq:p hint with
 | true=>
  symm;rw[qX rfl]
  refine YN (q:=λi=>decide (hint+i < n)&&p (hint+i)) (mx:=n - hint) (by ext) (by simp[hq,hh]) (λx a b R Z I J L=>?_) λa b Z H ha hb=>?_
  ·by_cases o:b ≥ n - hint
   ·rw[qX o];exact Ah (I o)
   ·rw[qY o]
    refine Ag (P (hint+b) (by grind) _ ?_);let N:decide (hint+b < n):=wX ∅
    cases e:p (hint+b)with
    | true=>exact Ah (L ∅ (by simp[N,e]))
    | false=>exact Ah (J ∅ (by simp[N,e]))
  ·let pa:p (hint+a):=by simp at H;exact H.2
   let U:hint+a < n:=by simp at H;exact H.1
   refine fin (hint+a+1) (hint+min b (n - hint)) (by omega) (by omega) (λi G=>mono i (hint+a) ∅ U pa) (λi S O=>?_) (λx l m R l1 l2 I J L=>?_) λl m=>rfl
   ·by_cases X:b < n - hint
    ·grind
    ·grind
   ·by_cases o:l ≥ m
    ·rw[qX o];exact Ah (I o)
    ·rw[qY o]
     refine Ag (P (l+(m - l) / 2) (by grind) _ ?_)
     cases e:p (l+(m - l) / 2)with
     | true=>exact Ah (J (by ext) e)
     | false=>exact Ah (L ∅ e)
 | false=>
  symm;rw[qY An]
  refine YN (q:=λi=>decide (i<=hint)&&not (p (hint - i))) (mx:=hint+1) ∅ (by simp[hq]) (λx a b R Z I J L=>?_) λa b Z H ha hb=>?_
  ·by_cases o:b ≥ hint+1
   ·rw[qX o];exact Ah (I o)
   ·rw[qY o]
    refine Ag (P (hint - b) (by grind) _ ?_);let N:decide (b<=hint):=wX ∅
    cases e:p (hint - b)with
    | true=>exact Ah (J (by ext) (by simp[N,e]))
    | false=>exact Ah (L ∅ (by simp[N,e]))
  ·let pa:p (hint - a)=false:=by simp at H;exact H.2
   let U:a<=hint:=by simp at H;exact H.1
   refine fin (hint+1 - min b (hint+1)) (hint - a) (by omega) (by grind) (λi G=>?_) (λi S O=>?_) (λx l m R l1 l2 I J L=>?_) λl m=>rfl
   ·by_cases X:b < hint+1
    ·let:=hb X
     let N:decide (b<=hint):=wX ∅;rw[N,Bool.true_and]at this;exact mono i (hint - b) (by grind) (by grind) (by simpa using this)
    ·ext
   ·grind
   ·by_cases o:l ≥ m
    ·rw[qX o];exact Ah (I o)
    ·rw[qY o]
     refine Ag (P (l+(m - l) / 2) ∅ _ ?_)
     cases e:p (l+(m - l) / 2)with
     | true=>exact Ah (J ∅ e)
     | false=>exact Ah (L ∅ e)
end
structure MI(R:A9->A9->Prop)(T o ra rb:¬A9):Prop where
 perm:(o++(ra++rb)).Perm T
 srt:o.Pairwise R
 low:∀x∈o,∀y∈ra++rb,R x y
 sa:ra.Pairwise R
 sb:rb.Pairwise R
structure KD(R:A9->A9->Prop)(T r:¬A9):Prop where
 perm:r.Perm T
 srt:r.Pairwise R
section
theorem MI.takeA(m:MI R T o (xs++A) rb)(h:∀x∈xs,∀y∈rb,R x y):MI R T (o++xs) A rb:=by
 let w:=A6.mp m.sa;refine#[by simpa[Ba]using m.perm,A6.mpr #[m.srt,w.1,λx j y l=>m.low x j y (by simp[l])],λx j y l=>?_,w.2.1,m.sb]
 rcases Aj.mp j with j | j
 ·exact m.low x j y (by rcases Aj.mp l with h | h <;> simp[h])
 grind
theorem MI.takeB(m:MI R T o w (xs++rb))(h:∀x∈xs,∀y∈w,R x y):MI R T (o++xs) w rb:=by
 let A:=A6.mp m.sb;refine#[?_,A6.mpr #[m.srt,A.1,λx j y l=>m.low x j y (by simp[l])],λx j y l=>?_,m.sa,A.2.1]
 ·refine EV.trans ?_ m.perm
  rw[Ba];refine GW o ?_;rw[<-Ba,<-Ba];exact RM rb V4
 ·rcases Aj.mp j with j | j
  ·exact m.low x j y (by rcases Aj.mp l with h | h <;> simp[h])
  grind
theorem MI.endA(m:MI R T o j []):KD R T (o++j):=by
 refine#[by simpa using m.perm,A6.mpr #[m.srt,m.sa,λx l y w=>m.low x l y (by simp[w])]]
theorem MI.endB(m:MI R T o [] j):KD R T (o++j):=by
 refine#[by simpa using m.perm,A6.mpr #[m.srt,m.sb,λx l y w=>m.low x l y (by simp[w])]]
theorem MI.last(m:MI R T o j l)(h:∀y∈l,∀x∈j,R y x):KD R T (o++(l++j)):=by
 refine#[(GW o V4).trans m.perm,A6.mpr #[m.srt,A6.mpr #[m.sb,m.sa,h],λx w y A=>m.low x w y (by grind)]]
end
theorem PU(h:i < a.size):a.toList.drop i=ix a i :: a.toList.drop (i+1):=by
 rw[DG (by simpa using h)]
 congr 1
 let:=D3 h;ext
theorem IC{a:Array A9}{i k:Nat}(h:i+k<=a.size):a.toList.drop i=(a.extract i (i+k)).toList++a.toList.drop (i+k):=by
 let e:(a.extract i (i+k)).toList=(a.toList.drop i).take k:=by simp[Vk]
 rw[e,<-List.drop_drop,DK]
theorem mem_ext(h:i+k<=a.size)(l:x∈(a.extract i (i+k)).toList):∃j,j < k/\x=ix a (i+j):=by
 rw[BC,O4]at l;let#[j,m,rfl]:=l;refine#[j,by ext,?_];let:=D3 (xs:=a) (i:=i+j) ∅;rw[getElem?_pos a _ ∅]at this;ext
theorem LJ(a:Array A9)(i:Nat):(a.extract i a.size).toList=a.toList.drop i:=by
 simp[Vk];exact Cb ∅
theorem Fy(l:x∈a.toList.drop i):∃j,i<=j/\j < a.size/\x=ix a j:=by
 let#[k,m,rfl]:=FO.mp l;simp at m;refine#[i+k,by lia,by grind,?_];let:=D3 (xs:=a) (i:=i+k) (by omega);rw[getElem?_pos a _ ∅]at this;ext
theorem O6{j:Type}{M:V3}{A:BR}{E:AE->AK->Prop}{s:AK}{c:Prop}[Decidable c]{a b:StateT A4 Sem j}{Q:j->A4->Prop}{st:A4}(l:c->wpS M A E s a Q st)(hb:Not c->wpS M A E s b Q st):wpS M A E s (if c then a else b) Q st:=by
 lia
theorem Dr{j:Type}{M:V3}{A:BR}{E:AE->AK->Prop}{s:AK}{x y:Nat}{a b:StateT A4 Sem j}{Q:j->A4->Prop}{st:A4}(l:x=y->wpS M A E s a Q st)(hb:Not (x=y)->wpS M A E s b Q st):wpS M A E s (if (x==y) then a else b) Q st:=O6 (λh=>l (by simpa using h)) λh=>hb (by simpa using h)
theorem JO{M:V3}{A:BR}{E:AE->AK->Prop}{s:AK}{l m w:Type}{a b:Nat}{f:Nat->m->StateT l Sem (ForInStep m)}{k:m->StateT l Sem w}{R:w->l->Prop}(I:Nat->m->l->Prop){Q:m->l->Prop}
  (step:∀F,f=F->∀(i:Nat) (c:m) (st:l),a<=i->i < b->I i c st->wpS M A E s (F i c) (λr j=>match r with | .done o=>Q o j | .yield o=>I (i+1) o j) st)
  (fin:∀c st,I (max a b) c st->Q c st) {c:m} {st:l} (init:I a c st) (post:∀K,k=K->∀c j,Q c j->wpS M A E s (K c) R j):wpS M A E s (forIn [a:b] c f >>= k) R st:=Ag (GX (Db I (step f rfl) fin init) (post k rfl))
theorem aW{l j:Type}{M:V3}{A:BR}{E:AE->AK->Prop}{s:AK}{c:j->Prop}{d:∀i,Decidable (c i)}{F t:j->StateT A4 Sem l}{Q:l->A4->Prop}{st:A4}(h:∀i,wpS M A E s (F i) Q st)(m:(∀i,wpS M A E s (F i) Q st)->∀i,wpS M A E s (t i) Q st)(i:j):wpS M A E s (if c i then t i else F i) Q st:=O6 (λG=>m h i) λG=>h i
theorem O5{o l m:Type}{M:V3}{A:BR}{E:AE->AK->Prop}{s:AK}{c:l->m->Prop}{d:∀i j,Decidable (c i j)}{F t:l->m->StateT A4 Sem o}{x:l}{y:m}{Q:o->A4->Prop}{st:A4}(I:l->m->Prop)(h:∀i j,I i j->wpS M A E s (F i j) Q st)(w:(∀i j,I i j->wpS M A E s (F i j) Q st)->c x y->wpS M A E s (t x y) Q st)(B:Not (c x y)->I x y):∀i,x=i->∀j,y=j->wpS M A E s (if c i j then t i j else F i j) Q st:=λG e G f=>e▸f▸O6 (w h) λn=>h x y (B n)
theorem Nj{j:Type}{M:V3}{A:BR}{E:AE->AK->Prop}{s:AK}{c:Prop}{d:Decidable c}{x:j}{Q:ForInStep j->A4->Prop}{st:A4}(h:Q (.done x) st/\Q (.yield x) st):wpS M A E s (if c then pure (.done x)else pure (.yield x)) Q st:=O6 (λG=>Ah h.1) λG=>Ah h.2
section
variable{prog:Ao}{w:A3}{A:BR}{E:AE->AK->Prop}{s:AK}{a₀:Array A9}{κ:Nc}{lt:A9->A9->Bool}
theorem Pk{st:A4}{a:Array A9}{i:Nat}{Q:A9->A4->Prop}(h:i < a.size)(j:Q (ix a i) st):wpS (AY prog w) A E s (elem' a i) Q st:=by
 rw[fD,D3 h];exact Ah j
theorem Cf{j:Type}{st:A4}{a:Array A9}{i:Nat}{f:A9->StateT A4 Sem j}{Q:j->A4->Prop}(h:i < a.size)(l:wpS (AY prog w) A E s (f (ix a i)) Q st):wpS (AY prog w) A E s (elem' a i >>= f) Q st:=Ag (Pk h l)
def mLo:Array A9->Array A9->StateT A4 Sem (Array A9):=sortPriv% PySem.Builtin.mergeLo
def mHi:Array A9->Array A9->StateT A4 Sem (Array A9):=sortPriv% PySem.Builtin.mergeHi
structure Same(a₀:Array A9)(κ:Nc)(st st':A4):Prop where
 good:Good a₀ κ st'
 arr:Ae st'=Ae st
 pend:Af st'=Af st
theorem Same.gal{st j:A4}(h:Same a₀ κ st j)(n:Nat):Same a₀ κ st (II (kindOf j) (Ae j) (Af j) n (IK j)):=#[#[h.good.perm,h.good.kind,h.good.failed],h.arr,h.pend]
abbrev Rl(lt:A9->A9->Bool)(x y:A9):Prop:=lt y x=false
theorem Ud(O:Ord (·∈a₀) lt){a:Array A9}(m:∀i,i < a.size->ix a i∈a₀)(o:a.toList.Pairwise (Rl lt)):∀i j,i<=j->j < a.size->Rl lt (ix a i) (ix a j):=λi j C l=>by
 by_cases e:i=j
 ·subst e;exact O.irr (m i l)
 ·let B:=PU (a:=a) (i:=i) ∅
  let:=o.sublist (List.drop_sublist i a.toList);rw[B]at this;refine(GE.mp this).1 _ ?_;rw[show a.toList.drop (i+1)=(a.extract (i+1) (i+1+(j - (i+1)))).toList++a.toList.drop (i+1+(j - (i+1)))from IC ∅,show i+1+(j - (i+1))=j by grind,PU l];simp
theorem Td(j:∀x∈a.toList,x∈a₀):∀i,i < a.size->ix a i∈a₀:=λi l=>j _ (BC.mpr (Co (D3 l)))
theorem O7{st:A4}{n:Nat}{Q:Unit->A4->Prop}(h:Q () (II (kindOf st) (Ae st) (Af st) n (IK st))):wpS (AY prog w) A E s ((sortPriv% PySem.Builtin.setMinGallop) n) Q st:=Dk h
abbrev GL(M:Array A9->Nat->Nat->Prop)(p q n t:Nat)(o:Array A9)(i j:Nat):Prop:=M o i j/\i+1 < p/\j < q/\t+n<=i+j
theorem fc{st:A4}{a b:Array A9}{Q:Array A9->A4->Prop}(C:J7 prog w A s a₀ κ lt)(O:Ord (·∈a₀) lt)(g:Good a₀ κ st)
  (ma:∀x∈a.toList,x∈a₀) (mb:∀x∈b.toList,x∈a₀) (sa:a.toList.Pairwise (Rl lt)) (sb:b.toList.Pairwise (Rl lt)) (na:0 < a.size) (nb:0 < b.size)
  (h0:∀x∈a.toList,Rl lt (ix b 0) x) (h1:∀y∈b.toList,Rl lt y (ix a (a.size - 1)))
  (h:∀r B,Same a₀ κ st B->KD (Rl lt) (a.toList++b.toList) r.toList->Q r B):wpS (AY prog w) A E s (mLo a b) Q st:=by
 let R:=Td ma;let S:=Td mb;let ua:=Ud O R sa;let ub:=Ud O S sb
 let tr:∀x y z:A9,x∈a₀->y∈a₀->z∈a₀->Rl lt x y->Rl lt y z->Rl lt x z:=λx y z hx hy hz h1 h2=>O.ntr x y z hx hy hz h1 h2
 letI M (out:Array A9) (l ib:Nat):Prop:=MI (Rl lt) (a.toList++b.toList) out.toList (a.toList.drop l) (b.toList.drop ib)
 let tA:∀out l ib,M out l ib->l < a.size->(∀j,ib<=j->j < b.size->Rl lt (ix a l) (ix b j))->M (out.push (ix a l)) (l+1) ib:=λout l ib m hia hr=>by
  let N:MI (Rl lt) (a.toList++b.toList) out.toList ([ix a l]++a.toList.drop (l+1)) (b.toList.drop ib):=by rw[Ew,<-PU hia];exact m
  let:=N.takeA λx hx y hy=>by
   let#[j,P,H,rfl]:=Fy hy;rw[Av.mp hx];exact hr j P H
  simpa[M]using this
 let tB:∀out l ib,M out l ib->ib < b.size->(∀j,l<=j->j < a.size->Rl lt (ix b ib) (ix a j))->M (out.push (ix b ib)) l (ib+1):=λout l ib m hib hr=>by
  let N:MI (Rl lt) (a.toList++b.toList) out.toList (a.toList.drop l) ([ix b ib]++b.toList.drop (ib+1)):=by rw[Ew,<-PU hib];exact m
  let:=N.takeB λx hx y hy=>by
   let#[j,P,H,rfl]:=Fy hy;rw[Av.mp hx];exact hr j P H
  simpa[M]using this
 let sA:∀out l ib k,M out l ib->l+k<=a.size->(∀i j,i < k->ib<=j->j < b.size->Rl lt (ix a (l+i)) (ix b j))->M (out++a.extract l (l+k)) (l+k) ib:=λout l ib k m hk hr=>by
  let N:MI (Rl lt) (a.toList++b.toList) out.toList ((a.extract l (l+k)).toList++a.toList.drop (l+k)) (b.toList.drop ib):=by rw[<-IC hk];exact m
  let:=N.takeA λx hx y hy=>by
   let#[j,P,H,rfl]:=Fy hy;let#[i,i1,rfl]:=mem_ext hk hx;exact hr i j i1 P H
  grind
 let sB:∀out l ib k,M out l ib->ib+k<=b.size->(∀i j,i < k->l<=j->j < a.size->Rl lt (ix b (ib+i)) (ix a j))->M (out++b.extract ib (ib+k)) l (ib+k):=λout l ib k m hk hr=>by
  let N:MI (Rl lt) (a.toList++b.toList) out.toList (a.toList.drop l) ((b.extract ib (ib+k)).toList++b.toList.drop (ib+k)):=by rw[<-IC hk];exact m
  let:=N.takeB λx hx y hy=>by
   let#[j,P,H,rfl]:=Fy hy;let#[i,i1,rfl]:=mem_ext hk hx;exact hr i j i1 P H
  grind
 let eB:∀out l ib,M out l ib->ib=b.size->KD (Rl lt) (a.toList++b.toList) (out++a.extract l a.size++b.extract ib b.size).toList:=λout l ib m e=>by
  subst e
  let N:MI (Rl lt) (a.toList++b.toList) out.toList (a.toList.drop l) []:=by
   let:b.toList.drop b.size=[]:=by simp
   rw[<-this];exact m
  rw[EQ,EQ,LJ,LJ,show b.toList.drop b.size=[] by simp,BP];exact N.endA
 let eA:∀out l ib,M out l ib->l=a.size->KD (Rl lt) (a.toList++b.toList) (out++a.extract l a.size++b.extract ib b.size).toList:=λout l ib m e=>by
  subst e
  let N:MI (Rl lt) (a.toList++b.toList) out.toList [] (b.toList.drop ib):=by
   let:a.toList.drop a.size=[]:=by simp
   rw[<-this];exact m
  rw[EQ,EQ,LJ,LJ,show a.toList.drop a.size=[] by simp,BP];exact N.endB
 let eL:∀out l ib,M out l ib->l+1=a.size->KD (Rl lt) (a.toList++b.toList) (out++b.extract ib b.size++a.extract l a.size).toList:=λout l ib m e=>by
  let:=m.last λy hy x hx=>by
   let#[j,P,H,rfl]:=Fy hx;let#[i,i1,i2,rfl]:=Fy hy
   let:j=a.size - 1:=by lia
   grind
  rw[EQ,EQ,LJ,LJ,Ba];exact this
 let m0:M #[] 0 0:=#[by simp,by simp,by simp,by simpa using sa,by simpa using sb]
 let m1:M [ix b 0].toArray 0 1:=by
  let:=tB #[] 0 0 m0 nb λj _ hj=>h0 _ (BC.mpr (Co (D3 hj)))
  simpa using this
 letI F (r:Array A9):Prop:=KD (Rl lt) (a.toList++b.toList) r.toList
 refine(Ag (JN ?_):wpS _ _ _ _ (mLo a b) Q st);refine Cf nb ?_;refine(?_)
 refine Dr (λc1=>Ah (h _ st #[g,rfl,rfl] (eB _ _ _ m1 c1))) λc1=>?_
 refine Dr (λc2=>Ah (h _ st #[g,rfl,rfl] (eL _ _ _ m1 c2))) λc2=>?_
 refine Ag (HJ ?_)
 refine JO (I:=λx c B=>Same a₀ κ st B/\∃out l ib mg,c=(none,out,l,ib,mg)/\GL M a.size b.size x 1 out l ib)
  (Q:=λc B=>Same a₀ κ st B/\∃r z,c=(!r,z)/\F r) ?step ?fin ?init ?post
 case init=>exact#[#[g,rfl,rfl],_,_,_,_,rfl,m1,by lia,by lia,by decide]
 case fin=>
  rintro c B ⟨_,out,l,ib,mg,_,_,k1,k2,k3⟩
  lia
 case post=>
  rintro F hF c B ⟨s1,r,z,rfl,f⟩;subst hF;exact Ah (h r B s1 f)
 case step=>
  rintro G hG x c tu _ _ ⟨s1,out,l,ib,mg,rfl,m,k1,k2,k3⟩;subst hG
  refine JO (I:=λy c B=>B=tu/\∃U J ui X Y,c=(none,U,J,ui,X,Y)/\GL M a.size b.size y (l+ib) U J ui)
   (Q:=λc B=>B=tu/\((∃r z,c=(!r,z)/\F r)∨∃U J ui X Y,c=(none,U,J,ui,X,Y)/\GL M a.size b.size 1 (l+ib) U J ui)) ?step1 ?fin1 ?init1 ?post1
  case init1=>exact#[rfl,out,l,ib,0,0,rfl,m,k1,k2,by ext]
  case fin1=>
   rintro c B ⟨rfl,U,J,ui,X,Y,rfl,N,q1,q2,q3⟩;exact#[rfl,.inr #[U,J,ui,X,Y,rfl,N,q1,q2,by lia]]
  case step1=>
   rintro G hG y c B _ _ ⟨rfl,U,J,ui,X,Y,rfl,N,q1,q2,q3⟩;subst hG
   let q4:J < a.size:=by lia
   refine Cf q2 (Cf q4 (Ag (Pj C s1.good (S _ q2) (R _ q4) ?_)))
   cases e:lt (ix b ui) (ix a J)with
   | true=>
    let Z:=tB U J ui N q2 λj P H=>tr _ _ _ (S _ q2) (R _ q4) (R _ H) (O.asym _ _ (S _ q2) (R _ q4) e) (ua J j P H)
    refine Cf q2 (Dr (λd=>Ah #[rfl,.inl #[_,_,rfl,eB _ _ _ Z d]]) λd=>Nj ?_)
    let z:ui+1 < b.size/\l+ib+(y+1)<=J+(ui+1):=by lia
    exact#[#[rfl,.inr #[_,J,ui+1,_,_,rfl,Z,q1,z.1,by lia]],rfl,_,J,ui+1,_,_,rfl,Z,q1,z]
   | false=>
    let Z:=tA U J ui N q4 λj P H=>tr _ _ _ (R _ q4) (S _ q2) (S _ H) e (ub ui j P H)
    refine Cf q4 (Dr (λd=>Ah #[rfl,.inl #[_,_,rfl,eL _ _ _ Z d]]) λd=>Nj ?_)
    let z:J+1+1 < a.size/\l+ib+(y+1)<=J+1+ui:=by lia
    exact#[#[rfl,.inr #[_,J+1,ui,_,_,rfl,Z,z.1,q2,by lia]],rfl,_,J+1,ui,_,_,rfl,Z,z.1,q2,z.2]
  case post1=>
   rintro G hG c B ⟨rfl,⟨r,z,rfl,f⟩ | ⟨U,J,ui,X,Y,rfl,N⟩⟩ <;> subst hG
   ·exact Ah #[s1,_,_,rfl,f]
   refine Ag (JN ?_)
   refine JO (I:=λy c mi=>Same a₀ κ st mi/\∃t8 L uo uN X Y,c=(none,t8,L,uo,uN,X,Y)/\GL M a.size b.size 1 (l+ib) t8 L uo)
    (Q:=λc mi=>Same a₀ κ st mi/\((∃r z,c=(!r,z)/\F r)∨∃t8 L uo uN X Y,c=(none,t8,L,uo,uN,X,Y)/\GL M a.size b.size 1 (l+ib) t8 L uo)) ?step2 ?fin2 ?init2 ?post2
   case init2=>exact#[s1,U,J,ui,mg+1,X,Y,rfl,N]
   case fin2=>exact λc mi h=>#[h.1,.inr h.2]
   case post2=>
    rintro G hG c mi ⟨s2,⟨r,z,rfl,f⟩ | ⟨t8,L,uo,uN,ac2,bc2,rfl,Z,p1,p2,p3⟩⟩ <;> subst hG
    ·exact Ah #[s2,_,_,rfl,f]
    ·exact Ag (O7 (Ah #[s2.gal _,t8,L,uo,uN+1,rfl,Z,p1,p2,by lia]))
   case step2=>
    rintro G hG y c mi _ _ ⟨s2,t8,L,uo,uN,ac2,bc2,rfl,Z,p1,p2,p3⟩;subst hG;symm
    revert uN
    refine aW (λΙ=>?_) λt i=>t _
    refine Ag (O7 (Cf p2 ?_));let s3:=s2.gal Ι;refine Ag (Gu C s3.good (λi=>not (lt (ix b uo) (ix a (L+i)))) (S _ p2) (λi hi=>#[by lia,R _ ∅]) (λi hi=>rfl) (λi j yB hj e=>?_) (by grind) λk hk k1 k2=>?_)
    ·let e':lt (ix b uo) (ix a (L+j))=false:=by simpa using e
     let:=tr _ _ _ (R _ ∅) (R _ ∅) (S _ p2) (ua (L+i) (L+j) (by ext) ∅) e'
     ext
    let far:∀j,L+k<=j->j < a.size->Rl lt (ix b uo) (ix a j):=λj P H=>by
     let:=k2 (j - L) ∅ ∅;rw[show L+(j - L)=j by lia]at this;exact O.asym _ _ (S _ p2) (R _ H) (by ext)
    let m5:=sA t8 L uo k Z ∅ λi j hi P H=>tr _ _ _ (R _ ∅) (S _ p2) (S _ H) (by simpa using k1 i hi) (ub uo j P H)
    generalize ho:t8=o;generalize hi:L=i
    revert o i
    refine O5 (λo i=>M o i uo/\i+1 < a.size/\i=L+k) ?_ (λt Κ=>?_) λΚ=>#[Z,p1,by ext]
    case refine_2=>
     refine Dr (λd=>Ah #[s3,.inl #[_,_,rfl,eL _ _ _ m5 d]]) λd1=>?_
     exact Dr (λd=>Ah #[s3,.inl #[_,_,rfl,eA _ _ _ m5 d]]) λd2=>t _ _ #[m5,by grind,rfl]
    rintro xa T ⟨m3,c1,hi3⟩
    let c3:l+ib+1<=T+uo:=by lia
    let c4:T < a.size:=by lia
    let m4:=tB _ _ _ m3 p2 λj h=>far j (hi3▸h)
    refine Cf p2 (Dr (λd=>Ah #[s3,.inl #[_,_,rfl,eB _ _ _ m4 d]]) λd=>Cf c4 ?_)
    let c5:uo+1 < b.size:=by lia
    let c6:l+ib+1+1<=T+(uo+1):=by grind
    generalize xa.push (ix b uo)=out4 at m4 ⊢;generalize uo+1=ib4 at m4 c5 c6 ⊢;refine Ag (Gu C s3.good (λi=>lt (ix b (ib4+i)) (ix a T)) (R _ c4) (λi hi=>#[by lia,S _ ∅]) (λi hi=>rfl) (λi j yB hj e=>?_) (by grind) λk3 yC k4 k5=>?_)
    ·cases e2:lt (ix b (ib4+i)) (ix a T)with
     | true=>rfl
     | false=>
      let:=tr _ _ _ (R _ c4) (S _ ∅) (S _ ∅) e2 (ub (ib4+i) (ib4+j) ∅ ∅)
      ext
    let Λ:∀j,ib4+k3<=j->j < b.size->Rl lt (ix a T) (ix b j):=λj P H=>by
     let:=k5 (j - ib4) ∅ ∅;rwa [show ib4+(j - ib4)=j by lia]at this
    let m6:=sB _ T ib4 k3 m4 ∅ λi j hi P H=>tr _ _ _ (S _ ∅) (R _ c4) (R _ H) (O.asym _ _ (S _ ∅) (R _ c4) (k4 i hi)) (ua T j P H)
    generalize ho:out4=o;generalize hi:ib4=i
    revert o i
    refine O5 (λo j=>M o T j/\j < b.size/\j=ib4+k3) ?_ (λt yC=>Dr (λd=>Ah #[s3,.inl #[_,_,rfl,eB _ _ _ m6 d]]) λd=>t _ _ #[m6,by grind,rfl]) λyC=>#[m4,c5,by lia]
    rintro Μ zC ⟨m5,c7,hi5⟩
    let m7:=tA _ _ _ m5 c4 λj h=>Λ j (hi5▸h)
    refine Cf c4 (Dr (λd=>Ah #[s3,.inl #[_,_,rfl,eL _ _ _ m7 d]]) λd=>Nj ?_)
    let z:T+1+1 < a.size/\zC < b.size/\l+ib+1<=T+1+zC:=by lia
    exact#[#[s3,.inr #[_,T+1,zC,_,_,_,rfl,m7,z]],s3,_,T+1,zC,_,_,_,rfl,m7,z]
end
theorem MI.last2(m:MI R T o j l)(h:∀x∈j,∀y∈l,R x y):KD R T (o++(j++l)):=by
 refine#[m.perm,A6.mpr #[m.srt,A6.mpr #[m.sa,m.sb,h],λx w y A=>m.low x w y A]]
theorem KD.rev(f:KD (λx y=>Rl lt y x) T r):KD (Rl lt) T r.reverse:=#[r.reverse_perm.trans f.perm,V5.mpr f.srt]
theorem Xo(h:i < a.size):(a.toList.take (i+1)).reverse=ix a i :: (a.toList.take i).reverse:=by
 let:=D3 h;rw[getElem?_pos a i h]at this;rw[OM,show a.toList[i]?=!ix a i by ext];simp
theorem Uf{a:Array A9}{i n:Nat}(h:i<=n)(j:n<=a.size):(a.toList.take n).reverse=(a.extract i n).toList.reverse++(a.toList.take i).reverse:=by
 let e:(a.extract i n).toList=(a.toList.take n).drop i:=by simp[Vk,List.drop_take]
 rw[e,<-List.reverse_append]
 congr 1
 let:=DK i (a.toList.take n)
 grind
theorem Fx(l:x∈(a.toList.take n).reverse):∃j,j < n/\j < a.size/\x=ix a j:=by
 rw[EU]at l;let#[k,m,rfl]:=FO.mp l;simp at m;refine#[k,by grind,by grind,?_];let:=D3 (xs:=a) (i:=k) ∅;rw[getElem?_pos a _ ∅]at this;ext
theorem U7(l:x∈(a.extract i n).toList.reverse):∃j,i<=j/\j < n/\j < a.size/\x=ix a j:=by
 rw[EU,BC,O4]at l;let#[j,m,rfl]:=l;refine#[i+j,by ext,by lia,by lia,?_];let:=D3 (xs:=a) (i:=i+j) (by omega);rw[getElem?_pos a _ ∅]at this;ext
theorem pJ(a:Array A9)(n:Nat):(a.extract 0 n).toList=a.toList.take n:=by ext
section
abbrev GH(M:Array A9->Nat->Nat->Prop)(p q n t:Nat)(o:Array A9)(i j:Nat):Prop:=M o i j/\0 < i/\1 < j/\i<=p/\j<=q/\i+j+n<=t
theorem ff{st:A4}{a b:Array A9}{Q:Array A9->A4->Prop}(C:J7 prog w A s B κ lt)(O:Ord (·∈B) lt)(g:Good B κ st)
  (ma:∀x∈a.toList,x∈B) (mb:∀x∈b.toList,x∈B) (sa:a.toList.Pairwise (Rl lt)) (sb:b.toList.Pairwise (Rl lt)) (pa:0 < a.size) (pb:0 < b.size)
  (h0:∀x∈a.toList,Rl lt (ix b 0) x) (h1:∀y∈b.toList,Rl lt y (ix a (a.size - 1)))
  (h:∀r H,Same B κ st H->KD (Rl lt) (a.toList++b.toList) r.toList->Q r H):wpS (AY prog w) A E s (mHi a b) Q st:=by
 let R:=Td ma;let S:=Td mb;let ua:=Ud O R sa;let ub:=Ud O S sb
 let tr:∀x y z:A9,x∈B->y∈B->z∈B->Rl lt x y->Rl lt y z->Rl lt x z:=λx y z hx hy hz h1 h2=>O.ntr x y z hx hy hz h1 h2
 letI M (out:Array A9) (l nb:Nat):Prop:=MI (λx y=>Rl lt y x) (a.toList++b.toList) out.toList (a.toList.take l).reverse (b.toList.take nb).reverse
 let tA0:∀out l nb,M out (l+1) nb->l < a.size->nb<=b.size->(∀j,j < nb->Rl lt (ix b j) (ix a l))->M (out.push (ix a l)) l nb:=λout l nb m vZ w5 hr=>by
  let P:MI (λx y=>Rl lt y x) (a.toList++b.toList) out.toList ([ix a l]++(a.toList.take l).reverse) (b.toList.take nb).reverse:=by rw[Ew,<-Xo vZ];exact m
  let:=P.takeA λx hx y hy=>by
   let#[j,T,j2,rfl]:=Fx hy;rw[Av.mp hx];exact hr j T
  simpa[M]using this
 let tB0:∀out l nb,M out l (nb+1)->nb < b.size->l<=a.size->(∀j,j < l->Rl lt (ix a j) (ix b nb))->M (out.push (ix b nb)) l nb:=λout l nb m w5 vZ hr=>by
  let P:MI (λx y=>Rl lt y x) (a.toList++b.toList) out.toList (a.toList.take l).reverse ([ix b nb]++(b.toList.take nb).reverse):=by rw[Ew,<-Xo w5];exact m
  let:=P.takeB λx hx y hy=>by
   let#[j,T,j2,rfl]:=Fx hy;rw[Av.mp hx];exact hr j T
  simpa[M]using this
 let tA:∀out l nb,M out l nb->0 < l->l<=a.size->nb<=b.size->(∀j,j < nb->Rl lt (ix b j) (ix a (l - 1)))->M (out.push (ix a (l - 1))) (l - 1) nb:=λout l nb m h0 vZ w5 hr=>
  tA0 out (l - 1) nb (by rw[show l - 1+1=l by lia];exact m) (by grind) w5 hr
 let tB:∀out l nb,M out l nb->0 < nb->nb<=b.size->l<=a.size->(∀j,j < l->Rl lt (ix a j) (ix b (nb - 1)))->M (out.push (ix b (nb - 1))) l (nb - 1):=λout l nb m h0 w5 vZ hr=>
  tB0 out l (nb - 1) (by rw[show nb - 1+1=nb by lia];exact m) ∅ vZ hr
 let sA:∀out l nb k,M out l nb->k<=l->l<=a.size->nb<=b.size->(∀i j,k<=i->i < l->j < nb->Rl lt (ix b j) (ix a i))->M (out++(a.extract k l).reverse) k nb:=λout l nb k m hk vZ w5 hr=>by
  let P:MI (λx y=>Rl lt y x) (a.toList++b.toList) out.toList ((a.extract k l).toList.reverse++(a.toList.take k).reverse) (b.toList.take nb).reverse:=by rw[<-Uf hk vZ];exact m
  let:=P.takeA λx hx y hy=>by
   let#[j,T,j2,rfl]:=Fx hy;let#[i,i1,i2,i3,rfl]:=U7 hx;exact hr i j i1 i2 T
  show MI _ _ (out++(a.extract k l).reverse).toList _ _;ext
 let sB:∀out l nb k,M out l nb->k<=nb->nb<=b.size->l<=a.size->(∀i j,k<=i->i < nb->j < l->Rl lt (ix a j) (ix b i))->M (out++(b.extract k nb).reverse) l k:=λout l nb k m hk w5 vZ hr=>by
  let P:MI (λx y=>Rl lt y x) (a.toList++b.toList) out.toList (a.toList.take l).reverse ((b.extract k nb).toList.reverse++(b.toList.take k).reverse):=by rw[<-Uf hk w5];exact m
  let:=P.takeB λx hx y hy=>by
   let#[j,T,j2,rfl]:=Fx hy;let#[i,i1,i2,i3,rfl]:=U7 hx;exact hr i j i1 i2 T
  show MI _ _ (out++(b.extract k nb).reverse).toList _ _;ext
 let eA:∀out l nb,M out l nb->l=0->KD (Rl lt) (a.toList++b.toList) (a.extract 0 l++b.extract 0 nb++out.reverse).toList:=λout l nb m e=>by
  subst e
  let P:MI (λx y=>Rl lt y x) (a.toList++b.toList) out.toList [] (b.toList.take nb).reverse:=by simpa[M]using m
  let:=P.endB.rev;ext
 let eB:∀out l nb,M out l nb->nb=0->KD (Rl lt) (a.toList++b.toList) (a.extract 0 l++b.extract 0 nb++out.reverse).toList:=λout l nb m e=>by
  subst e
  let P:MI (λx y=>Rl lt y x) (a.toList++b.toList) out.toList (a.toList.take l).reverse []:=by simpa[M]using m
  let:=P.endA.rev;ext
 let eF:∀out l nb,M out l nb->nb=1->KD (Rl lt) (a.toList++b.toList) (b.extract 0 nb++a.extract 0 l++out.reverse).toList:=λout l nb m e=>by
  let:=m.last2 λx hx y hy=>by
   let#[j,T,j2,rfl]:=Fx hx;let#[i,i1,i2,rfl]:=Fx hy
   let:i=0:=by ext
   subst this;exact h0 _ (BC.mpr (Co (D3 j2)))
  let:=this.rev;ext
 let m0:M #[] a.size b.size:=by
  refine#[?_,by simp,by simp,?_,?_]
  ·rw[Cb ∅,Cb ∅]
   simpa using EV.append a.toList.reverse_perm b.toList.reverse_perm
  ·grind
  ·grind
 let m1:M [ix a (a.size - 1)].toArray (a.size - 1) b.size:=by
  let:=tA #[] a.size b.size m0 pa (AM _) (AM _) λj hj=>h1 _ (BC.mpr (Co (D3 hj)))
  simpa using this
 letI F (r:Array A9):Prop:=KD (Rl lt) (a.toList++b.toList) r.toList
 refine(Ag (JN ?_):wpS _ _ _ _ (mHi a b) Q st);refine Cf (i:=a.size - 1) (by omega) ?_;refine(show wpS (AY prog w) A E s (if (a.size - 1==0) then _ else _) Q st from ?_)
 refine Dr (λc1=>Ah (h _ st #[g,rfl,rfl] (eA _ _ _ m1 c1))) λc1=>?_
 refine Dr (λc2=>Ah (h _ st #[g,rfl,rfl] (eF _ _ _ m1 c2))) λc2=>?_
 refine Ag (HJ ?_)
 refine JO (I:=λx c H=>Same B κ st H/\∃out l nb mg,c=(none,l,nb,out,mg)/\GH M a.size b.size (1+x) (a.size+b.size) out l nb)
  (Q:=λc H=>Same B κ st H/\∃r z,c=(!r,z)/\F r) ?step ?fin ?init ?post
 case init=>exact#[#[g,rfl,rfl],_,a.size - 1,b.size,_,rfl,m1,by lia,by lia,by ext,by ext,by lia]
 case fin=>
  rintro c H ⟨_,out,l,nb,mg,_,_,k1,k2,k3,k4,k5⟩
  lia
 case post=>
  rintro G hG c H ⟨s1,r,z,rfl,f⟩;subst hG;exact Ah (h r H s1 f)
 case step=>
  rintro G hG x c tu _ _ ⟨s1,out,l,nb,mg,rfl,m,k1,k2,k3,k4,k5⟩;subst hG
  refine JO (I:=λy c H=>H=tu/\∃X J L Y Z,c=(none,J,L,X,Y,Z)/\GH M a.size b.size y (l+nb) X J L)
   (Q:=λc H=>H=tu/\((∃r z,c=(!r,z)/\F r)∨∃X J L Y Z,c=(none,J,L,X,Y,Z)/\GH M a.size b.size 1 (l+nb) X J L)) ?step1 ?fin1 ?init1 ?post1
  case init1=>exact#[rfl,out,l,nb,0,0,rfl,m,k1,k2,k3,k4,by ext]
  case fin1=>
   rintro c H ⟨rfl,X,J,L,Y,Z,rfl,P,q1,q2,q3,q4,q5⟩;exact#[rfl,.inr #[X,J,L,Y,Z,rfl,P,q1,q2,q3,q4,by grind]]
  case step1=>
   rintro G hG y c H _ _ ⟨rfl,X,J,L,Y,Z,rfl,P,q1,q2,q3,q4,q5⟩;subst hG
   let q6:J - 1 < a.size:=by lia
   let q7:L - 1 < b.size:=by grind
   refine Cf q7 (Cf q6 (Ag (Pj C s1.good (S _ q7) (R _ q6) ?_)))
   cases e:lt (ix b (L - 1)) (ix a (J - 1))with
   | true=>
    let m2:=tA X J L P q1 q3 q4 λj T=>tr _ _ _ (S _ ∅) (S _ q7) (R _ q6) (ub j (L - 1) (by grind) q7) (O.asym _ _ (S _ q7) (R _ q6) e)
    refine Cf q6 (Dr (λd=>Ah #[rfl,.inl #[_,_,rfl,eA _ _ _ m2 d]]) λd=>Nj ?_)
    let z:0 < J - 1/\J - 1<=a.size/\J - 1+L+(y+1)<=l+nb:=by lia
    exact#[#[rfl,.inr #[_,J - 1,L,_,_,rfl,m2,z.1,q2,z.2.1,q4,by lia]],rfl,_,J - 1,L,_,_,rfl,m2,z.1,q2,z.2.1,q4,z.2.2]
   | false=>
    let m2:=tB X J L P ∅ q4 q3 λj T=>tr _ _ _ (R _ ∅) (R _ q6) (S _ q7) (ua j (J - 1) (by grind) q6) e
    refine Cf q7 (Dr (λd=>Ah #[rfl,.inl #[_,_,rfl,eF _ _ _ m2 d]]) λd=>Nj ?_)
    let z:1 < L - 1/\L - 1<=b.size/\J+(L - 1)+(y+1)<=l+nb:=by lia
    exact#[#[rfl,.inr #[_,J,L - 1,_,_,rfl,m2,q1,z.1,q3,z.2.1,by lia]],rfl,_,J,L - 1,_,_,rfl,m2,q1,z.1,q3,z.2.1,z.2.2]
  case post1=>
   rintro G hG c H ⟨rfl,⟨r,z,rfl,f⟩ | ⟨X,J,L,Y,Z,rfl,P⟩⟩ <;> subst hG
   ·exact Ah #[s1,_,_,rfl,f]
   refine Ag (JN ?_)
   refine JO (I:=λy c mi=>Same B κ st mi/\∃t8 uO N uN Y Z,c=(none,uO,N,t8,uN,Y,Z)/\GH M a.size b.size 1 (l+nb) t8 uO N)
    (Q:=λc mi=>Same B κ st mi/\((∃r z,c=(!r,z)/\F r)∨∃t8 uO N uN Y Z,c=(none,uO,N,t8,uN,Y,Z)/\GH M a.size b.size 1 (l+nb) t8 uO N)) ?step2 ?fin2 ?init2 ?post2
   case init2=>exact#[s1,X,J,L,mg+1,Y,Z,rfl,P]
   case fin2=>exact λc mi h=>#[h.1,.inr h.2]
   case post2=>
    rintro G hG c mi ⟨s2,⟨r,z,rfl,f⟩ | ⟨t8,uO,N,uN,ac2,bc2,rfl,m2,p1,p2,p3,p4,p5⟩⟩ <;> subst hG
    ·exact Ah #[s2,_,_,rfl,f]
    ·exact Ag (O7 (Ah #[s2.gal _,t8,uO,N,uN+1,rfl,m2,p1,p2,p3,p4,by lia]))
   case step2=>
    rintro G hG y c mi _ _ ⟨s2,t8,uO,N,uN,ac2,bc2,rfl,m2,p1,p2,p3,p4,p5⟩;subst hG;symm
    revert uN
    refine aW (λΙ=>?_) λt i=>t _
    let s3:=s2.gal Ι
    let p6:N - 1 < b.size:=by lia
    refine Ag (O7 (Cf p6 ?_));refine Ag (Gu (base:=0) (n:=uO) (hint:=uO - 1) (arr:=a) (key:=ix b (N - 1)) (left:=false) C s3.good (λi=>not (lt (ix b (N - 1)) (ix a (0+i)))) (S _ p6) (λi hi=>#[by lia,R _ ∅]) (λi hi=>rfl) (λi j yB hj e=>?_) ∅ λk hk k1 k2=>?_)
    ·let e':lt (ix b (N - 1)) (ix a (0+j))=false:=by simpa using e
     let:=tr _ _ _ (R _ ∅) (R _ ∅) (S _ p6) (ua (0+i) (0+j) (by ext) ∅) e'
     ext
    let near:∀j,j < k->Rl lt (ix a j) (ix b (N - 1)):=λj T=>by
     grind
    let m5:=sA t8 uO N k m2 hk p3 p4 λi j i1 i2 T=>by
     let:=k2 i i1 i2;rw[Vy]at this;exact tr _ _ _ (S _ ∅) (S _ p6) (R _ ∅) (ub j (N - 1) ∅ p6) (O.asym _ _ (S _ p6) (R _ ∅) ∅)
    symm;generalize hk6:uO - k=k6;generalize ho:t8=o;generalize hi:uO=i
    revert o i
    refine O5 (λo i=>M o i N/\0 < i/\i=k) ?_ (λt Κ=>Dr (λd=>Ah #[s3,.inl #[_,_,rfl,eA _ _ _ m5 d]]) λd=>t (t8++(a.extract k uO).reverse) k #[m5,by lia,rfl]) λΚ=>#[m2,p1,by grind]
    rintro xa U ⟨m3,c1,hi3⟩
    let c4:U - 1 < a.size:=by grind
    let c5:U<=uO:=by ext
    let m4:=tB _ _ _ m3 ∅ p4 ∅ λj h=>near j (hi3▸h)
    refine Cf p6 (Dr (λd=>Ah #[s3,.inl #[_,_,rfl,eF _ _ _ m4 d]]) λd=>Cf c4 ?_)
    let c6:1 < N - 1/\N - 1 < b.size/\U+(N - 1)+2<=l+nb:=by lia
    generalize xa.push (ix b (N - 1))=out4 at m4 ⊢;generalize N - 1=nb4 at m4 c6 ⊢;let#[c6,c7,c8]:=c6;refine Ag (Gu (base:=0) (n:=nb4) (hint:=nb4 - 1) (arr:=b) (key:=ix a (U - 1)) (left:=true) C s3.good (λi=>lt (ix b (0+i)) (ix a (U - 1))) (R _ c4) (λi hi=>#[by lia,S _ ∅]) (λi hi=>rfl) (λi j yB hj e=>?_) ∅ λk3 yC k4 k5=>?_)
    ·cases e2:lt (ix b (0+i)) (ix a (U - 1))with
     | true=>rfl
     | false=>
      let:=tr _ _ _ (R _ c4) (S _ ∅) (S _ ∅) e2 (ub (0+i) (0+j) ∅ ∅)
      ext
    let yD:∀j,j < k3->Rl lt (ix b j) (ix a (U - 1)):=λj T=>by
     let:=k4 j T;rw[Vy]at this;exact O.asym _ _ (S _ ∅) (R _ c4) this
    let m6:=sB _ U nb4 k3 m4 yC ∅ ∅ λi j i1 i2 T=>by
     let:=k5 i i1 i2;rw[Vy]at this;exact tr _ _ _ (R _ ∅) (R _ c4) (S _ ∅) (ua j (U - 1) (by grind) c4) this
    symm;generalize hk7:nb4 - k3=k7;generalize ho:out4=o;generalize hi:nb4=i
    revert o i
    refine O5 (λo j=>M o U j/\1 < j/\j<=nb4/\j=k3) ?_ (λt hk4=>?_) λhk4=>#[m4,c6,AM _,by lia]
    case refine_2=>
     refine Dr (λd=>Ah #[s3,.inl #[_,_,rfl,eF _ _ _ m6 d]]) λd2=>?_
     exact Dr (λd=>Ah #[s3,.inl #[_,_,rfl,eB _ _ _ m6 d]]) λd4=>t (out4++(b.extract k3 nb4).reverse) k3 #[m6,by lia,by ext,rfl]
    rintro Μ yE ⟨m5,c9,c10,hi5⟩
    let m7:=tA _ _ _ m5 c1 ∅ (by grind) λj h=>yD j (hi5▸h)
    refine Cf c4 (Dr (λd=>Ah #[s3,.inl #[_,_,rfl,eA _ _ _ m7 d]]) λd=>Nj ?_)
    let z:0 < U - 1/\1 < yE/\U - 1<=a.size/\yE<=b.size/\U - 1+yE+1<=l+nb:=by grind
    exact#[#[s3,.inr #[_,U - 1,yE,_,_,_,rfl,m7,z]],s3,_,U - 1,yE,_,_,_,rfl,m7,z]
end
def wr(arr:Array A9)(m:Nat)(l:¬(A9×Nat)):Array A9:=l.foldl (λa (x:A9×Nat)=>match x with | (p,j)=>a.setIfInBounds (m+j) p) arr
theorem Sn(j:Nat):∀(l:¬A9) (k:Nat) (arr:Array A9),j+k+-l<=arr.size->(wr arr j (l.zipIdx k)).toList=arr.toList.take (j+k)++l++arr.toList.drop (j+k+-l)
 | [],k,arr,h=>by simp[wr]
 | x :: l,k,arr,h=>by
  rw[Au]at h;let e:wr arr j ((x :: l).zipIdx k)=wr (arr.setIfInBounds (j+k) x) j (l.zipIdx (k+1)):=rfl;rw[e,Sn j l (k+1) _ (by simp;lia)]
  let m:j+k < -arr.toList:=by simp;lia
  rw[RP,Au,show j+(k+1)=j+k+1 by rfl];rw[OM,List.take_set_of_le (AM _),Ee m,List.drop_set_of_lt ∅];simp[show j+k+1+-l=j+k+(-l+1) by lia]
theorem ix_list(a:Array A9)(i:Nat):ix a i=(a.toList[i]?).getD (.none,.none):=by
 unfold ix;ext
set_option tactic.hygienic true in
theorem dG(h:sa+m.size<=arr.size)(i:Nat):ix (wr arr sa m.toList.zipIdx) i=if i < sa then ix arr i else if i < sa+m.size then ix m (i - sa)else ix arr i:=by
 let e:=Sn sa m.toList 0 arr (by simpa using h);rw[ix_list,show m.toList.zipIdx=m.toList.zipIdx 0 from rfl,e,pU]
 let l:-arr.toList.take sa=sa:=by simp;lia
 split
 ·rename_i j
  rw[Ba,Bq (by ext),T9 j,ix_list]
 ·rename_i j
  split
  ·rename_i o
   rw[Ba,BU (by ext),l,Bq (by simp;grind),ix_list]
  ·rename_i o
   rw[BU (by simp;ext),Z8,ix_list];ext
theorem iY{arr m:Array A9}{j:Nat}(h:j+m.size<=arr.size)(l:m.toList.Perm (arr.extract j (j+m.size)).toList):(wr arr j m.toList.zipIdx).Perm arr:=by
 rw[FC];let e:=Sn j m.toList 0 arr (by simpa using h);rw[show m.toList.zipIdx=m.toList.zipIdx 0 from rfl,e,pU]
 let o:arr.toList=arr.toList.take j++(arr.extract j (j+m.size)).toList++arr.toList.drop (j+-m.toList):=by
  rw[Ba,Ad,<-IC h,DK]
 conv=>rhs;rw[o]
 exact RM _ (GW _ l)
theorem Wv{a:Array A9}{lo hi i:Nat}(h:hi<=a.size)(j:i < hi - lo):ix (a.extract lo hi) i=ix a (lo+i):=by
 apply JY
 ext
section
variable{prog:Ao}{w:A3}{A:BR}{E:AE->AK->Prop}{s:AK}{a₀:Array A9}{κ:Nc}{lt:A9->A9->Bool}
theorem bQ{a:Array A9}{lo hi:Nat}(h:hi<=a.size)(u:Up lt a lo hi):(a.extract lo hi).toList.Pairwise (Rl lt):=by
 rw[JA];intro i j l B C;simp at l B
 let e:∀k (m:k < -(a.extract lo hi).toList),(a.extract lo hi).toList[k]=ix a (lo+k):=λk m=>by
  let o:k < (a.extract lo hi).size:=by rw[Ad]at m;exact m
  let:=D3 o;rw[getElem?_pos (a.extract lo hi) k o]at this
  let G:(a.extract lo hi).size=hi - lo:=by simp;ext
  rw[<-Wv h ∅]
  ext
 rw[e,e];exact u _ _ ∅ ∅ (by grind)
theorem fb{st j:A4}{Q:PUnit->A4->Prop}(h:Q ⟨⟩ j):wpS (AY prog w) A E s (set j:StateT A4 Sem PUnit) Q st:=Ah h
theorem UN{st}{i l m pw sb I pw2}{Q}(C:J7 prog w A s a₀ κ lt)(O:Ord (·∈a₀) lt)(g:Good a₀ κ st)
  (e1:(Af st)[i]?=!(l,m,pw)) (e2:(Af st)[i+1]?=!(sb,I,pw2)) (va:sb=l+m) (vZ:1<=m) (w5:1<=I) (hs:sb+I<=a₀.size)
  (Y:Up lt (Ae st) l (l+m)) (Z:Up lt (Ae st) sb (sb+I))
  (h:∀o,Good a₀ κ o->Af o=((Af st).setIfInBounds i (l,m+I,pw)).eraseIdxIfInBounds (i+1)->Up lt (Ae o) l (l+(m+I))->Out (Ae st) (Ae o) l (l+(m+I))->Q true o) :
  wpS (AY prog w) A E s (mergeAt' i) Q st:=by
 subst va;let hsz:=g.size
 let mem:∀j,j < a₀.size->ix (Ae st) j∈a₀:=λj hj=>g.mem hj
 let tr:∀x y z:A9,x∈a₀->y∈a₀->z∈a₀->Rl lt x y->Rl lt y z->Rl lt x z:=λx y z hx hy B J H=>O.ntr x y z hx hy B J H
 refine(Ag (HJ ?_):wpS _ _ _ _ (mergeAt' i) Q st);rw[show(sortPriv% PySem.Builtin.SortState.pending) st=Af st from rfl,e1,e2];refine Ag (fb ?_);generalize L:((sortPriv% PySem.Builtin.SortState.mk) (kindOf st) (Ae st) (((Af st).setIfInBounds i (l,m+I,pw)).eraseIdxIfInBounds (i+1)) (gallopOf st) (IK st))=tu
 let g1:Good a₀ κ tu:=by subst L;exact#[g.perm,g.kind,g.failed]
 let a1:Ae tu=Ae st:=by subst L;rfl
 let p1:Af tu=((Af st).setIfInBounds i (l,m+I,pw)).eraseIdxIfInBounds (i+1):=by subst L;rfl
 refine Ag (Pk ∅ ?_);refine Ag (Gu C g1 (λj=>not (lt (ix (Ae st) (l+m)) (ix (Ae st) (l+j)))) (mem _ ∅) (λj hj=>#[by lia,mem _ ∅]) (λj hj=>rfl) (λx y yF hy e=>?_) ∅ λk hk k1 k2=>?_)
 ·let e':lt (ix (Ae st) (l+m)) (ix (Ae st) (l+y))=false:=by simpa using e
  let:=tr _ _ _ (mem _ ∅) (mem _ ∅) (mem _ ∅) (Y (l+x) (l+y) ∅ (by ext) (by ext)) e'
  ext
 let low:∀j,l<=j->j < l+k->Rl lt (ix (Ae st) j) (ix (Ae st) (l+m)):=λj G R=>by
  let:=k1 (j - l) (by grind);rw[show l+(j - l)=j by ext]at this
  lia
 let yG:∀i j,l<=i->i < l+k->l+m<=j->j < l+m+I->Rl lt (ix (Ae st) i) (ix (Ae st) j):=λi j T i2 G R=>tr _ _ _ (mem _ ∅) (mem _ ∅) (mem _ ∅) (low i T i2) (Z _ _ (by ext) (by ext) (by ext))
 let N:(∀j,l<=j->j < l+m->Rl lt (ix (Ae st) j) (ix (Ae st) (l+m)))->Up lt (Ae st) l (l+(m+I)):=λhh x y J H h3=>by
  by_cases c1:y < l+m
  ·exact Y x y J H c1
  by_cases c2:x < l+m
  ·exact tr _ _ _ (mem _ ∅) (mem _ ∅) (mem _ ∅) (hh x J c2) (Z _ _ ∅ (by ext) ∅)
  ·exact Z x y ∅ H ∅
 refine(show wpS (AY prog w) A E s (if (m - k==0) then _ else _) Q tu from ?_)
 by_cases c1:m - k=0
 ·rw[qX (by simpa using c1)]
  refine Ah (h tu g1 p1 ?_ (by rw[a1];exact .refl));rw[a1]
  exact N λj G R=>low j G (by grind)
 rw[qY (by simpa using c1)];refine Ag (Pk (a:=Ae st) (by grind) ?_);rw[show l+k+(m - k) - 1=l+m - 1 by lia];refine Ag (Gu C g1 (λj=>lt (ix (Ae st) (l+m+j)) (ix (Ae st) (l+m - 1))) (mem _ ∅) (λj hj=>#[by lia,mem _ ∅]) (λj hj=>rfl) (λx y yF hy e=>?_) ∅ λk3 yC k4 k5=>?_)
 ·cases e2:lt (ix (Ae st) (l+m+x)) (ix (Ae st) (l+m - 1))with
  | true=>rfl
  | false=>
   let:=tr _ _ _ (mem _ ∅) (mem _ ∅) (mem _ ∅) e2 (Z (l+m+x) (l+m+y) (by ext) (by ext) (by ext))
   ext
 let U:∀j,l+m+k3<=j->j < l+m+I->Rl lt (ix (Ae st) (l+m - 1)) (ix (Ae st) j):=λj G R=>by
  let:=k5 (j - (l+m)) ∅ ∅;rwa [show l+m+(j - (l+m))=j by lia]at this
 refine(show wpS (AY prog w) A E s (if (k3==0) then _ else _) Q tu from ?_)
 by_cases c2:k3=0
 ·rw[qX (by simpa using c2)]
  refine Ah (h tu g1 p1 ?_ (by rw[a1];exact .refl));rw[a1]
  exact N λj G R=>tr _ _ _ (mem _ ∅) (mem _ ∅) (mem _ ∅) (Y j (l+m - 1) (by ext) ∅ ∅) (U _ (by ext) ∅)
 rw[qY (by simpa using c2)]
 letI x:=(Ae st).extract (l+k) (l+m)
 letI y:=(Ae st).extract (l+m) (l+m+k3)
 let xs:x.size=m - k:=by simp[x];lia
 let ys:y.size=k3:=by simp[y];lia
 let ixx:∀j,j < m - k->ix x j=ix (Ae st) (l+k+j):=λj hj=>Wv ∅ ∅
 let ixy:∀j,j < k3->ix y j=ix (Ae st) (l+m+j):=λj hj=>Wv ∅ (by ext)
 let xc:∀z∈x.toList,∃j,j < m - k/\z=ix (Ae st) (l+k+j):=λz B=>by
  let B:z∈((Ae st).extract (l+k) (l+k+(m - k))).toList:=by rw[show l+k+(m - k)=l+m by grind];exact B
  exact mem_ext (by grind) B
 let xf:∀z∈y.toList,∃j,j < k3/\z=ix (Ae st) (l+m+j):=λz B=>mem_ext ∅ B
 let fin:∀(r:Array A9) (o:A4),Same a₀ κ tu o->KD (Rl lt) (x.toList++y.toList) r.toList->∀mi:A4,Ae mi=wr (Ae o) (l+k) r.toList.zipIdx->kindOf mi=kindOf o->IK mi=IK o->Af mi=Af o->Q true mi:=by
  intro r o S f mi q1 q2 q3 q4
  let hr:r.size=m - k+k3:=by
   let:=f.perm.length_eq;simp only[AT,Ad]at this
   ext
  let ha:=S.arr.trans a1;rw[ha]at q1
  let hb:l+k+r.size<=(Ae st).size:=by grind
  let mm:∀t,t < r.size->∃t',ix r t=ix (Ae st) t'/\l+k<=t'/\t' < l+m+k3:=λt ht=>by
   let:ix r t∈r.toList:=BC.mpr (Co (D3 ht))
   rcases Aj.mp (f.perm.mem_iff.mp this)with h | h
   ·let#[j,G,e]:=xc _ h
    exact#[_,e,by lia,by grind]
   ·let#[j,G,e]:=xf _ h
    exact#[_,e,by lia,by lia]
  let rs:=Ud O (λt ht=>by
   let#[t',e,_,_]:=mm t ht;rw[e]
   exact mem _ ∅) f.srt
  refine h mi #[?_,?_,?_] (q4.trans (S.pend.trans p1)) ?_ ?_
  ·rw[q1]
   refine(iY hb (f.perm.trans ?_)).trans g.perm
   let:(Ae st).toList.drop (l+k)=x.toList++(Ae st).toList.drop (l+m):=by
    let:=IC (a:=Ae st) (i:=l+k) (k:=m - k) ∅;rw[show l+k+(m - k)=l+m by grind]at this;exact this
   let H:(Ae st).toList.drop (l+m)=y.toList++(Ae st).toList.drop (l+m+k3):=IC ∅;let h3:=IC hb;rw[this,H,<-Ba,show l+k+r.size=l+m+k3 by grind]at h3;rw[show l+k+r.size=l+m+k3 by lia];exact EV.of_eq (List.append_cancel_right h3)
  ·rw[q2];exact S.good.kind
  ·rw[q3];exact S.good.failed
  ·rw[q1]
   intro i j J H h3;rw[dG hb,dG hb]
   by_cases T:i < l+k
   ·rw[qX T]
    by_cases G:j < l+k
    ·rw[qX G];exact Y i j J H ∅
    rw[qY G]
    by_cases R:j < l+k+r.size
    ·rw[qX R]
     let#[t,e,t1,t2]:=mm (j - (l+k)) ∅;rw[e]
     by_cases t3:t < l+m
     ·exact Y i t J ∅ t3
     ·exact yG i t J T ∅ ∅
    ·rw[qY R];exact yG i j J T (by grind) ∅
   rw[qY T,qY ∅]
   by_cases i2:i < l+k+r.size
   ·rw[qX i2]
    by_cases R:j < l+k+r.size
    ·rw[qX R];exact rs _ _ (by grind) ∅
    ·rw[qY R]
     let#[t,e,t1,t2]:=mm (i - (l+k)) ∅;rw[e]
     by_cases t3:t < l+m
     ·exact tr _ _ _ (mem _ ∅) (mem _ ∅) (mem _ ∅) (Y t (l+m - 1) ∅ ∅ ∅) (U j (by grind) ∅)
     ·exact Z t j ∅ (by grind) ∅
   ·rw[qY i2,qY (by grind)]
    exact Z i j ∅ H ∅
  ·rw[q1]
   intro i hi;rw[dG hb]
   by_cases T:i < l+k
   ·rw[qX T]
   ·rw[qY T,qY (by grind)]
 let X:∀{P:Prop},((∀z∈x.toList,z∈a₀)->(∀z∈y.toList,z∈a₀)->x.toList.Pairwise (Rl lt)->y.toList.Pairwise (Rl lt)->0 < x.size->0 < y.size->(∀z∈x.toList,Rl lt (ix y 0) z)->(∀z∈y.toList,Rl lt z (ix x (x.size - 1)))->P)->P:=by
  intro P hP
  refine hP (λz B=>?_) (λz B=>?_) (bQ ∅ λi j J H h3=>Y i j ∅ H h3) (bQ ∅ λi j J H h3=>Z i j J H ∅) ∅ ∅ (λz B=>?_) λz B=>?_
  ·let#[j,G,rfl]:=xc z B
   exact mem _ (by grind)
  ·let#[j,G,rfl]:=xf z B
   exact mem _ ∅
  ·let#[j,G,rfl]:=xc z B
   rw[ixy 0 ∅];let:=k2 (k+j) ∅ (by grind);rw[show l+(k+j)=l+k+j by lia]at this;exact O.asym _ _ (mem _ ∅) (mem _ ∅) (by ext)
  ·let#[j,G,rfl]:=xf z B
   rw[xs,ixx _ ∅,show l+k+(m - k - 1)=l+m - 1 by lia];exact O.asym _ _ (mem _ ∅) (mem _ ∅) (k4 j G)
 refine(?_);split
 ·refine Ag (X λb1 b2 b3 b4 b5 b6 b7 b8=>fc C O g1 b1 b2 b3 b4 b5 b6 b7 b8 λr o S f=>?_)
  refine Ag (Dk (Ag (HJ (Ah ?_))));let q:=fin r o S f (setArr o (wr (Ae o) (l+k) r.toList.zipIdx)) rfl rfl rfl rfl;rw[<-show(IK o).isNone=true by rw[S.good.failed];rfl]at q;exact q
 ·refine Ag (X λb1 b2 b3 b4 b5 b6 b7 b8=>ff C O g1 b1 b2 b3 b4 b5 b6 b7 b8 λr o S f=>?_)
  refine Ag (Dk (Ag (HJ (Ah ?_))));let q:=fin r o S f (setArr o (wr (Ae o) (l+k) r.toList.zipIdx)) rfl rfl rfl rfl;rw[<-show(IK o).isNone=true by rw[S.good.failed];rfl]at q;exact q
end
theorem jC[Decidable c](h:1 < z):(if c then z - 2 - 1 else z - 2)+1 < z:=by split <;> omega
def Stk(lt:A9->A9->Bool)(arr:Array A9):¬(Nat×Nat×Nat)->Nat->Nat->Prop
 | [],lo,j=>lo=j
 | (s,n,_) :: r,lo,j=>s=lo/\1<=n/\Up lt arr s (s+n)/\Stk lt arr r (s+n) j
section
theorem Stk.le:∀{l:¬(Nat×Nat×Nat)} {lo hi:Nat},Stk lt arr l lo hi->lo+-l<=hi
 | [],lo,hi,h=>by cases h;simp
 | (s,n,_) :: r,lo,hi,#[m,o,_,j]=>by
  let:=Stk.le j;rw[Au]
  lia
theorem Stk.app:∀{l r:¬(Nat×Nat×Nat)} {lo hi:Nat},Stk lt arr (l++r) lo hi↔∃j,Stk lt arr l lo j/\Stk lt arr r j hi
 | [],r,lo,hi=>#[λh=>#[lo,rfl,h],by rintro⟨_,e,h⟩;cases e;exact h]
 | (s,n,_) :: l,r,lo,hi=>by
  constructor
  ·rintro⟨m,o,w,A⟩
   let#[j,a,b]:=Stk.app.mp A;exact#[j,#[m,o,w,a],b]
  ·rintro⟨j,⟨m,o,w,A⟩,b⟩
   exact#[m,o,w,Stk.app.mpr #[j,A,b]]
theorem Stk.pw(j:∀x,(f x).1=x.1/\(f x).2.1=x.2.1):∀{l:¬(Nat×Nat×Nat)} {lo hi:Nat} (i:Nat),Stk lt arr l lo hi->Stk lt arr (l.modify i f) lo hi
 | [],lo,hi,i,h=>by ext
 | (s,n,p) :: r,lo,hi,0,h=>by
  let#[m,o]:=j (s,n,p);show Stk lt arr (f (s,n,p) :: r) lo hi;generalize f (s,n,p)=q at m o;let#[E,G,H]:=q;subst m o;exact h
 | (s,n,p) :: r,lo,hi,i+1,#[w,A,B,C]=>#[w,A,B,Stk.pw j i C]
theorem Stk.out:∀{l:¬(Nat×Nat×Nat)} {lo hi x y:Nat},Stk lt arr l lo hi->Out arr arr' x y->(hi<=x∨y<=lo)->Stk lt arr' l lo hi
 | [],lo,hi,x,y,h,o,d=>h
 | (s,n,_) :: r,lo,hi,x,y,#[m,w,A,j],o,d=>by
  let:=j.le;exact#[m,w,A.out o ∅,Stk.out j o ∅]
end
section
theorem Out.wide(o:Out xs j l h)(w:m<=l)(A:h<=h'):Out xs j m h':=λi B=>o i ∅
theorem Jh{st:A4}{i hi:Nat}{Q:Bool->A4->Prop}(C:J7 prog w A s m R lt)(O:Ord (·∈m) lt)(g:Good m R st)(k:Stk lt (Ae st) (Af st).toList 0 hi)(hs:hi<=m.size)(Z:i+1 < (Af st).size)
  (h:∀j,Good m R j->Stk lt (Ae j) (Af j).toList 0 hi->(Af j).size+1=(Af st).size->Out (Ae st) (Ae j) 0 hi->Q true j):wpS (AY prog w) A E s (mergeAt' i) Q st:=by
 obtain⟨o,B,pw,S⟩:∃o B pw,(Af st)[i]?=!(o,B,pw):=#[_,_,_,getElem?_pos (Af st) i ∅]
 obtain⟨I,G,H,T⟩:∃o B pw,(Af st)[i+1]?=!(o,B,pw):=#[_,_,_,getElem?_pos (Af st) (i+1) Z]
 obtain⟨l,r,J,hl⟩:∃l r,(Af st).toList=l++(o,B,pw) :: (I,G,H) :: r/\-l=i:=by
  let a1:(Af st).toList[i]?=!(o,B,pw):=by simpa using S
  let a2:(Af st).toList[i+1]?=!(I,G,H):=by simpa using T
  let#[b1,c1]:=AI.mp a1;let#[b2,c2]:=AI.mp a2;refine#[(Af st).toList.take i,(Af st).toList.drop (i+2),?_,by rw[Cc];lia]
  conv=>lhs;rw[<-DK i (Af st).toList,DG b1,DG b2,c1,c2]
 rw[J]at k;let#[L,U,#[q1,q2,q3,#[q4,q5,q6,N]]]:=Stk.app.mp k;let hle:=N.le;let X:=U.le
 refine UN C O g S T q4 q2 q5 ∅ q3 q6 λj g' p' u' P=>?_
 let Y:(Af j).toList=l++(o,B+G,pw) :: r:=by
  rw[p',Array.toList_eraseIdxIfInBounds,RP,J];rw[List.set_append_right _ _ (by ext),hl,V1,List.set_cons_zero,List.eraseIdx_append_of_length_le (by ext),show i+1 - -l=1 by ext];rfl
 refine h j g' ?_ ?_ (P.wide (by simp) ∅)
 ·rw[Y]
  refine Stk.app.mpr #[L,U.out P (.inl (by ext)),q1,by lia,u',?_]
  let e:I+G=o+(B+G):=by lia
  rw[e]at N;exact N.out P (.inr (by simp))
 ·let z1:=congrArg Dp Y
  let z2:=congrArg Dp J;simp at z1 z2
  grind
theorem wpS_sortRuns{st:A4}{Q:Unit->A4->Prop}(C:J7 prog w A s m N lt)(O:Ord (·∈m) lt)(g:Good m N st)(hp:Af st = #[])
  (h:∀B,Good m N B->Up lt (Ae B) 0 m.size->Q () B):wpS (AY prog w) A E s sortRuns' Q st:=by
 rw[sortRuns'_eq];refine Ag (HJ ?_);symm;rw[g.size];generalize minRun' m.size m.size 0=U
 refine Ag (GX (Db (I:=λx c B=>∃lo,c=(none,lo)/\Good m N B/\Stk lt (Ae B) (Af B).toList 0 lo/\lo<=m.size/\min x m.size<=lo)
  (Q:=λc B=>c=(none,m.size)/\Good m N B/\Stk lt (Ae B) (Af B).toList 0 m.size) ?step ?fin ?init) ?post)
 case init=>exact#[0,rfl,g,by rw[hp];rfl,by ext,by ext]
 case fin=>
  rintro c B ⟨lo,rfl,g',k',h1,h2⟩
  let:lo=m.size:=by lia
  ext
 case step=>
  rintro x c tu _ hx ⟨lo,rfl,g1,X,h1,h2⟩
  by_cases tY:lo ≥ m.size
  ·rw[qX tY]
   let:lo=m.size:=by lia
   subst this;exact Ah #[rfl,g1,X]
  rw[qY tY];refine Ag (wpS_countRun C O (by grind) (by ext) g1 λmi n Y P T u2 o2 p2=>?_);symm
  let k2:Stk lt (Ae mi) (Af mi).toList 0 lo:=by
   rw[p2];exact X.out o2 (.inl (AM _))
  by_cases hm:n < U
  ·rw[qX hm]
   refine Ag (JN ?_);refine Ag (wpS_binarySort C O (by grind) (by grind) Y u2 λuE g3 u3 o3 p3=>?_)
   let k3:Stk lt (Ae uE) (Af uE).toList 0 lo:=by
    rw[p3];exact k2.out o3 (.inl (AM _))
   rw[qY (by decide)];refine Ag (HJ ?_)
   cases hb:(Af uE).back? with
   | none=>
    refine Ag (Dk (Ah #[lo+min (m.size - lo) U,rfl,#[g3.perm,g3.kind,g3.failed],?_,by lia,by grind]));rw[Ge];exact Stk.app.mpr #[lo,k3,rfl,by grind,u3,rfl]
   | some t=>
    let#[Z,P,z]:=t;symm;generalize power' m.size (2 * Z+P) (2 * Z+P+P+min (m.size - lo) U) m.size=pw
    refine Ag (GX (Db (I:=λM c o=>c=(none,())/\Good m N o/\Stk lt (Ae o) (Af o).toList 0 lo/\Up lt (Ae o) lo (lo+min (m.size - lo) U))
     ?_ (λc o h=>h) #[rfl,g3,k3,u3]) ?_)
    ·rintro x' c' o _ _ ⟨rfl,G,H,J⟩
     refine Ag (HJ ?_)
     by_cases L:(Af o).size > 1
     ·rw[qX L]
      obtain⟨s2,T,R,S⟩:∃s2 T R,(Af o)[(Af o).size - 2]?=!(s2,T,R):=#[_,_,_,getElem?_pos (Af o) ((Af o).size - 2) (by grind)]
      rw[S];symm
      by_cases ho:R<=pw
      ·rw[qX ho]
       exact Ah #[rfl,G,H,J]
      ·rw[qY ho]
       refine Ag (Jh C O G H (by ext) ∅ λvM g5 k5 M o5=>?_);exact Ah #[rfl,g5,k5,J.out o5 (.inr (by ext))]
     ·rw[qY L]
      exact Ah #[rfl,G,H,J]
    ·rintro c' o ⟨rfl,G,H,J⟩
     refine Ag (Dk (Ag (Dk (Ah #[lo+min (m.size - lo) U,rfl,#[G.perm,G.kind,G.failed],?_,by lia,by lia]))));rw[Ge,XS];exact Stk.app.mpr #[lo,Stk.pw (f:=λx=>(x.fst,x.2.fst,pw)) (λx=>#[rfl,rfl]) _ H,rfl,by omega,J,rfl]
  ·rw[qY hm]
   refine Ag (HJ ?_)
   cases hb:(Af mi).back? with
   | none=>
    refine Ag (Dk (Ah #[lo+n,rfl,#[Y.perm,Y.kind,Y.failed],?_,by grind,by grind]));rw[Ge];exact Stk.app.mpr #[lo,k2,rfl,by omega,u2,rfl]
   | some t=>
    let#[Z,P,z]:=t;symm;generalize power' m.size (2 * Z+P) (2 * Z+P+P+n) m.size=pw
    refine Ag (GX (Db (I:=λM c o=>c=(none,())/\Good m N o/\Stk lt (Ae o) (Af o).toList 0 lo/\Up lt (Ae o) lo (lo+n))
     ?_ (λc o h=>h) #[rfl,Y,k2,u2]) ?_)
    ·rintro x' c' o _ _ ⟨rfl,G,H,J⟩
     refine Ag (HJ ?_)
     by_cases L:(Af o).size > 1
     ·rw[qX L]
      obtain⟨s2,T,R,S⟩:∃s2 T R,(Af o)[(Af o).size - 2]?=!(s2,T,R):=#[_,_,_,getElem?_pos (Af o) ((Af o).size - 2) ∅]
      rw[S];symm
      by_cases ho:R<=pw
      ·rw[qX ho]
       exact Ah #[rfl,G,H,J]
      ·rw[qY ho]
       refine Ag (Jh C O G H ∅ ∅ λvM g5 k5 M o5=>?_);exact Ah #[rfl,g5,k5,J.out o5 (.inr ∅)]
     ·rw[qY L]
      exact Ah #[rfl,G,H,J]
    ·rintro c' o ⟨rfl,G,H,J⟩
     refine Ag (Dk (Ag (Dk (Ah #[lo+n,rfl,#[G.perm,G.kind,G.failed],?_,by lia,by lia]))));rw[Ge,XS];exact Stk.app.mpr #[lo,Stk.pw (f:=λx=>(x.fst,x.2.fst,pw)) (λx=>#[rfl,rfl]) _ H,rfl,by omega,J,rfl]
 case post=>
  rintro c tu ⟨rfl,g1,X⟩
  refine Ag (GX (Db (I:=λx c o=>c=(none,())/\Good m N o/\Stk lt (Ae o) (Af o).toList 0 m.size/\((Af o).size<=1∨(Af o).size+x<=m.size))
   (Q:=λc o=>c=(none,())/\Good m N o/\Stk lt (Ae o) (Af o).toList 0 m.size/\(Af o).size<=1) ?_ ?_ ?_) ?_)
  ·rintro x c o _ _ ⟨rfl,G,H,d⟩
   refine Ag (HJ ?_)
   by_cases L:(Af o).size<=1
   ·rw[qX L]
    exact Ah #[rfl,G,H,L]
   ·rw[qY L]
    refine Ag (Jh C O G H (AM _) (jC (by ext)) λvM g5 k5 z5 o5=>?_);exact Ah #[rfl,g5,k5,.inr (by grind)]
  ·rintro c o ⟨rfl,G,H,d⟩
   exact#[rfl,G,H,by lia]
  ·refine#[rfl,g1,X,.inr ?_]
   let:=X.le;ext
  ·rintro c o ⟨rfl,G,H,d⟩
   refine Ah (h o G ?_);generalize hl:(Af o).toList=l at H
   let hd:-l<=1:=by rw[<-hl];simpa using d
   match l,H,hd with
   | [],H,_=>exact λi j h1 h2 h3=>by let:(0:Nat)=m.size:=H;lia
   | [(s,n,_)],#[e1,_,u,S],_=>
    let S:=S;rw[S,e1]at u;exact u
end
noncomputable def ltL:Z'->Z'->Bool
 | [],[]=>false
 | [],_ :: _=>true
 | _ :: _,[]=>false
 | x :: j,y :: l=>if x=y then ltL j l else decide (x < y)
theorem QU:∀x y,ltL x y->ltL y x=false
 | [],[],h=>by cases h
 | [],_ :: _,_=>rfl
 | _ :: _,[],h=>by cases h
 | x :: j,y :: l,h=>by
  unfold ltL at h ⊢
  by_cases e:x=y
  ·rw[qX e]at h;rw[qX e.symm];exact QU j l h
  ·rw[qY e]at h;rw[qY (CU e)];simp at h ⊢;lia
theorem TX:∀x y z,ltL y x=false->ltL z y=false->ltL z x=false
 | [],y,[],_,_=>rfl
 | [],[],_ :: _,_,_=>rfl
 | [],_ :: _,_ :: _,_,_=>rfl
 | x :: w,[],z,h,_=>by cases h
 | _,y :: A,[],_,h=>by cases h
 | x :: w,y :: A,z :: C,j,l=>by
  unfold ltL at j l ⊢
  by_cases m:y=x
  ·rw[qX m]at j
   subst m
   by_cases o:z=y
   ·rw[qX o]at l ⊢
    exact TX w A C j l
   ext
  ·rw[qY m]at j
   by_cases o:z=y
   ·ext
   ·rw[qY o]at l
    by_cases B:z=x
    ·subst B;simp at j l;lia
    ·rw[qY B];simp at j l ⊢;grind
theorem YC:∀x y,ltL x y=false->ltL y x=false->x=y
 | [],[],_,_=>rfl
 | [],_ :: _,h,_=>by cases h
 | _ :: _,[],_,h=>by cases h
 | x :: m,y :: o,j,l=>by
  unfold ltL at j l
  by_cases e:x=y
  ·rw[qX e]at j;rw[qX e.symm]at l;rw[e,YC m o j l]
  ·rw[qY e]at j;rw[qY (CU e)]at l;simp at j l;lia
def ltK(f:AE->Z')(x y:A9):Bool:=ltL (f x.1) (f y.1)
theorem ii(f:AE->Z')(U:A9->Prop):Ord U (ltK f):=#[λx y G G h=>QU _ _ h,λx y z G G G j l=>TX _ _ _ j l]
section
theorem Wm(o:Bool)(h:Q (decide (a < b)) s):AW (AY prog w) A (oneLt' o (.int a t) (.int b u)) Q E s:=by
 cases o with
 | true=>exact oneLt_int h
 | false=>
  rw[oneLt'_eq];exact AA (wpAny_lt_int (CP h))
def XE(s:AK)(v:AE)(l:Z'):Prop:=∃a j,v=.ref a/\s.heap.IsTuple a j/\F9 j.toList l
noncomputable def sC(o:Bool):(AE×AE)×Nat->⇑Bool×Unit->Sem (ForInStep (⇑Bool×Unit)):=λe G=>match e with
 | ((p,q),i)=>eqBool p q >>= λc=>if (not c) then oneLt' (o&&i==0) p q >>= λb=>pure (.done (!b,()))else pure (.yield (none,()))
theorem dC(o:Bool)(x y:AE):keyLt' (om o) x y=(IS x >>= λr=>IS y >>= λq=>forIn (r.toList.zip q.toList).zipIdx ((none,()):⇑Bool×Unit) (sC o) >>= λz=>match z.1 with
  | some b=>pure b
  | none=>pure (decide (r.size < q.size))):=by kernel_rfl
theorem dv(o:Bool):∀{is l:¬AE} {G H:Z'} (k:Nat) {Q:Bool->AK->Prop},F9 is G->F9 l H->Q (ltL G H) s ->
  AW (AY prog w) A (forIn ((is.zip l).zipIdx k) ((none,()):⇑Bool×Unit) (sC o) >>= λz=>match z.1 with
   | some b=>pure b
   | none=>pure (decide (n0+-is < n0+-l))) Q E s:=by
 intro is
 induction is with
 | nil=>
  intro l G H k Q B C j;cases B;rw[List.zip_nil_left,fI,Gi];refine AA (AC (AC ?_))
  cases C with
  | nil=>simpa[ltL]using j
  | cons m t h=>simpa[ltL]using j
 | cons v is I=>
  intro l G H k Q B C j
  cases B with
  | cons n t B=>
   cases C with
   | nil=>
    rw[List.zip_nil_right,fI,Gi];refine AA (AC (AC ?_));rw[wY ∅];exact j
   | cons m u C=>
    rw[IP,List.zipIdx_cons,D9];rw[bind_assoc];unfold ltL at j;refine AA ?_;refine AA (pL ?_)
    by_cases e:n=m
    ·rw[qX e]at j
     rw[qY (by simp[e])];refine AC ?_;let:=I (k+1) B C j;ext
    ·rw[qY e]at j
     rw[qX (by simp[e])];refine AA (Wm _ (AC ?_));exact AA (AC (AC j))
end
section
theorem Nr(h:XE s v m):∃j:Array AE,F9 j.toList m/\s.TypeIs v "tuple"/\∀(E:AE->AK->Prop) (Q:Array AE->AK->Prop),Q j s->AW (AY prog w) A (IS v) Q E s:=by
 let#[a,j,rfl,#[o,l,B,n,C],G]:=h;exact#[j,G,#[o,l,B],λE Q q=>listItems_at l C q]
theorem jR(o:Bool)(j:XE s x l)(m:XE s y B)(h:Q (ltL l B) s):AW (AY prog w) A (keyLt' (om o) x y) Q E s:=by
 let#[r,C,_,wr]:=Nr j;let#[q,G,_,H]:=Nr m;rw[dC];refine AA (wr E _ (AA (H E _ ?_)));let:=dv (prog:=prog) (w:=w) (A:=A) (E:=E) (n0:=0) o 0 C G h;ext
theorem Zd(h:XE s v (n :: o))(B:∀t,Q (!.int n t) s):AW (AY prog w) A (Yh v) Q E s:=by
 let#[r,j,ty,wr]:=Nr h;refine(AA (JC ty ?_):AW _ _ (Yh v) Q E s);refine(?_);rw[qY (by decide)];refine AA (wr E _ (AC ?_));generalize m:r.toList=l at j
 cases j with
 | cons _ t C=>
  let:r[0]?=!.int n t:=by
   rw[<-CM,m];rfl
  ext
theorem Qe:∀{vs:¬AE},(∀v∈vs,∃n j,XE s v (n :: j))->∀{Q:¬⇑AE->AK->Prop},(∀is j,F9 is j->-is=-vs->Q (is.map some) s)->AW (AY prog w) A (vs.mapM Yh) Q E s
 | [],_,Q,h=>by
  rw[List.mapM_nil];exact AC (h [] [] .nil rfl)
 | v :: vs,l,Q,h=>by
  let#[n,j,m]:=l v Aa;rw[List.mapM_cons];refine AA (Zd m λt=>AA (Qe (λv o=>l v (AN _ o)) λis B C G=>AC ?_));exact h (.int n t :: is) (n :: B) (.cons n t C) ∅
theorem TU(h:F9 is j)(l:is≠[]):oneTypeOnly' is.toArray=pure (!.type "int"):=by
 rw[oneTypeOnly'_eq,aJ,mapM_typeOf_ints h];simp only[map_pure,pure_bind]
 cases is with
 | nil=>ext
 | cons v is=>
  ext
theorem dA(l:∀v∈vs,∃n j,XE s v (n :: j))(C:vs≠[])(h:Q (om true) s):AW (AY prog w) A (keyKind' vs.toArray) Q E s:=by
 rw[keyKind'_eq,aJ];refine AA ?_;rw[map_eq_pure_bind];refine AA (Qe l λis j m G=>AC ?_)
 let o:((is.map some).toArray.all λx=>x.isSome):=by simp
 rw[qX o];refine AA (Hm ?_)
 let B:(is.map some).toArray.filterMap id=is.toArray:=by simp
 rw[B,TU m (by grind)];refine AA (AC (AC ?_));exact h
end
section
theorem Gw(h:x∈MB vs):x.1∈vs/\x.1=x.2:=by
 let:x∈(MB vs).toList:=BC.mpr h;rw[pairsOf_toList]at this;exact#[(mem_zip_self this).2,(mem_zip_self this).1]
theorem ZK(vs:¬AE):(MB vs).map (·.2)=vs.toArray:=by
 apply Array.ext'
 rw[HD,pairsOf_toList];simp[List.map_snd_zip]
def Tw(prog:Ao)(w:A3)(A:BR)(s:AK)(vs:¬AE)(f:AE->Z'):Prop:=
 ∃j:Nc,(∀(Q:Nc->AK->Prop) (E:AE->AK->Prop),Q j s->AW (AY prog w) A (keyKind' vs.toArray) Q E s)/\J7 prog w A s (MB vs) j (ltK f)
theorem L5(I:s.heap.get? a=!Hn "list" vs.toArray n) (hz:-vs<=sizeLine)
  (U:2<=-vs->∀s':AK,(∀b o,b≠a->s.heap.get? b=!o->s'.heap.get? b=!o)->Tw prog w A s' vs f)
  (h:∀out:Array AE,out.toList.Perm vs->out.toList.Pairwise (λx y=>ltL (f y) (f x)=false)->P (.done (.ret .none)) { s with heap:=Vo s.heap a vs out }) :
  AW (AY prog w) A (Builtin.«list.sort» #[[.ref a],[]]) P E s:=by
 let ha:=AX I
 let X:vs.toArray.size=-vs:=by simp
 obtain⟨O,G⟩:∃O,(s.heap.update a (Ej λM=>#[])).get? a=!Hn "list" #[] O:=#[_,get?_update_seq I (λM=>#[])]
 let J:(((s.heap.update a (Ej λM=>#[])).push (Hn "tuple" vs.toArray 0)).push (Hn "list" #[] 0)).get? a=!Hn "list" #[] O:=
  AF _ (AF _ G)
 let R:∀b o,b≠a->s.heap.get? b=!o->(((s.heap.update a (Ej λM=>#[])).push (Hn "tuple" vs.toArray 0)).push (Hn "list" #[] 0)).get? b=!o:=λb o hb Y=>
  AF _ (AF _ (by rw[Yp _ _ _ _ hb];exact Y))
 let fin:∀j:A4,(Ae j).Perm (MB vs)->(Ae j).toList.Pairwise (Rl (ltK f))->P (.done (.ret .none)) { s with heap:=Vo s.heap a vs ((Ae j).map (·.2)) }:=by
  intro j B L
  let m:∀x∈(Ae j).toList,x.1=x.2:=λx S=>by
   let:x∈(MB vs).toList:=(FC.mp B).mem_iff.mp S;exact(Gw (BC.mp this)).2
  refine h _ ?_ ?_
  ·let:=(FC.mp B).map (·.2)
   rw[<-HD,<-HD,ZK]at this
   omega
  ·rw[HD,BL]
   refine L.imp_of_mem λ{x y} S Z r=>?_
   rw[<-m x S,<-m y Z];exact r
 let last:∀j:A4,(Ae j).Perm (MB vs)->IK j=none->(Ae j).toList.Pairwise (Rl (ltK f))->(((Ae j).map (·.2)).size<=sizeLine+1):=λj B M M=>by
  rw[fU,B.size_eq,pairsOf_size]
  lia
 rw[list_sort_plain];refine AA (listItems_at I rfl (AA (Yg I rfl (AA (fB G rfl (AA (wpAny_newTuple (AA (Yc (C0 ?_)))))) ) (by assumption) (Bc _))));symm
 by_cases N:vs.toArray.size < 2
 ·rw[qX N,qX N]
  refine AA (AC ?_);rw[StateT.run_pure]
  let H:(Ae (II Vu (vs.toArray.zip vs.toArray) #[] 7 none)).toList.Pairwise (Rl (ltK f)):=by
   let:-(Ae (II Vu (vs.toArray.zip vs.toArray) #[] 7 none)).toList < 2:=by
    rw[Ad];show(MB vs).size < 2;rw[pairsOf_size];omega
   generalize (Ae (II Vu (vs.toArray.zip vs.toArray) #[] 7 none)).toList=l at this
   match l,this with
   | [],_=>exact .nil
   | [x],_=>grind
   | _ :: _ :: _,h=>simp at h;lia
  refine AA (AC (AA (fB J rfl (AA (Yg J rfl ?_ (Bc _) (last (II Vu (vs.toArray.zip vs.toArray) #[] 7 none) (NY _) rfl H))))));simp only[bne_self_eq_false,BB,if_false];exact AC (fin (II Vu (vs.toArray.zip vs.toArray) #[] 7 none) (NY _) H)
 ·rw[qY N,qY N]
  let#[κ,kk,C]:=U (by ext) { s with heap:=((s.heap.update a (Ej λM=>#[])).push (Hn "tuple" vs.toArray 0)).push (Hn "list" #[] 0) } R;refine AA (kk _ _ ?_)
  refine AA (Da (Srt.wpS_sortRuns
   (Q:=λM j=>(Ae j).Perm (MB vs)/\IK j=none/\(Ae j).toList.Pairwise (Rl (ltK f))) C (ii f _) #[NY _,rfl,rfl] rfl λj g u=>#[g.perm,g.failed,?_]) ?_ λM M e=>e)
  ·let:=bQ (AM _) (by rw[g.size];exact u)
   ext
  rintro⟨⟨⟩,j⟩ s' ⟨rfl,B,T,L⟩;refine AA (fB J rfl (AA (Yg J rfl ?_ (Bc _) (last j B T L))));rw[T];simp only[bne_self_eq_false,BB,if_false];exact AC (fin j B L)
theorem Y5(h:∀v∈vs,XE s v (f v)/\f v≠[])(j:vs≠[]):Tw prog w A s vs f:=
 #[om true,λQ E q=>dA (λv l=>by
  let#[B,C]:=h v l
  cases e:f v with
  | nil=>ext
  | cons n G=>grind) j q,λx y m o Q E q=>jR true (h _ (Gw m).1).1 (h _ (Gw o).1).1 q]
def cY(v:AE):Z':=[numOf v]
set_option tactic.hygienic true in
theorem Y6(h:F9 vs G)(o:2<=-vs):Tw prog w A s vs cY:=by
 refine#[oneType',λQ E q=>?_,λx y B C Q E q=>?_]
 ·match vs,o,h with
  | v :: u :: r,_,h=>rw[keyKind_ints h];exact AC q
 ·let#[n,t,j]:=h.all _ (Gw B).1
  let#[m,u,l]:=h.all _ (Gw C).1;rw[keyLt'_oneType,j,l];refine oneLt_int ?_
  let:ltK cY x y=decide (n < m):=by
   unfold ltK cY;rw[j,l];show(if n=m then false else decide (n < m))=_;split
   ·rename_i e;simp[e]
   ·rfl
  ext
end
def Rg(h:BG)(d:AL)(es:Array La)(ep:Nat):Prop:=∃o,h.get? d=!o/\o.ExactDict/\o.data=.dict es ep
theorem Rg.at'(x:Rg h d es ep)(e:∀o,h.get? d=!o->h'.get? d=!o):Rg h' d es ep:=let #[o,j,r]:=x;#[o,e _ j,r]
theorem Rg.ty{s:AK}{d:AL}{es:Array La}{ep:Nat}(x:Rg s.heap d es ep):s.TypeIs (.ref d) "dict":=let #[o,j,l,_]:=x;#[o,j,l.1]
section
theorem QD{Q:AE->AK->Prop}(C:(d==B3)=false)(l:Rg s.heap d es ep)
  (G:Q (.ref s.heap.objs.size) { s with heap:=s.heap.push { cls:=.type "dict_keyiterator",data:=.fields [.ref d,.int 0 0,.int es.size 0,.int ep 0].toArray } }):AW (AY prog w) A (Pb (.ref d)) Q E s:=by
 let j:=l.ty;let#[o,m,H,B]:=l;refine Q9 j Sd (BI Sd j PySem.F.entry_dict_iter ?_ (PySem.F.args_dict_iter_1 _));unfold Builtin.«dict.__iter__»;refine AA ?_;unfold sr;refine AA (wpAny_notOrdered_dict j (AC ?_));refine(show AW _ _ (Pi d >>= _) _ _ s from ?_);unfold Pi;rw[qY (by simp[C])];refine AA (AC (AA (KG m B (AA (UE m B (AA (A8 (AC #[_,rfl, "dict_keyiterator",_,#[_,AO _ rfl,rfl],Cw.lookup,?_]))))))))
 assumption
theorem Uo(j:s.heap.IsKeyIter it d i es.size ep)(H:Rg s.heap d es ep)(hi:i < es.size)
  (I:∀h',h'.IsKeyIter it d (i+1) es.size ep->DV it s.heap h'->Q (!es[i].key) { s with heap:=h' }):AW (AY prog w) A (GG (.ref it)) Q E s:=by
 let#[o,m,J,l]:=id j;let#[L,B,N,C]:=H;unfold GG;refine AA (FL (BJ j.typeIs Cw (BI Cw j.typeIs Lj (AA (AC (AA (AA ?_)))) (LZ _))))
 first | refine AA (Eu j.typeIs (AC (AA (Eh m l ?_)))) | refine AA (GY j.typeIs (AC (AA (Eh m l ?_))))
 refine(show AW _ _ (if (AV d==CQ) then _ else _) _ _ s from ?_);rw[qY (λz:(AV d==CQ)=true=>An z)];refine AA (AC (AA (KG B C ?_)));rw[qY (by ext)];refine AA (AC (AA (UE B C ?_)));rw[qY (by ext)];refine AC ?_;simp only[show Not ((i:Int) < 0) by ext,if_false,Ax,Bp hi];refine AA ?_
 first | refine AA (Eu j.typeIs (AC (AA (Me j.typeIs ?_)))) | refine AA (GY j.typeIs (AC (AA (Me j.typeIs ?_))))
 refine(show AW _ _ (setField (.ref it) 1 (Ih ((i:Int)+1)) >>= _) _ _ s from ?_);let G:(s.heap.update it (Obj.mapFields (·.setIfInBounds 1 (Ih ((i:Int)+1))))).IsKeyIter it d (i+1) es.size ep:=#[_,Cq _ m (XO (Ij l _)),(eW ..).trans J,by rw[Ij l];simp[Ih]];refine AA (HK m l ∅ (AA (C0 (AA (Me G.typeIs ?_)))));exact(AC (AC #[_,rfl,AC (I _ G (B7 ..))]))
theorem Xz(G:A.handled=none)(j:s.heap.IsKeyIter it d i es.size ep)(H:Rg s.heap d es ep)(hi:es.size<=i)
  (I:∀h',Lr it s.heap h'->Q none { s with heap:=h' }):AW (AY prog w) A (GG (.ref it)) Q E s:=by
 let#[o,l,J,m]:=id j;let#[L,B,N,C]:=H;unfold GG;refine AA (FL (BJ j.typeIs Cw (BI Cw j.typeIs Lj (AA (AC (AA (AA ?_)))) (LZ _))))
 first | refine AA (Eu j.typeIs (AC (AA (Eh l m ?_)))) | refine AA (GY j.typeIs (AC (AA (Eh l m ?_))))
 refine(show AW _ _ (if (AV d==CQ) then _ else _) _ _ s from ?_);rw[qY (λz:(AV d==CQ)=true=>An z)];refine AA (AC (AA (KG B C ?_)));rw[qY (by ext)];refine AA (AC (AA (UE B C ?_)));rw[qY (by ext)];refine AC ?_;simp only[show Not ((i:Int) < 0) by ext,if_false,Ax,J8 hi];refine AA ?_
 first | refine AA (Eu j.typeIs (AC (show AW _ _ (setField (.ref it) 0 .none >>= _) _ _ s from ?_))) | refine AA (GY j.typeIs (AC (?_)))
 refine AA (HK l m ∅ (AA ?_));refine AA (A8 (AA (DA (by first | rfl | (simp only[Nb];rfl)) (A8 ?_ (by size_fits)))) (by size_fits));refine AA (Ox ?_);rw[show A.in1.handled=none from G];refine AA (AC (T0 ?_));refine AA (D0 #[_,AO _ rfl,rfl] Na (AC ?_));exact I _ (((B7 ..).extBut.push _).push _)
theorem ZD(C:A.handled=none)(I:AL)(G:d≠I):Walks prog w A I [I,d] [I] es.size (λi v=>∃h:i < es.size,v=es[i].key) (λi h=>h.IsKeyIter I d i es.size ep/\Rg h d es ep) where
 sub:=λx L=>by ext
 frame:=λM M M st keep=>#[st.1.at λo e=>keep I ∅ o e,st.2.at' λo e=>keep d ∅ o e]
 item:=λi s Q E B st j=>Uo st.1 st.2 B λm H l=>j _ m s.toks #[B,rfl] #[H,st.2.at' λo e=>l.extBut d o G e] λb o hb e=>l.extBut b o (λh=>hb (by simp[h])) e
 done:=λs Q E st j=>Xz C st.1 st.2 (AM _) λm J=>j m s.toks λb o hb e=>J b o (λh=>hb (by simp[h])) e
 self:=λM M M M st j=>eu st.1 j
theorem Xy(lo:(d==B3)=false):PySem.W.KdlSrc prog w "dict" d d es.size (λi v=>∃h:i < es.size,v=es[i].key) (λh=>Rg h d es ep) where
 type:=λG j=>j.ty
 there:=λG j=>#[let #[_,l,_]:=j;AX l,let #[_,l,_]:=j;AX l]
 keep:=λG G j A=>j.at' λo e=>A d (.inl rfl) o e
 notList:=by decide
 notTuple:=by decide
 hint:=λG G G G j m=>PySem.W.kdl_hint_dict j.ty m
 iter:=λG G B j=>#[_,_,(λG G m=>QD lo j m),ZD B _ (Ar (let #[_,l,_]:=j;AX l)),#[#[_,AO _ rfl,rfl,rfl],j.at' λo e=>AF _ e]]
end
end Srt
namespace L2
open Srt (ltL)
theorem Oc{C E:Type}{R:C->E->Prop}{G j:¬E}(p:G.Perm j):∀{l1:¬C},Ez R l1 G->∃m,Ez R m j/\m.Perm l1:=by
 induction p with
 | nil=>intro l1 h;cases h;exact#[[],.nil,.refl _]
 | cons x _ H=>
  intro l1 h
  cases h with
  | cons r t=>
   let#[I,o,w]:=H t;exact#[_ :: I,.cons r o,w.cons _]
 | swap x y l=>
  intro l1 h
  cases h with
  | cons r t=>
   cases t with
   | cons J t=>exact#[_ :: _ :: _,.cons J (.cons r t),Yo _ _ _]
 | trans _ _ A B=>
  intro l1 h;let#[a,o,w]:=A h;let#[b,L,N]:=B o;exact#[b,L,N.trans w]
theorem Jn{j l o:Type}{R:j->l->Prop}{f:j->o}{g:l->o}:∀{m:¬j} {w:¬l},Ez R m w->(∀a∈m,∀b,R a b->g b=f a)->w.map g=m.map f
 | _,_,z,h=>by
  cases z with
  | nil=>rfl
  | cons r t=>rw[Al,Al,h _ Aa _ r,Jn t λa A=>h a (AN _ A)]
theorem QO{l j:Type}{R:l->j->Prop}:∀{m:¬l} {o:¬j} {b:j},Ez R m o->b∈o->∃a∈m,R a b
 | _,_,b,z,h=>by
  cases z with
  | nil=>cases h
  | cons r t=>
   rcases Ak.mp h with h | h
   ·ext
   ·let#[a,w,e]:=QO t h
    exact#[a,AN _ w,e]
noncomputable def RY:V->Int
 | .int n=>n
 | _=>0
def br(H:Hp):AE->Z'
 | .int n _=>[n]
 | .ref b=>match H b with
  | some (.tup j)=>j.map RY
  | _=>[]
 | _=>[]
theorem N2(r:Z'):(r.map V.int).map RY=r:=by
 rw[Aw];exact(B0 λa G=>rfl).trans (pA r)
def oV(K:AB)(H:Hp)(p:AL)(G:¬V->Prop):Prop:=
 (∃vs,(SqL K H p vs∨SqT K H p vs)/\G vs)∨(∃j,H p=!.dK j/\G (j.map λx=>kV x.1)) ∨
  ∃j,H p=!.dT j/\∀bs:¬AL,Ez (λ(k:¬Key×V) b=>H b=!.tup (k.1.map kV)) j bs->G (bs.map V.ref)
def SW(H:Hp)(f:V->Z')(vs:¬V):Prop:=(∀v∈vs,∃n,v=.int n/\f v=[n])∨∀v∈vs,∃b,v=.ref b/\H b=!.tup ((f v).map V.int)/\f v≠[]
def qp(K:AB):¬V->Hp->VK->Prop:=λj H Q=>∃p,j=[.ref p]/\oV K H p λvs=>∃f:V->Z',SW H f vs /\
 ∀out,out.Perm vs->out.Pairwise (λx y=>ltL (f y) (f x)=false)->∀l,H l=none->Q (.ref l) (upd H l (.lst out))
theorem SW.rel(h:SW H f vs):∀v∈vs,∀u,RelV v u->br H u=f v:=λv j u r=>by
 rcases h with h | h
 ·let#[n,rfl,e]:=h v j
  let#[t,rfl]:=r;exact e.symm
 ·let#[b,rfl,e,_]:=h v j
  cases r;show(match H b with | some (.tup l)=>l.map RY | _=>[])=_;rw[e];exact N2 _
theorem Ug(hc:X.calm)(I:Inv X ζ σ H s)(h:oV X.K H p G) :
  ∃vs J,G vs/\Bl vs J/\-J<=sizeLine/\∀(R:¬AE->AK->Prop) (E:AE->AK->Prop),(∀(g:BG) (Y:Nat),(∀b o,s.heap.get? b=!o->g.get? b=!o)->R J { s with heap:=g,toks:=Y })->AW (AY X.prog X.w) X.A.in1 (collect (.ref p)) R E s:=by
 let hh:=I.ok.hd hc
 rcases h with⟨vs,sq,g⟩ | ⟨m,e,g⟩ | ⟨m,e,g⟩
 ·rcases sq with sq | sq
  ·let#[J,T,pl,P]:=I.list sq
   refine#[vs,J,g,T,by rw[<-T.length];exact P,λR E k=>collect_list pl.isList (k _ s.toks λb o e=>?_) (by rw[<-T.length];exact P)];rw[Yp _ _ _ _ (Ar (AX e))];exact AF _ e
  ·let#[J,T,#[o,ho,uF,n,hd],P]:=I.tuple sq
   let Z:-J<=sizeLine:=by rw[<-T.length];exact P
   exact#[vs,J,g,T,Z,λR E k=>wpAny_collect_seq p (.inr rfl) ho uF hd (λh' kp=>by simpa using k h' s.toks kp) (by simpa using Z)]
 ·let#[P,sm,us,kv,o,C,ep,g1,g2,g3,g5,g6,_]:=(I.hok p _ e)
  let hlen:C.size=-m:=by
   let a1:=-g6;let a2:=C5 kv;rw[Ad]at a1
   ext
  let hv:Bl (m.map λx=>kV x.1) (C.toList.map (·.key)):=by
   let Q:∀{l:¬La} {us:¬(Key×AE)} {m:¬(Key×V)},Pairs (Dt X.prog X.w) l us->KV m us->Bl (m.map λx=>kV x.1) (l.map (·.key)):=by
    intro l us m hp
    induction hp generalizing m with
    | nil=>intro h;cases h;exact .nil
    | cons q1 q2 _ ih=>
     intro h
     cases h with
     | cons r t=>
      refine .cons ?_ (ih t);symm;rw[r.1]
      rcases DT q1 with⟨i,t,e1,U⟩ | ⟨x,t,e1,U⟩
      ·rw[e1,U];exact#[t,rfl]
      ·rw[e1,U];exact#[t,rfl]
   exact Q g6 kv
  refine#[_,C.toList.map (·.key),g,hv,by ext,λR E k=>?_]
  refine Vf (Srt.Xy sm) hh #[o,g1,g2,g3] (by ext) λg' Y B kp S=>?_
  let:B.toList=C.toList.map (·.key):=by
   apply E0
   intro j
   by_cases L:j < C.size
   ·let N:j < B.size:=by rw[S.1];exact L
    let#[_,U]:=S.2 j B[j] (by simp[N]);ext
   ·let N:Not (j < B.size):=by rw[S.1];exact L
    simp[L,N]
  rw[this];exact k g' Y kp
 ·let#[P,sm,O,rr,o,C,ep,g1,g2,g3,g4,_]:=(I.hok p _ e)
  let hlen:C.size=-m:=by
   let a1:=congrArg Dp g4;let a2:=C5 rr;rw[Ad,AD]at a1
   ext
  let hb:Ez (λ(k:¬Key×V) b=>H b=!.tup (k.1.map kV)) m (O.map (·.2.1)):=by
   let Q:∀{m:¬(¬Key×V)} {O:¬(¬Key×AL×AE)},Ez (λ(p:¬Key×V) (q:¬Key×AL×AE)=>p.1=q.1/\H q.2.1=!.tup (p.1.map kV)/\RelV p.2 q.2.2) m O->Ez (λ(k:¬Key×V) b=>H b=!.tup (k.1.map kV)) m (O.map (·.2.1)):=by
    intro m O h
    induction h with
    | nil=>exact .nil
    | cons r _ ih=>exact .cons r.2.1 ih
   exact Q rr
  let hk:C.toList.map (·.key)=(O.map (·.2.1)).map AV:=by
   rw[g4,Aw,Aw];rfl
  let hv:∀l:¬AL,Bl (l.map V.ref) (l.map AV):=λl=>by
   induction l with
   | nil=>exact .nil
   | cons a l ih=>exact .cons rfl ih
  refine#[_,(O.map (·.2.1)).map AV,g _ hb,hv _,by rw[AD,AD,<-C5 rr];exact P,λR E k=>?_]
  refine Vf (Srt.Xy sm) hh #[o,g1,g2,g3] (by ext) λg' Y B kp S=>?_
  let:B.toList=(O.map (·.2.1)).map AV:=by
   rw[<-hk]
   apply E0
   intro j
   by_cases L:j < C.size
   ·let N:j < B.size:=by rw[S.1];exact L
    let#[_,U]:=S.2 j B[j] (by simp[N]);simp[L,N,U]
   ·let N:Not (j < B.size):=by rw[S.1];exact L
    simp[L,N]
  rw[this];exact k g' Y kp
theorem OX{X:Cx}{s:AK}{H:Hp}{f:V->Z'}{vs:¬V}{j:¬AE}(I:∀b xs,H b=!.tup xs->∃is:¬AE,Bl xs is/\fM s.heap b is.toArray)(h:SW H f vs)(G:Bl vs j)(N:2<=-j){A:BR}:Srt.Tw X.prog X.w A s j (br H):=by
 rcases id h with O | P
 ·let:∃ns,F9 j ns:=by
   let C:∀{vs:¬V} {j:¬AE},Bl vs j->(∀v∈vs,∃n,v=.int n/\f v=[n])->∃ns,F9 j ns:=by
    intro vs j r
    induction r with
    | nil=>exact λM=>#[[],.nil]
    | cons r _ R=>
     intro l
     let#[ns,B]:=R λv S=>l v (AN _ S)
     let#[n,rfl,_]:=l _ Aa;let#[t,rfl]:=r;exact#[n :: ns,.cons n t B]
   exact C G O
  let#[ns,B]:=this;let#[T,U,Y]:=Srt.Y6 B N;refine#[T,U,λx y J L Q E q=>Y x y J L Q E ?_];let#[n,t,Z]:=B.all _ (Srt.Gw J).1;let#[m,u,e2]:=B.all _ (Srt.Gw L).1
  let e:Srt.ltK Srt.cY x y=Srt.ltK (br H) x y:=by
   unfold Srt.ltK Srt.cY;rw[Z,e2];rfl
  ext
 ·refine Srt.Y5 (λu hu=>?_) (by intro e;ext)
  let#[v,l,r]:=QO G hu;rw[h.rel v l u r];let#[b,rfl,e,ne]:=P v l;cases r;refine#[#[b,?_],ne];let#[is,r,o,ho,uF,n,hd]:=I b _ e;exact#[is.toArray,rfl,#[o,ho,uF,n,hd],by simpa using intsAre_of r]
theorem Zm{X}(O:X.calm):IG X (.builtin "sorted") (qp X.K):=by
 intro P s S H T us Q I r h;let#[p,rfl,A]:=h;let#[u,rfl,U]:=vals1 r;cases U;let#[vs,m,#[f,j,q],B,C,col]:=Ug O I A;refine Im kind_sorted plain_sorted entry_sorted (args_sorted1 _) ?_;unfold Builtin.«sorted»;refine AA (AC (AA (col _ _ λg J kp=>?_)));refine AA (Yc ?_ C);let E:Inv X P S H { s with heap:=g,toks:=J }:=I.kept kp;let G:(g.push (Hn "list" m.toArray 0)).get? g.objs.size=!Hn "list" m.toArray 0:=AO _ rfl;refine AA (C0 (BI slot_list_sort #[_,G,rfl] sP (Srt.L5 (f:=br H) G C (λY s' keep=>?_) λout Z so=>#[_,rfl,AC #[_,rfl,?_]]) (args_list_sort _)))
 ·refine OX (λb T e=>?_) j B Y
  let#[_,is,r,o,L,uF,n,hd]:=(E.hok b _ e);exact#[is,r,o,keep b o (Ar (AX L)) (AF _ L),uF,n,hd]
 ·let#[w,N,pv]:=Oc Z.symm B
  let Ν:w.Pairwise (λx y=>ltL (f y) (f x)=false):=by
   let e:=Jn N λa ha b rb=>j.rel a (pv.mem_iff.mp ha) b rb
   let:=(BL (R:=λx y=>ltL y x=false)).mpr so;rw[e]at this;exact BL.mp this
  let#[k,hk]:=sortedHeap_at G
  let l:-w<=sizeLine:=by rw[pv.length_eq,B.length];exact C
  let I2:=E.laid (o:=.lst w) (t':=J) (h':=Vo (g.push (Hn "list" m.toArray 0)) g.objs.size m out)
   (λb u z=>by
    let lt:=AX z;rw[sortedHeap_old (Ar lt) (by rw[size_push'];exact EG lt)]
    exact AF _ z) (AM _) #[l,out.toList,k,N,hk]
  exact#[.ref g.objs.size,_,I2,rfl,q w pv Ν _ (E.hok.fresh (AM _))]
def CH(j:Z'):Z':=j.mergeSort (λa b=>decide (a<=b))
@[simp] def pI:CH []=[]:=by unfold CH;simp
theorem EB(ns:Z'):(CH ns).Perm ns:=Yk ns _
theorem P3(j:Z'):(CH j).Pairwise (·<=·):=by
 let:=UJ (le:=λa b:Int=>decide (a<=b)) (by intro a b c l m;simp at l m ⊢;lia) (by intro a b;simp;lia) j
 exact this.imp λh=>by simpa using h
def IW(j:¬Z'):¬Z':=j.mergeSort (λa b=>not (ltL b a))
theorem C7(rs:¬Z'):(IW rs).Perm rs:=Yk rs _
theorem Kb(j:¬Z'):(IW j).Pairwise (λa b=>ltL b a=false):=by
 let:=UJ (le:=λa b:Z'=>not (ltL b a)) (by intro a b c l m;simp at l m ⊢;exact Srt.TX _ _ _ l m) (by
  intro a b
  cases e:ltL b a with
  | false=>simp
  | true=>simp[Srt.QU _ _ e]) j
 exact this.imp λh=>by simpa using h
theorem LG{l l':¬Z'}(p:l.Perm l')(h:l.Pairwise (λa b=>ltL b a=false))(h':l'.Pairwise (λa b=>ltL b a=false)):l=l':=
 p.eq_of_pairwise (λa b G G j m=>Srt.YC a b m j) h h'
noncomputable def dB:Key->D
 | .inl i=>.int i
 | .inr x=>.str x
def Um(r:Z'):D:=.tup (r.map D.int)
def QA:¬D->⇑(¬Z')
 | []=>![]
 | .tup ds :: r=>match Kw ds,QA r with
  | some (n :: j),!l=>!(n :: j) :: l
  | _,_=>none
 | _ :: _=>none
def Kc(ds:¬D):⇑(¬D):=match Kw ds with
 | some j=>!(CH j).map D.int
 | none=>match QA ds with
  | some l=>!(IW l).map Um
  | none=>none
section
theorem iz(x y:Int):ltL [y] [x]=decide (y < x):=by
 show(if y=x then false else decide (y < x))=_;split
 ·ext
 ·rfl
def E5(H:Hp):V->Z'
 | .int n=>[n]
 | .ref b=>match H b with
  | some (.tup j)=>j.map RY
  | _=>[]
 | _=>[]
set_option tactic.hygienic true in
theorem P9{K}{ρ}{H}:∀{ds:¬D} {j:¬Z'} {vs:¬V},QA ds=!j->A7 K ρ H ds vs->vs.map (E5 H)=j/\∀v∈vs,∃b,v=.ref b/\H b=!.tup ((E5 H v).map V.int)/\E5 H v≠[]
 | ds,j,_,h,g=>by
  cases g with
  | nil=>cases h;ext
  | @cons d v ds vs r t=>
   cases d with
   | tup B=>
    unfold QA at h;split at h
    ·rename_i n ns l m o
     cases h;let#[C,E]:=P9 o t
     cases r with
     | @tup _ b G hb w=>
      let:=QZ m;subst this;let:=w.ints;subst this
      let e:E5 H (.ref b)=n :: ns:=by
       show(match H b with | some (.tup A)=>A.map RY | _=>[])=_;rw[hb];exact N2 _
      grind
    ·cases h
   | _=>cases h
theorem QB{K}{ρ}{H}:∀{vs:¬V},(∀v∈vs,∃b,v=.ref b/\H b=!.tup ((E5 H v).map V.int)/\E5 H v≠[])->A7 K ρ H ((vs.map (E5 H)).map Um) vs
 | [],_=>.nil
 | v :: vs,h=>by
  let#[b,e,hb,_]:=h v Aa;refine .cons ?_ (QB λu j=>h u (AN _ j));subst e;exact .tup hb (A7.of_ints _)
set_option tactic.hygienic true in
theorem bZ{K:AB}{ρ:¬AL}{H:Hp}{ds es:¬D}{vs:¬V}(h:Kc ds=!es)(r:A7 K ρ H ds vs) :
  ∃f:V->Z',SW H f vs/\∀out,out.Perm vs->out.Pairwise (λx y=>ltL (f y) (f x)=false)->A7 K ρ H es out:=by
 unfold Kc at h;split at h
 ·rename_i ns B
  cases h;let:=QZ B;subst this;let:=r.ints;subst this;refine#[λv=>[RY v],.inl λv j=>?_,λout l m=>?_]
  ·let#[n,_,rfl]:=Ay.mp j
   exact#[n,rfl,rfl]
  ·let C:out=(out.map RY).map V.int:=by
    rw[Aw]
    conv=>lhs;rw[<-Ln out]
    refine B0 λv j=>?_
    let#[n,_,rfl]:=Ay.mp (l.mem_iff.mp j);rfl
   let o:out.map RY=CH ns:=by
    let E:(out.map RY).Perm (CH ns):=by
     let:=l.map RY;rw[N2]at this;exact this.trans (EB ns).symm
    refine E.eq_of_pairwise (λa b M M G I=>Int.le_antisymm G I) ?_ (P3 ns);rw[BL]
    refine m.imp λ{x y} w=>?_
    rw[iz]at w;simp at w;exact w
   rw[C,o];exact A7.of_ints _
 ·split at h
  ·rename_i rs J
   cases h;let#[L,A]:=P9 J r;refine#[E5 H,.inr A,λout l m=>?_]
   let o:out.map (E5 H)=IW rs:=by
    refine LG ?_ (BL.mpr m) (Kb rs);let:=l.map (E5 H);rw[L]at this;exact this.trans (C7 rs).symm
   rw[<-o]
   exact QB λv j=>A v (l.mem_iff.mp j)
  ·cases h
theorem keys_rel{K}{ρ}{H}:∀ks:¬Key,A7 K ρ H (ks.map dB) (ks.map kV)
 | []=>.nil
 | .inl i :: ks=>.cons (.int i) (keys_rel ks)
 | .inr x :: ks=>.cons (.str x) (keys_rel ks)
theorem NN{K}{ρ}{H}:∀{kvs:¬(Key×D)} {j:¬(Key×V)},KVR K ρ H kvs j->A7 K ρ H (kvs.map λx=>dB x.1) (j.map λx=>kV x.1)
 | _,_,.nil=>.nil
 | (k,_) :: _,(l,_) :: _,.cons r t=>by
  let e:=r.1;subst e
  cases k with
  | inl i=>exact .cons (.int i) (NN t)
  | inr x=>exact .cons (.str x) (NN t)
theorem VG{K}{ρ}{H}:∀{kvs:¬(¬Key×D)} {j:¬(¬Key×V)} {bs:¬AL},KVR K ρ H kvs j->Ez (λ(k:¬Key×V) b=>H b=!.tup (k.1.map kV)) j bs->A7 K ρ H (kvs.map λx=>.tup (x.1.map dB)) (bs.map V.ref)
 | _,_,_,h,g=>by
  cases h with
  | nil=>cases g;exact .nil
  | @cons a b _ _ r t=>
   cases g with
   | cons l m=>
    let e:=r.1;rw[<-e]at l;exact .cons (.tup l (keys_rel a.1)) (VG t m)
end
theorem Tf{K}{t}(h:∀A∈["NoneType", "bool", "int", "str", "tuple", "list", "dict"],Do K (.type A) (.type t)=kL t A):∀A b,isB t A=!b->Do K (.type A) (.type t)=!b:=λA b e=>by
 unfold isB at e
 grind
theorem ZV{K}:∀A b,isB "tuple" A=!b->Do K (.type A) (.type "tuple")=!b:=Tf λA h=>by
 simp only[Ak,DM,or_false]at h
 rcases h with rfl | rfl | rfl | rfl | rfl | rfl | rfl <;> kernel_rfl
theorem dI{K}:∀A b,isB "list" A=!b->Do K (.type A) (.type "list")=!b:=Tf λA h=>by
 simp only[Ak,DM,or_false]at h
 rcases h with rfl | rfl | rfl | rfl | rfl | rfl | rfl <;> kernel_rfl
theorem jD{K}:∀A b,isB "int" A=!b->Do K (.type A) (.type "int")=!b:=Tf λA h=>by
 simp only[Ak,DM,or_false]at h
 rcases h with rfl | rfl | rfl | rfl | rfl | rfl | rfl <;> kernel_rfl
theorem dJ{K}:∀A b,isB "bool" A=!b->Do K (.type A) (.type "bool")=!b:=Tf λA h=>by
 simp only[Ak,DM,or_false]at h
 rcases h with rfl | rfl | rfl | rfl | rfl | rfl | rfl <;> kernel_rfl
def bY(K:AB):Sp:=λvs H Q G=>∃(a:AL) (j:Z'),vs=[.ref a]/\Vd K H a (j.map V.int)/\-j<=63/\∀l,Q (.bl true) l
theorem frz_of{K:AB}{H:Hp}{a:AL}{j:Z'}(l:jY H)(m:SqL K H a (j.map V.int)):Vd K H a (j.map V.int):=by
 rcases m with(h | h) | h
 ·rcases l a with z | ⟨o,w,z⟩ <;> rw[z]at h <;> cases h
 ·exact .inl h
 ·exact .inr h
theorem oK(h:CXG P w [] H s (λG G G=>False) e s'):False:=by
 let#[_,_,_,_,_,_,_,_,_,z]:=h;exact z
def Keeps(S S':Sto):Prop:=-S<=-S'/\∀j,j < -S->S'[j]?=S[j]?
theorem Keeps.trans(a:Keeps S l)(b:Keeps l S2):Keeps S S2:=#[A5 a.1 b.1,λj h=>(b.2 j (Ab h a.1)).trans (a.2 j h)]
theorem Keeps.set(a:Keeps S l)(h:-S<=m)(o:Ob):Keeps S (l.set m o):=#[by simpa using a.1,λj w=>by rw[C1 ∅];exact a.2 j w]
theorem U9(h:S[n]?=!.lst ds):Wu (.ref n) S=!ds:=by
 unfold Wu;ext
end L2
namespace PySem
open PySem.Sem (wp)
set_option tactic.hygienic true in
theorem Kt(l:AL)(items:Array AE)(n:Nat)(B:⇑AL)(C:Array (⇑AE)) :
  Meets (Builtin.«enumerate.__new__» #[[.type "enumerate",.ref l],[]]) (λI R s=>s.heap.get? l=some { cls:=.type "tuple",dict:=B,data:=.seq items n,slots:=C } /\
   R (.ok (.ret (.ref (s.heap.push { cls:=.type "tuple_iterator",data:=.fields [.ref l,.int 0 0].toArray }).objs.size)))
    { s with heap:=(s.heap.push { cls:=.type "tuple_iterator",data:=.fields [.ref l,.int 0 0].toArray }).push { cls:=.type "enumerate",data:=.fields [.none,.bool false,.ref s.heap.objs.size,Ih 0,.none,.none].toArray } }):=
 .of_wp λo w A R s h=>by
  let#[E,g,d,G,os]:=s;let#[j,h]:=h;let H:=sub_enumerate;let m:BG.IsTuple (AK.heap #[E,g,d,G,os]) l items:=#[_,j,rfl,n,rfl]
  wp_walk using FY j
  refine wpAny_stack_any λst=>AC ?_
  split
  ·rename_i c _ _ _ _ _
   cases(c==F8 "enumerate")
   ·wp_walk using FY j,Go m
    exact#[_,rfl,h]
   ·wp_walk using FY j,Go m
    exact#[_,rfl,h]
  ·wp_walk using FY j,Go m
   exact#[_,rfl,h]
section
variable{w:A3}{A:BR}{E:AE->AK->Prop}{s:AK}
theorem K3(H:s.heap.IsTuple l j)
  (h:∀h',Sg h' (s.heap.objs.size+1) s.heap.objs.size 0 .none->h'.IsTupleIter s.heap.objs.size l 0->h'.objs.size=s.heap.objs.size+2 ->
   (∀b o,s.heap.get? b=!o->h'.get? b=!o)->Q (.ref (s.heap.objs.size+1)) { s with heap:=h' }) :
  AW (AY prog w) A (call (.type "enumerate") [.ref l]) Q E s:=by
 let#[#[c,I,J,L],N,m,n,B]:=H
 replace m:c=.type "tuple":=m
 replace B:J=.seq j n:=B
 subst m B
 refine callType_new F.called_enumerate (by rfl) (F.typeCall_enumerate_1 _) (F.newCall_enumerate_1 _) (λobj=>F.args_object_init_2 obj _) F.entry_enumerate_new
  (Kt l j n I L) #[N,?_]
 let C:(s.heap.push { cls:=.type "tuple_iterator",data:=.fields [.ref l,.int 0 0].toArray }).objs.size=s.heap.objs.size+1:=DC ..;rw[C]
 let G:Sg ((s.heap.push { cls:=.type "tuple_iterator",data:=.fields [.ref l,.int 0 0].toArray }).push
   { cls:=.type "enumerate",data:=.fields [.none,.bool false,.ref s.heap.objs.size,Ih 0,.none,.none].toArray }) (s.heap.objs.size+1) s.heap.objs.size 0 .none:=by
  let:=AO (s.heap.push { cls:=.type "tuple_iterator",data:=.fields [.ref l,.int 0 0].toArray })
   (o:={ cls:=.type "enumerate",data:=.fields [.none,.bool false,.ref s.heap.objs.size,Ih 0,.none,.none].toArray }) rfl
  rw[C]at this;exact this
 refine#[#[_,G,rfl],h _ G #[_,AF _ (AO _ rfl),rfl,rfl] ∅ λb o x=>AF _ (AF _ x)]
theorem NJ{it t}{i}{j}{x}{Q}(l:s.heap.IsTupleIter it t i)
  (C:s.heap.IsTuple t j) (G:j[i]?=!x)
  (H:∀h',h'.IsTupleIter it t (i+1)->DV it s.heap h'->Q x { s with heap:=h' }) :
  AW (AY prog w) A (EY (.ref it)) Q E s:=by
 let#[o,B,I,m]:=id l;let#[N,J,_,O,L]:=C;unfold EY
 refine AA (BJ l.typeIs Fc
  (BI Fc l.typeIs UB ?_ (Sj _)))
 show AW _ _ (field (.ref it) 0 >>= _) _ _ s;refine AA (ER B m rfl ?_);show AW _ _ (if (AV t==CQ) then _ else _) _ _ s;rw[qY (show Not ((AV t==CQ)=true)from An)];refine AA (ER B m rfl ?_);refine AA (Eg J L ?_);simp only[Ax,G];refine AA (HK B m ∅ (AC #[x,rfl,AC (H _ ?_ (B7 ..))]))
 exact#[_,Cq _ B (XO (Ij m _)),(eW ..).trans I,by
  rw[Ij m];simp[Ih]]
theorem JX{it t}{i}{j}{Q}(C:A.handled=none)
  (l:s.heap.IsTupleIter it t i) (G:s.heap.IsTuple t j) (H:j[i]?=none)
  (I:∀h' e,Lr it s.heap h'->(∃o,h'.get? e=!o/\o.cls=.type "StopIteration")->E (.ref e) { s with heap:=h' }) :
  AW (AY prog w) A (EY (.ref it)) Q E s:=by
 let#[o,m,N,B]:=id l;let#[O,J,_,P,L]:=G;unfold EY
 refine AA (BJ l.typeIs Fc
  (BI Fc l.typeIs UB ?_ (Sj _)))
 show AW _ _ (field (.ref it) 0 >>= _) _ _ s;refine AA (ER m B rfl ?_);show AW _ _ (if (AV t==CQ) then _ else _) _ _ s;rw[qY (show Not ((AV t==CQ)=true)from An)];refine AA (ER m B rfl ?_);refine AA (Eg J L ?_);simp only[Ax,H];refine AA (Hm (AA (HK m B ∅ ?_)));refine AA ?_;refine AA (A8 ?_ (by size_fits));refine AA (DA (by first | rfl | (simp only[Nb];rfl)) ?_);refine A8 ?_ (by size_fits);refine AA (Ox ?_)
 first | rw[show A.in1.handled=none from C] | rw[C]
 refine AA (AC (T0 ?_));exact I _ _ (((B7 ..).extBut.push _).push _) #[_,AO _ rfl,rfl]
theorem Ve(H:A.handled=none)(it l:AL)(I:l≠it)(j:Array AE) :
  Draws prog w A it [it,l] j.size (λi v=>j[i]?=!v) (λi h=>h.IsTupleIter it l i/\h.IsTuple l j) where
 live:=λM M st=>let #[o,B,_]:=st.1;#[o,B]
 frame:=λM M M st C=>#[st.1.at λo e=>C it ∅ o e,let #[o,B,r]:=st.2;#[o,C l ∅ o B,r]]
 item:=λi s Q E G st J=>by
  refine NJ st.1 st.2 (x:=j[i]) (by simp[G]) λL N m=>?_
  exact J _ L s.toks (by simp[G]) #[N,st.2.extBut m.extBut I] m
 done:=λs Q E st O=>JX H st.1 st.2 ∅ O
theorem Lc{e it l:AL}{i:Nat}{j:Array AE}{m:AE}{Q:⇑AE->AK->Prop}(H:A.handled=none)
  (C:Sg s.heap e it i m) (B:s.heap.IsTupleIter it l i) (hl:s.heap.IsTuple l j) (I:j[i]?=none)
  (J:∀h',Lr it s.heap h'->Q none { s with heap:=h' }):AW (AY prog w) A (GG (.ref e)) Q E s:=by
 let G:s.TypeIs (.ref e) "enumerate":=#[_,C,rfl];unfold GG
 refine AA (FL (BJ G aB
  (BI aB G F.entry_enumerate_next ?_ (F.args_enumerate_next_1 _))))
 show AW _ _ (field (.ref e) 2 >>= _) _ _ _;refine AA (ER C rfl rfl ?_);refine AA (JX H B hl I λh' x L N=>?_);let#[o,O,P]:=N;refine AA (D0 #[o,O,P] Na ?_);exact AC (J _ L)
end
end PySem
namespace L2
theorem Inv.turned2(I:Inv X B G H s)(k:∀b u,b≠e->b≠it->s.heap.get? b=!u->h'.get? b=!u)
  (fe:MW X B H e) (l:MW X B H it) (E:s.heap.objs.size<=a) (new:CZ X.prog X.w (upd H a o) h' a o):Inv X B G (upd H a o) { s with heap:=h',toks:=t' }:=by
 let A:=I.hok.fresh E
 let J:∀b u,H b=!u->b≠e/\b≠it:=λb u q=>#[λz=>(by rw[z,fe.1]at q;cases q),λz=>(by rw[z,l.1]at q;cases q)]
 let out:∀b:AL,b∉[e,it]->b≠e/\b≠it:=λb hb=>#[λz=>hb (by simp[z]),λz=>hb (by simp[z])]
 refine I.step (g':=s.gens) (d':=s.drawn) (λb hb=>?_) (λb o M M j q M=>k b o (out b j).1 (out b j).2 q) (λb o M M j q M=>#[o.slots,k b o (out b j).1 (out b j).2 q]) (λb o M q n=>?_)
  (λb o j q=>#[o,k b o (out b j).1 (out b j).2 q]) (λb L q=>by rw[AQ (ED q A)];exact q) (λb o u q=>by rw[AQ (ED q A)];exact q) (λb R q=>#[#[],by rw[AQ (ED q A),q];simp]) (λm N=>?_) (λb u q=>?_) I.bare
 ·let C:b=e∨b=it:=by simpa using hb
  rcases C with z | z
  ·subst z;exact#[fe.2.2.2.1,fe.2.1,fe.2.2.2.2.1,fe.2.2.2.2.2]
  ·subst z;exact#[l.2.2.2.1,l.2.1,l.2.2.2.2.1,l.2.2.2.2.2]
 ·rw[AQ (Ar (Ab (AX q) E))];exact n
 ·let#[o,O,P,Q,r]:=N
  exact#[o,O,P,k _ o (CU fe.2.1) (CU l.2.1) Q,r]
 ·by_cases hb:b=a
  ·subst hb;rw[Ap]at q;ext
  ·rw[AQ hb]at q
   refine(I.hok b u q).stay (λc v j r=>?_) (λc r=>by rw[AQ (ED r A)];exact r) λc L r=>by rw[AQ (ED r A)];exact r
   grind
def Ite(sq:Hp->¬V->Prop):It:=
 #[λi H=>∃j x,sq H j/\j[i]?=!x,λi H y l=>∃p x,H p=none/\y=.ref p/\l=upd H p (.tup [.int i,x])/\∀j,sq H j->j[i]?=!x,λi H=>∃j,sq H j/\-j<=i]
section
variable{P:Ao}{w:A3}{K:AB}{elts:¬Expr}{x1:Nat}{pos:Pos}
theorem SN{X:Cx}{m:¬(AL×Obj)}{G:St}{H:Hp}{s:AK}{E:AE->AK->Prop}{sq:Hp->¬V->Prop}{e it:AL}{i:Nat}{x:V}{u:AE}{j:Nat}{h':BG}{tn:Nat->BG->Prop}
  (I:Inv X m G H s) (tq:e≠it) (J:∀b∈[e,it],MW X m H b) (le:e < s.heap.objs.size) (R:it < s.heap.objs.size) (S:RelV x u) (T:∀xs,sq H xs->xs[i]?=!x)
  (U:IsEnumOut h' e it ((i:Int)+1) u s.heap.objs.size) (L:h'.get? s.heap.objs.size=some { cls:=.type "tuple",data:=.seq [.int i j,u].toArray }) (Y:∀b o,b≠e->b≠it->s.heap.get? b=!o->h'.get? b=!o)
  (Z:∀l,DV e h' l->(∃B,Sg l e it ((i+1:Nat):Int) B)->tn (i+1) l) :
  AW (AY X.prog X.w) X.A (MY (.Tuple elts x1 pos) (.ref e) (.ref s.heap.objs.size)) (λM N=>∃y H',Inv X m G H' N/\RelV y (.ref s.heap.objs.size)/\(Ite sq).yld i H y H'/\tn (i+1) N.heap/\∀b∈[e,it],H' b=none) E { s with heap:=h',toks:=j+1 }:=by
 let fe:=J e ∅;let O:=J it ∅;let ne:=Ar le;let ni:=Ar R
 let new:CZ X.prog X.w (upd H s.heap.objs.size (.tup [.int i,x])) h' s.heap.objs.size (.tup [.int i,x]):=
  #[#[A5 (show 2<=1000 by decide) ∅,_,L,rfl],[.int i j,u],.cons #[j,rfl] (.cons S .nil),_,L,rfl,_,rfl]
 let I1:=I.turned2 (t':=j+1) Y fe O (AM _) new
 refine wpAny_letOwnedTupleGo_enum U λl he2 ud=>?_
 let Q:=ud;let I2:=I1.turned (t':=j+1) (h':=l) (λb o hb q=>(Q.2 b hb).trans q) (by rw[AQ ne];exact fe.1) fe.2.1 fe.2.2.2.1 fe.2.2.2.2.1 fe.2.2.2.2.2;refine#[.ref s.heap.objs.size,_,I2,rfl,#[s.heap.objs.size,x,I.hok.fresh (AM _),rfl,rfl,T],Z l Q #[u,by assumption],λb hb=>?_]
 let C:b=e∨b=it:=by simpa using hb
 rcases C with z | z
 ·rw[z,AQ ne];exact fe.1
 ·rw[z,AQ ni];exact O.1
theorem WP(a e it:AL)(B:e≠it):Qw P w K (.Tuple elts x1 pos) (Ite λH xs=>SqL K H a xs) [e,it] e (λi h=>(∃j,Sg h e it i j)/\h.IsListIter it a i) where
 mem:=by simp
 obj:=λi h st b hb=>by
  let C:b=e∨b=it:=by simpa using hb
  rcases C with z | z
  ·grind
  ·subst z
   let#[_,o,e,c,d]:=st
   grind
 keep:=λi h S st k=>#[st.1.imp λj m=>k e ∅ _ m,st.2.at λo q=>k it ∅ o q]
 item:=by
  intro X G hw J T i U s Y H E I L st N;subst G hw J;let#[xs,x,A,O]:=N;let#[Z,Q,p,hz]:=I.list A;let#[u,hu,ru]:=Q.get O;let#[#[j,m],l]:=st
  let li:it < s.heap.objs.size:=by let#[o,q,_]:=l;exact AX q
  refine wpAny_pyNext_enum_item m l p.isList (by simpa using hu) B λS ho xi hT hsz hk=>?_
  exact#[_,rfl,SN (tn:=λi h=>(∃j,Sg h e it i j)/\h.IsListIter it a i) I B L (AX m) li ru (λys hy=>by rw[I.list_inj hy A];exact O) ho hT hk λh2 ud R=>#[R,xi.at λo q=>(ud.2 it (CU B)).trans q]]
 done:=by
  intro X G hw J T i U s Y H E I L st N;subst G hw J;let#[xs,A,O]:=N;let#[Z,Q,p,hz]:=I.list A;let#[#[j,m],l]:=st;let#[f0,f1,f2,f3,f4,f5]:=L it ∅;let hl:=-Q
  exact wpAny_pyNext_enum_end (I.ok.hd T) m l p.isList (by simp;lia) λS eb=>#[rfl,I.turned (t':=s.toks) (λb o hb e=>eb b o hb e) f0 f1 f3 f4 f5]
 self:=λM M M M M st h=>by
  let#[#[j,m],_]:=st;exact KF m h
theorem WO(a e it:AL)(G:e≠it)(J:a≠it)(hef:e≠a):Qw P w K (.Tuple elts x1 pos) (Ite λH xs=>SqT K H a xs) [e,it] e (λi h=>(∃j,Sg h e it i j)/\h.IsTupleIter it a i) where
 mem:=by simp
 obj:=λi h st b hb=>by
  let L:b=e∨b=it:=by simpa using hb
  rcases L with z | z
  ·grind
  ·subst z
   let#[_,o,e,c,d]:=st
   grind
 keep:=λi h Z st k=>#[st.1.imp λj m=>k e ∅ _ m,st.2.at λo q=>k it ∅ o q]
 item:=by
  intro X N hw O Q i ζ s σ H E I R st S;subst N hw O;let#[xs,x,B,T]:=S;let#[C,U,p,hz]:=I.tuple B;let p':=p;let#[u,hu,ru]:=U.get T
  let my:i < C.toArray.size:=by
   let:=(AI.mp hu).1;simpa using this
  let#[#[j,m],l]:=st
  let li:it < s.heap.objs.size:=by let#[o,q,_]:=l;exact AX q
  refine wpAny_pyNext_enum_itemD (Ve (A:=X.A.in1) (I.ok.hd Q) it a J C.toArray) m #[l,p'] my G (by ext) λu' Z tk w8 ho xj hT hsz hk=>?_
  let:u'=u:=by
   let zE:C[i]?=!u':=by simpa using w8
   rw[hu]at zE;cases zE;rfl
  subst this;exact#[_,rfl,SN (tn:=λi h=>(∃j,Sg h e it i j)/\h.IsTupleIter it a i) I G R (AX m) li ru (λys hy=>by rw[I.tuple_inj hy B];exact T) ho hT hk λh2 ud Y=>#[Y,xj.1.at λo q=>(ud.2 it (CU G)).trans q]]
 done:=by
  intro X N hw O Q i ζ s σ H E I R st S;subst N hw O;let#[xs,B,T]:=S;let#[C,U,p,hz]:=I.tuple B;let#[#[j,m],l]:=st;let#[f0,f1,f2,f3,f4,f5]:=R it ∅;let hl:=-U
  exact Lc (I.ok.hd Q) m l (p) (by simp;lia) λZ eb=>#[rfl,I.turned (t':=s.toks) (λb o hb e=>eb b o hb e) f0 f1 f3 f4 f5]
 self:=λM M M M M st h=>by
  let#[#[j,m],_]:=st;exact KF m h
end
section
variable{X:Cx}{e:Expr}{elts:¬Expr}{x1:Nat}{p pos Ο:Pos}{ta:TA}
def rh(K:AB)(ta:TA):TI:=λm H R=>ta m H λvs l=>∃a,vs=[.ref a]/\(((∃j,SqL K l a j)/\R (Ite λH j=>SqL K H a j) l)∨((∃j,SqT K l a j)/\R (Ite λH j=>SqT K H a j) l))
theorem iV(Q:Gl X "enumerate") (S:X.mg "enumerate" = none) (T:PA X [e] ta) (hs:↑(AG [e] X.env=[(false,A2 e X.env)])):PI X (.Tuple elts x1 Ο) (.Call (.Name "enumerate" p) [e] [] pos) (rh X.K ta):=by
 intro N s U H R I h;refine pH (IB I Q S boot_enumerate (Br (thn (T pos N s U H _ I h) ?_) hs rfl));rintro us j ⟨vs,B,l,Y,C⟩;let#[a,rfl,C]:=C;let#[u,rfl,Z]:=vals1 Y;cases Z
 let O:∀{h':BG} (b:AL),b∈[j.heap.objs.size+1,j.heap.objs.size]->MW X N B b:=λb hb=>by
  let E:b=j.heap.objs.size+1∨b=j.heap.objs.size:=by simpa using hb
  rcases E with z | z
  ·rw[z];exact l.fpOk (Q6 _) (l.hok.fresh (Q6 _))
  ·rw[z];exact l.fpOk (AM _) (l.hok.fresh (AM _))
 rcases C with⟨⟨xs,sq⟩,q⟩ | ⟨⟨xs,sq⟩,q⟩
 ·let#[mh,rv,G,hz]:=l.list sq
  refine call_enumerate_list G.isList λh' w m J L=>KF w ?_
  exact#[_,[j.heap.objs.size+1,j.heap.objs.size],_,_,B,rfl,l.kept (t':=j.toks) L,WP a _ _ (fF _),#[#[_,w],m],O (h':=h'),q]
 ·let#[mh,rv,G,hz]:=l.tuple sq
  let A:=G
  let P:a < j.heap.objs.size:=by let#[o,q,_]:=A;exact AX q
  refine K3 A λh' w m J L=>KF w ?_
  exact#[_,[j.heap.objs.size+1,j.heap.objs.size],_,_,B,rfl,l.kept (t':=j.toks) L,WO a _ _ (fF _) (Ar P) (Ek (EG P)),#[#[_,w],m],O (h':=h'),q]
end
theorem ID{l:Type}{xs:¬l}{j:Int}{x:l}(m:0<=j)(h:xs[j.toNat]?=!x):atI xs j=!x:=by
 let o:=(AI.mp h).1;unfold atI ixN;ext
theorem oM{j:Type}(xs:¬j){k:Nat}(h:k<=-xs):Ot xs none (!(k:Int))=xs.take k:=by
 unfold Ot;rw[HT.Xv,HT.Uk,jg h];simp
theorem dr{j:Type}(xs:¬j){k:Nat}(h:k<=-xs):Ot xs (!(k:Int)) none=xs.drop k:=by
 unfold Ot;rw[HT.Xv,HT.Uk,jg h];exact Cb ∅
theorem nR{j:Type}:∀{l:¬j},l.length=1->∃m,l=[m]
 | [a],_=>#[a,rfl]
theorem rW{m:Type}:∀{l:¬m},l.length=2->∃o j,l=[o,j]
 | y :: _,q=>by
  let#[j,rfl]:=nR (Mc q)
  lia
theorem rT{o:Type}:∀{l:¬o},l.length=3->∃w j m,l=[w,j,m]
 | y :: _,q=>by
  let#[j,m,rfl]:=rW (Mc q)
  lia
theorem rS{w:Type}:∀{l:¬w},l.length=4->∃A j m o,l=[A,j,m,o]
 | y :: _,q=>by
  let#[j,m,o,rfl]:=rT (Mc q)
  lia
theorem len5{A:Type}:∀{l:¬A},l.length=5->∃B j m o w,l=[B,j,m,o,w]
 | y :: _,q=>by
  let#[j,m,o,w,rfl]:=rS (Mc q)
  lia
def Itv(K:AB)(a:AL)(n:Nat):It:=
 #[λi H=>∃j x,SqL K H a j/\-j=n/\j.reverse[i]?=!x,λi H x l=>l=H/\∀j,SqL K H a j->j.reverse[i]?=!x,λi H=>∃j,SqL K H a j/\-j=n/\n<=i]
theorem bU{P}{w}{K}{tg}(a it:AL)(n:Nat):Qw P w K tg (Itv K a n) [it] it (λi h=>i<=n/\h.IsRevIter it a ((n:Int) - 1 - i)) where
 mem:=by simp
 obj:=λi h st b hb=>by
  let e:b=it:=by simpa using hb
  subst e;let#[_,o,e,c,d]:=st;ext
 keep:=λi h T st k=>#[st.1,st.2.at λo e=>k it ∅ o e]
 item:=by
  intro X m hw A U i ζ s σ H E I j st B;subst m hw A;let#[vN,st]:=st;let#[C,x,G,Y,l]:=B
  let hi:i < n:=by let:=(AI.mp l).1;simpa[Y]using this
  let Z:=l;rw[V6 (by ext)]at Z;let#[mh,rv,p,hz]:=I.list G;let#[u,hu,ru]:=rv.get Z;let#[J,L,f2,N,O,Q]:=j it ∅
  let R:(n:Int) - 1 - (i:Int)=((-C - 1 - i:Nat):Int):=by grind
  rw[R]at st
  refine wpAny_pyNext_rev_item st p.isList (by simpa using hu) λT S sb=>?_
  let I1:=I.turned (t':=s.toks) (λb o hb e=>(sb.2 b hb).trans e) J L N O Q;let#[o,e,c,d]:=id S;refine#[u,rfl,SI e c d (by rfl) #[x,H,I1,ru,#[rfl,λys hy=>by rw[I.list_inj hy G];exact l],#[hi,?_],λb hb=>(j b hb).1]]
  let e1:(n:Int) - 1 - ((i+1:Nat):Int)=((-C - 1 - i:Nat):Int) - 1:=by lia
  ext
 done:=by
  intro X m hw A U i ζ s σ H E I j st B;subst m hw A;let#[vN,st]:=st;let#[C,G,Y,l]:=B;let#[J,L,f2,N,O,Q]:=j it ∅
  let R:(n:Int) - 1 - (i:Int) = -1:=by lia
  rw[R]at st
  exact wpAny_pyNext_rev_end (I.ok.hd U) st λT eb=>#[rfl,I.turned (t':=s.toks) (λb o hb e=>eb b o hb e) J L N O Q]
 self:=λM M M M M st h=>eh st.2 h
section
def re(K:AB)(ta:TA):TI:=λm H R=>ta m H λvs j=>∃a l,vs=[.ref a]/\SqL K j a l/\R (Itv K a (-l)) j
theorem mR(A:Gl X "reversed") (B:X.mg "reversed" = none) (C:PA X [e] ta) (hs:↑(AG [e] X.env=[(false,A2 e X.env)])):PI X tg (.Call (.Name "reversed" p) [e] [] pos) (re X.K ta):=by
 intro E s G H R I h;refine pH (IB I A B boot_reversed (Br (thn (C pos E s G H _ I h) ?_) hs rfl));rintro U j ⟨vs,J,m,L,N⟩;let#[a,w,rfl,sq,q]:=N;let#[u,rfl,O]:=vals1 L;cases O;let#[P,Q,S,Y]:=m.list sq;let T:=-Q;refine call_reversed_list S.isList ?_;let l:(j.heap.push (revObj a ((P.toArray.size:Int) - 1))).IsRevIter j.heap.objs.size a ((-w:Int) - 1 - ((0:Nat):Int)):=#[_,AO _ rfl,rfl,by simp[revObj,T]];refine eh l #[j.heap.objs.size,[j.heap.objs.size],_,_,J,rfl,m.kept (t':=j.toks) λb o e=>AF _ e,bU a _ (-w),#[Bc _,l],λb hb=>?_,q]
 let e:b=j.heap.objs.size:=by simpa using hb
 subst e;exact m.fpOk (AM _) (m.hok.fresh (AM _))
end
def Itd(lo:Int)(n:Nat):It:=#[λi G=>i < n,λi H x j=>j=H/\x=.int (lo - i),λi G=>n<=i]
theorem Ue{P}{w}{K}{tg}(it:AL)(lo:Int)(n:Nat):Qw P w K tg (Itd lo n) [it] it (λi h=>UA h it (lo+(i:Nat) * -1) ((n:Int) - (i:Nat)) (-1)) where
 mem:=by simp
 obj:=λi h st b hb=>by
  ext
 keep:=λi h m st k=>k it ∅ _ st
 item:=by
  intro X A hw B C i R s S H E I l st G;subst A hw B;let#[J,L,T,N,O,Q]:=l it ∅;let W:=oy (prog:=X.prog) (w:=X.w) (I.ok.hd C) it lo (-1) n
  refine W.item i s _ _ G st λv m U Y j Z=>?_
  let#[t,rfl]:=Y;let I1:Inv X R S H { s with heap:=m,toks:=U }:=I.turned (λb o hb e=>Z b o (by ext) e) J L N O Q;refine#[_,rfl,SI j rfl rfl (by rfl) #[.int (lo - i),H,I1,#[t,?_],#[rfl,rfl],j,λb hb=>(l b hb).1]]
  congr 1
  lia
 done:=by
  intro X A hw B C i R s S H E I l st G;subst A hw B;let#[J,L,T,N,O,Q]:=l it ∅
  exact aC (I.ok.hd C) st (by let:n<=i:=G;lia) λm eb=>#[rfl,I.turned (t':=s.toks) (λb o hb e=>eb b o hb e) J L N O Q]
 self:=λM M M M M st h=>MA st h
end L2
namespace HT
section
variable{E:AE->AK->Prop}
theorem NR{t m}{j}{o B}{lo hi}{Q}(l:fM s.heap t j)(hs:s.heap.IsSliceOf m o B .none)(pl:Ni o lo)(C:Ni B hi)
  (hw:sIx j.size 0 lo=0/\sIx j.size j.size hi=j.size) (h:Q (.ref t) s):AW (AY prog w) A (JF (.ref t) (.ref m)) Q E s:=by
 let#[os,G,H,J]:=id hs;let I:s.TypeIs (.ref m) "slice":=#[os,G,H];unfold JF
 try with_reducible refine C0 ?_
 first | refine AA (AC ?_) | skip
 refine AA (og l.typeIs (by rfl) (AA (BJ l.typeIs CK
  (BI CK l.typeIs ja ?_ (kj _ _)))))
 show AW (AY prog w) _ (HC (.ref t) >>= _) _ _ s;refine AA (tupleItemsOf_ l (AA (JC I ?_)));rw[qX ∅];refine AA (JS hs pl C ?_);show AW (AY prog w) _ (if (((sIx j.size 0 lo:Nat):Int)==0&&(1:Int)==1&&(sIx j.size j.size hi - sIx j.size 0 lo)==j.size) then _ else _) _ _ s;rw[hw.1,hw.2,qX (by ext)];unfold pX;refine AA (AA (JC l.typeIs (AC ?_)));rw[qX (by rfl)];exact AA (Hm (AA (AC (AC #[_,rfl,AC h]))))
end
end HT
namespace L2
section
variable{X:Cx}
def rSlW(K:AB):V->⇑Int->⇑Int->Hp->VK->Prop:=λx lo l H Q=>∃a j,x=.ref a/\SqT K H a j/\(HT.sIx (-j) 0 lo=0/\HT.sIx (-j) (-j) l=-j)/\Q (.ref a) H
theorem l5:SlR X (rSlW X.K):=by
 intro G s J H x v L N lo O P Q I m o w A h;let#[a,B,rfl,C,hw,q]:=h;cases m;let#[E,r,l,_]:=I.tuple C
 let j:E.toArray.size=-B:=by rw[BZ];exact r.length.symm
 exact#["tuple",_,CK.lookup,l.typeIs,HT.NR l o w A (by rw[j];exact hw) #[.ref a,H,I,rfl,q]]
end
section
theorem YM:PIp X .BitOr (ipI λi j=>DL i j):=by
 intro A s B H x y v u Q I l m h;let#[i,j,o,w,q]:=h;subst o;subst w;let#[a,rfl]:=l;let#[b,rfl]:=m;exact ior_int #[.int _,H,I.tok _,#[_,rfl],q]
theorem nq:PIp X .BitAnd (ipI λi j=>BE i j):=by
 intro A s B H x y v u Q I l m h;let#[i,j,o,w,q]:=h;subst o;subst w;let#[a,rfl]:=l;let#[b,rfl]:=m;exact iand_int #[.int _,H,I.tok _,#[_,rfl],q]
theorem nj:PIp X .BitXor (ipI λi j=>E1 i j):=by
 intro A s B H x y v u Q I l m h;let#[i,j,o,w,q]:=h;subst o;subst w;let#[a,rfl]:=l;let#[b,rfl]:=m;exact ixor_int #[.int _,H,I.tok _,#[_,rfl],q]
end
end L2
namespace L4
open L2
set_option genInjectivity true in
inductive Cel where
 | no | fz (o:Ob) | ow (i:Nat)
abbrev Fz:=Nat->Cel
def Fle(F j:Fz):Prop:=∀n o,F n=.fz o->j n=.fz o
theorem Fle.trans(a:Fle F G)(b:Fle G H):Fle F H:=λn o h=>b n o (a n o h)
section
variable{α β γ ρ σ τ:Type}
def eT(enc:α->D)(l:¬α):D:=.tup (l.map enc)
def eP(a:α->D)(b:β->D)(x:α×β):D:=.tup [a x.1,b x.2]
def eP3(a:α->D)(b:β->D)(c:γ->D)(x:α×β×γ):D:=.tup [a x.1,b x.2.1,c x.2.2]
def eU(_:Unit):D:=.non
def eF(l:Z'):D:=.fro (l.map D.int)
def oL(enc:α->D)(l:¬α):Ob:=.lst (l.map enc)
theorem AS(h:p.bind q=!v):∃x,p=!x/\q x=!v:=Option.bind_eq_some_iff.mp h
set_option genInjectivity true in
inductive Fw(ρ σ:Type) where
 | rt (r:ρ) | nx (s:σ) | bk (s:σ) | ct (s:σ)
noncomputable def AU(p:⇑(Fw ρ σ))(q:σ->⇑(Fw ρ τ)):⇑(Fw ρ τ):=match p with
 | some (.nx s)=>q s
 | some (.rt r)=>!.rt r
 | _=>none
noncomputable def BQ(g:σ->τ)(p:⇑(Fw ρ σ)):⇑(Fw ρ τ):=match p with
 | some (.nx s)=>!.nx (g s)
 | some (.rt r)=>!.rt r
 | some (.bk s)=>!.bk (g s)
 | some (.ct s)=>!.ct (g s)
 | none=>none
def HG(l:¬α)(x:α):⇑(¬α):=if -l < 1000000 then !l++[x]else none
def Gg(l k:¬α):⇑(¬α):=if -l+-k<=1000000 then !l++k else none
theorem Ld(h:n < 1000000):n < sizeLine:=Ab h ∅
theorem N6(h:n<=1000000):n<=sizeLine:=A5 h ∅
def BW:¬α->σ->(σ->α->⇑(Fw ρ σ))->⇑(Fw ρ σ)
 | [],s,_=>!.nx s
 | x :: l,s,q=>match q s x with
  | some (.nx j)=>BW l j q
  | some (.ct j)=>BW l j q
  | some (.bk j)=>!.nx j
  | some (.rt r)=>!.rt r
  | none=>none
noncomputable def L8(c:α->⇑Bool)(m:α->⇑β):¬α->⇑(¬β)
 | []=>![]
 | x :: l=>c x*>λb=>if b=true then(m x).bind λy=>L8 c m l*>λj=>!y :: j else L8 c m l
def Bu(l:¬α)(c:α->⇑Bool)(m:α->⇑β):⇑(¬β):=if -l<=1000000 then L8 c m l else none
def Bx(p:⇑(Fw ρ σ)):⇑ρ:=match p with
 | some (.rt r)=>!r
 | _=>none
def Jq(p:⇑(Fw Unit σ)):⇑Unit:=match p with
 | some (.rt r)=>!()
 | some (.nx _)=>!()
 | _=>none
end
section
variable{S:Sto}{α β:Type}
section
def Op(x y:Int):⇑Int:=if eN x y then !x * y else none
def Ky(x y:Int):⇑Int:=if oY x y then !x / y else none
def MN(x y:Int):⇑Int:=if 0 < y then !x % y else none
def QJ(x y:Int):⇑Int:=if eM x y then !x ^ y.toNat else none
end
def EqN(n:Nat)(enc:α->D)[DecidableEq α]:Prop:=∀x y,eqP n (enc x) (enc y)=!decide (x=y)
def NL(enc:α->D):Prop:=∀x S,Wu (enc x) S=none
theorem Bo:EqN n D.int:=λx y=>by
 let:K0 (.int x) (.int y)=!decide (x=y):=rfl
 cases n <;> exact this
theorem GS:EqN n D.str:=λx y=>by
 let:K0 (.str x) (.str y)=!decide (x=y):=rfl
 cases n <;> exact this
theorem GR{n:Nat}{enc:α->D}[DecidableEq α](h:EqN n enc):EqN (n+1) (eT enc):=by
 let j:∀l k:¬α,eqL (eqP n) (l.map enc) (k.map enc)=!decide (l=k):=by
  intro l
  induction l with
  | nil=>intro k;cases k <;> rfl
  | cons x l m=>
   intro k
   cases k with
   | nil=>rfl
   | cons y k=>
    rw[Al,Al];unfold eqL;rw[h x y,m k]
    by_cases c:x=y <;> by_cases d:l=k <;> simp[c,d]
 assumption
theorem GT{n:Nat}{a:α->D}{b:β->D}[DecidableEq α][DecidableEq β](j:EqN n a)(hb:EqN n b):EqN (n+1) (eP a b):=λx y=>by
 show eqL (eqP n) [a x.1,b x.2] [a y.1,b y.2]=_;unfold eqL eqL eqL;rw[j,hb];let#[l,m]:=x;let#[o,w]:=y;ext
theorem EM:NL D.int:=λG G=>rfl
theorem Hz:NL D.str:=λG G=>rfl
theorem Js:NL (eT enc):=λG G=>rfl
section
variable{enc:α->D}[DecidableEq α]
theorem Qh(h:EqN 8 enc)(n:NL enc)(neg:Bool)(x y:α)(S:Sto):eqD neg (enc x) (enc y) S=.ok (.bl (if neg then not (decide (x=y))else decide (x=y))) S:=by
 unfold eqD eqB;rw[n x S,n y S];rw[h x y]
theorem IE(h:EqN 8 enc)(x:α):∀l:¬α,K6 (enc x) (l.map enc)=!decide (x∈l)
 | []=>by simp[K6]
 | y :: l=>by
  rw[Al];unfold K6;rw[h y x,IE h x l]
  grind
theorem oF(h:EqN n enc):∀l k:¬α,eqL (eqP n) (l.map enc) (k.map enc)=!decide (l=k):=by
 intro l
 induction l with
 | nil=>intro k;cases k <;> rfl
 | cons x l j=>
  intro k
  cases k with
  | nil=>rfl
  | cons y k=>
   rw[Al,Al];unfold eqL;rw[h x y,j k];ext
theorem LM(h:EqN 8 enc)(neg:Bool)(j:S[n]?=!oL enc l)(o:S[m]?=!oL enc k):eqD neg (.ref n) (.ref m) S=.ok (.bl (if neg then not (decide (l=k))else decide (l=k))) S:=by
 unfold eqD eqB;rw[U9 j,U9 o];symm;rw[AD,AD]
 by_cases c:-l=-k
 ·rw[qX c,oF h]
 ·rw[qY c,wY λz=>c (by rw[z])]
end
section
theorem QY:∀j:Z',Kw (j.map D.int)=!j
 | []=>rfl
 | x :: j=>by rw[Al];unfold Kw;ext
def EF(l:¬α):⇑(¬α):=if -l<=1000000 then !l else none
def FS(l:¬Z'):⇑(¬Z'):=if l.all (λr=>not r.isEmpty) then !IW l else none
theorem Kk:∀j:¬Z',j.all (λr=>not r.isEmpty)->QA (j.map Um)=!j
 | [],_=>rfl
 | [] :: j,h=>by simp at h
 | (x :: r) :: j,h=>by
  rw[kr,DN]at h;show QA (.tup ((x :: r).map D.int) :: j.map Um)=_;unfold QA;rw[QY,Kk j h.2]
noncomputable def CA(lo:Int)(n:Nat):Z':=(A0 n).map λi:Nat=>lo+i
def FF(j:Int):⇑Z':=if -1000000<=j/\j<=1000000 then !CA 0 j.toNat else none
def Kl(i j:Int):⇑Z':=if -1000000<=i/\i<=1000000/\-1000000<=j/\j<=1000000 then !CA i (j - i).toNat else none
noncomputable def DE(l:¬α):¬(Int×α):=l.zipIdx.map λx=>((x.2:Int),x.1)
end
end
section
variable{α β κ κ':Type}
def oDK(enc:α->D)(l:¬(Int×α)):Ob:=.dK (l.map λx=>(Dw x.1,enc x.2))
def kP(x:Int×Int):¬Key:=[Dw x.1,Dw x.2]
def oDP(enc:α->D)(l:¬(YP×α)):Ob:=.dT (l.map λx=>(kP x.1,enc x.2))
theorem Ka[DecidableEq κ][DecidableEq κ']{j:κ->κ'}(m:∀x y,j x=j y->x=y)(f:α->β)(l:¬(κ×α))(k:κ):AR (l.map λx=>(j x.1,f x.2)) (j k)=(AR l k).map f:=by
 unfold AR
 induction l with
 | nil=>rfl
 | cons x l o=>
  grind
theorem QH[DecidableEq κ][DecidableEq κ']{j:κ->κ'}(o:∀x y,j x=j y->x=y)(f:α->β)(l:¬(κ×α))(k:κ)(v:α):Cz (l.map λx=>(j x.1,f x.2)) (j k) (f v)=(Cz l k v).map λx=>(j x.1,f x.2):=by
 let any:((l.map λx=>(j x.1,f x.2)).any λm=>decide (m.1=j k))=l.any λm=>decide (m.1=k):=by
  rw[List.any_map]
  congr 1
  funext x
  exact decide_eq_decide.mpr #[o _ _,λz=>congrArg j z]
 unfold Cz;rw[any];split
 ·rw[Aw,Aw]
  refine B0 λx G=>?_
  show(if j x.1=j k then(j x.1,f v)else(j x.1,f x.2))=_
  by_cases c:x.1=k
  ·show _=(λx:κ×α=>(j x.1,f x.2)) (if x.1=k then(x.1,v)else x)
   rw[qX c,qX (by rw[c])]
  ·show _=(λx:κ×α=>(j x.1,f x.2)) (if x.1=k then(x.1,v)else x)
   rw[qY c,qY λz=>c (o _ _ z)]
 ext
theorem NP(x y:Int)(h:(Dw x:Key)=Dw y):x=y:=by cases h;rfl
theorem dE(x y:Int×Int)(h:kP x=kP y):x=y:=by
 let#[a,b]:=x;let#[c,d]:=y;unfold kP at h;cases h;rfl
section
def B4[DecidableEq κ](l:¬(κ×α))(k:κ)(v:α):⇑(¬(κ×α)):=if -l < 1000000 then !Cz l k v else none
def lY(r:Z'):Int×Int:=(r.getD 0 0,r.getD 1 0)
def GK(l:¬YP):¬YP:=(IW (l.map λx=>[x.1,x.2])).map lY
theorem Xs(l:¬YP):(IW (l.map λx=>[x.1,x.2])).map Um=(GK l).map (eP D.int D.int):=by
 unfold GK;rw[Aw]
 refine B0 λr j=>?_
 let#[x,_,rfl]:=Ay.mp ((C7 _).mem_iff.mp j);rfl
end
end
section
variable{α ρ σ:Type}
theorem BF:AU (!.nx s) q=q s:=rfl
theorem eE:AU (!.rt r) q=!.rt r:=rfl
theorem iy:BQ (ρ:=ρ) g (!.nx s)=!.nx (g s):=rfl
theorem X9:Bx (!(.rt r:Fw ρ σ))=!r:=rfl
theorem GQ{l:¬α}{q:σ->α->⇑(Fw ρ σ)}{s0:σ}(I:¬α->σ->Prop)(o:I [] s0)(h:∀pre x s,x∈l->pre++[x] <+: l->I pre s->∃s',q s x=!.nx s'/\I (pre++[x]) s'):∃s,BW l s0 q=!.nx s/\I l s:=by
 let j:∀(r pre:¬α) (s:σ),l=pre++r->I pre s->∃s',BW r s q=!.nx s'/\I l s':=by
  intro r
  induction r with
  | nil=>intro pre s e m;rw[BP]at e;subst e;exact#[s,rfl,m]
  | cons x r w=>
   intro pre s e m;let#[s',E,A]:=h pre x s (by rw[e];simp) #[r,by rw[e];simp] m;let#[B,G,C]:=w (pre++[x]) s' (by rw[e];simp) A;refine#[B,?_,C];unfold BW;ext
 exact j l [] s0 rfl o
theorem da(I:¬α->σ->Prop)(R:ρ->Prop)(A:I [] s0)(h:∀pre x s,x∈l->pre++[x] <+: l->I pre s->(∃s',q s x=!.nx s'/\I (pre++[x]) s')∨∃r,q s x=!.rt r/\R r):(∃s,BW l s0 q=!.nx s/\I l s)∨∃r,BW l s0 q=!.rt r/\R r:=by
 let j:∀(r pre:¬α) (s:σ),l=pre++r->I pre s->(∃s',BW r s q=!.nx s'/\I l s')∨∃y,BW r s q=!.rt y/\R y:=by
  intro r
  induction r with
  | nil=>intro pre s e m;rw[BP]at e;subst e;exact .inl #[s,rfl,m]
  | cons x r B=>
   intro pre s e m
   rcases h pre x s (by rw[e];simp) #[r,by rw[e];simp] m with⟨s',o,w⟩ | ⟨y,o,w⟩
   ·let C:BW (x :: r) s q=BW r s' q:=by
     conv=>lhs;unfold BW
     rw[o]
    rw[C];exact B (pre++[x]) s' (by rw[e];simp) w
   ·refine .inr #[y,?_,w]
    unfold BW;rw[o]
 exact j l [] s0 rfl A
theorem du(w:∀x∈l,c x=!P x)(A:∀x∈l,P x->m x=!f x):L8 c m l=!(l.filter P).map f:=by
 induction l with
 | nil=>rfl
 | cons x l o=>
  let o:=o (λy j=>w y (AN _ j)) λy j=>A y (AN _ j)
  unfold L8
  grind
theorem NS(hl:-l<=1000000)(j:∀x∈l,c x=!P x)(o:∀x∈l,P x->m x=!f x):Bu l c m=!(l.filter P).map f:=by
 unfold Bu;rw[qX hl,du j o]
theorem FJ(hl:-l<=1000000)(j:∀x∈l,m x=!f x):Bu l (λG=>!true) m=!l.map f:=by
 rw[NS hl (λG G=>rfl) λx o G=>j x o,Yn.mpr λG G=>rfl]
theorem Fm(hl:-l<=1000000)(j:∀x∈l,c x=!P x):Bu l c (λx=>!x)=!l.filter P:=by
 rw[NS hl j λx m G=>rfl,pA]
theorem PY(h:-l < 1000000):HG l x=!l++[x]:=qX h
theorem LK(h:-l+-k<=1000000):Gg l k=!l++k:=qX h
theorem jJ(h:-l<=1000000):EF l=!l:=qX h
theorem de:EF ([]:¬α)=![]:=rfl
theorem oE(a:α):EF [a]=![a]:=qX ∅
theorem few2(a b:α):EF [a,b]=![a,b]:=qX ∅
theorem PJ(l:-1000000<=j)(m:j<=1000000):FF j=!CA 0 j.toNat:=qX #[l,m]
theorem iK(l:-1000000<=i)(m:i<=1000000)(o:-1000000<=j)(w:j<=1000000):Kl i j=!CA i (j - i).toNat:=qX #[l,m,o,w]
theorem Cm{lo:Int}{n:Nat}{x:Int}:x∈CA lo n↔lo<=x/\x < lo+n:=by
 unfold CA;rw[Ay]
 constructor
 ·rintro⟨k,j,rfl⟩
  let:=CG.mp j
  lia
 ·rintro⟨l,m⟩
  exact#[(x - lo).toNat,CG.mpr ∅,by lia]
theorem Ck(lo:Int)(n:Nat):-CA lo n=n:=by unfold CA;ext
theorem PH(lo:Int)(n:Nat):(CA lo n).Pairwise (· < ·):=by
 unfold CA;rw[BL]
 exact KJ.imp λh=>by ext
theorem Ts(m:0<=i)(o:i < -l):∃x,atI l i=!x/\l[i.toNat]?=!x:=by
 let j:i.toNat < -l:=by ext
 exact#[l[i.toNat],ID m (AJ j),AJ j]
theorem Tt(h:atI l i=!x):x∈l:=by
 unfold atI at h;let#[j,_,m]:=AS h;exact Az m
theorem YZ(k:Int)(h:l≠[]):∃x,atI l (k % (-l:Int))=!x/\x∈l:=by
 let m:0 < (-l:Int):=by let:=Yl.mpr h;ext
 let#[x,j,_]:=Ts (jj _ (by ext)) (aP _ m);exact#[x,j,Tt j]
theorem TW(h:0 < y):MN x y=!x % y:=qX h
theorem VN(P:α->Bool)(l:¬α)(x:α):(l++[x]).filter P=if P x then l.filter P++[x]else l.filter P:=by
 grind
theorem Gz[DecidableEq α]:∀{l k:¬α},l.Nodup->(∀x∈l,x∈k)->-l<=-k
 | [],_,_,_=>Bc _
 | x :: l,k,m,h=>by
  let j:=h x Aa;let#[o,w]:=BO.mp m
  let:=Gz w λy A=>(XQ (λz:y=x=>o (by ext))).mpr (h y (AN _ A))
  rw[T8 j]at this;let:=Vi j;rw[Au]
  grind
def Ok(p:⇑α)(P:α->Prop):Prop:=∃v,p=!v/\P v
theorem Ok.pure(h:P v):Ok (!v) P:=#[v,rfl,h]
theorem Ok.is(h:Ok p λr=>r=v):p=!v:=by
 let#[_,j,rfl]:=h;exact j
theorem Ok.bind(h:Ok p P)(j:∀v,P v->Ok (q v) Q):Ok (p.bind q) Q:=by
 let#[v,rfl,h]:=h;exact j v h
theorem Ok.imp(h:Ok p P)(i:∀v,P v->Q v):Ok p Q:=by
 let#[v,rfl,h]:=h;exact#[v,rfl,i v h]
def OkF(p:⇑(Fw ρ σ))(N:σ->Prop)(R:ρ->Prop):Prop:=(∃s,p=!.nx s/\N s)∨∃r,p=!.rt r/\R r
theorem OkF.nx(h:N s):OkF (!.nx s) N R:=.inl #[s,rfl,h]
theorem OkF.rt(h:R r):OkF (!.rt r) N R:=.inr #[r,rfl,h]
theorem OkF.seq(h:OkF p N R)(j:∀s,N s->OkF (q s) N' R):OkF (AU p q) N' R:=by
 rcases h with⟨s,rfl,h⟩ | ⟨r,rfl,h⟩
 ·exact j s h
 ·exact .inr #[r,rfl,h]
theorem OkF.map(h:OkF p N R)(j:∀s,N s->N' (g s)):OkF (BQ g p) N' R:=by
 rcases h with⟨s,rfl,h⟩ | ⟨r,rfl,h⟩
 ·exact .inl #[_,rfl,j s h]
 ·exact .inr #[r,rfl,h]
theorem OkF.of(h:Ok p P)(j:∀v,P v->OkF (q v) N R):OkF (p.bind q) N R:=by
 let#[v,rfl,h]:=h;exact j v h
theorem OkF.ite(j:c=true->OkF a N R)(hb:c=false->OkF b N R):OkF (if c=true then a else b) N R:=by
 lia
theorem OkF.for(I:¬α->σ->Prop)(j:I [] s0)(h:∀pre x s,x∈l->pre++[x] <+: l->I pre s->OkF (q s x) (I (pre++[x])) R):OkF (BW l s0 q) (I l) R:=da I R j h
theorem OkF.out(h:OkF p (λG=>False) R):Ok (Bx p) R:=by
 rcases h with⟨s,rfl,h⟩ | ⟨r,rfl,h⟩
 ·exact h.elim
 ·exact#[r,rfl,h]
theorem OkF.imp(h:OkF p N R)(j:∀s,N s->N' s)(l:∀r,R r->R' r):OkF p N' R':=by
 rcases h with⟨s,rfl,h⟩ | ⟨r,rfl,h⟩
 ·exact .inl #[s,rfl,j s h]
 ·exact .inr #[r,rfl,l r h]
end
section
def Gf(x y:Int):⇑Int:=if eM x y then !x * 2 ^ y.toNat else none
def Ir(x y:Int):⇑Int:=if 0<=y then !x / 2 ^ y.toNat else none
end
end L4
namespace L2
theorem KVR.none{K}{ρ}{H}(f:Str):∀{x:¬(Str×D)} {y:¬(Str×V)},KVR K ρ H x y->x.lookup f=none->y.lookup f=none
 | _,_,z,h=>by
  cases z with
  | nil=>rfl
  | @cons p q _ _ r t=>
   let#[g,a]:=p;let#[m,b]:=q;let#[j,o]:=r;subst j;rw[CI]at h ⊢
   cases l:(f==g)with
   | true=>ext
   | false=>rw[l]at h;exact KVR.none f t h
section
def qz:V->¬V->Hp->VK->Prop:=λx vs H Q=>∃i,x=.int i/\vs=[]/\Q (.int (D5 i)) H
theorem ir:MtR X "int.bit_length" qz:=by
 intro m s o H x vs v w Q I j l h;let#[i,rfl,rfl,q]:=h;let#[t,rfl]:=j;cases l;exact call_int_bit_length #[.int _,H,I.tok _,#[_,rfl],q]
end
section
def qu(K:AB):V->V->Hp->VK->Prop:=λo i H Q=>∃p j k z,o=.ref p/\i=.int k/\0<=k/\H p=!.lst j/\j[k.toNat]?=!z/\Q z H
theorem dX:sK X (qu X.K):=by
 intro L s N H o i O P Q I l m h;let#[p,R,k,z,rfl,rfl,w,A,j,q]:=h;cases l;let#[t,rfl]:=m;let#[B,n,r,C,E]:=I.lst A
 obtain⟨u,G,J⟩:∃u,B[k.toNat]?=!u/\RelV z u:=r.get j
 let S:=(AI.mp j).1;let T:=N4;exact getItem_listL #[_,C,rfl,n,rfl] w ∅ G #[z,H,I,J,q]
end
open PySem.SeqAt
section
theorem En(j:autoParam N.Nodup yq8q)(l:autoParam (∀x∈ps,sc.names.lookup x=!.local∨sc.names.lookup x=!.cell) yq8q)(m:autoParam (∀y∈sc.names,y.2≠.free) yq8q)(o:↑(sc.kind=.function))(w:↑(sc.isCoroutine=false))(A:↑(sc.isGenerator=false))(B:↑(N.take (-ps)=ps)):Hk N ps sc:=#[o,w,A,j,B,l,m]
end
abbrev Cx.q(X:Cx):Cx:={ X with xe:=λG G=>False }
end L2
abbrev sR(n:Nat):⇑L2.D:=!.ref n
abbrev sI(i:Int):⇑L2.D:=!.int i
abbrev sF(l:Z'):⇑L2.D:=!.fro (l.map L2.D.int)
namespace L7
open L2
open L4 (Fw AU BW Bx BQ AS)
section
variable{K:AB}{H H' uv H0:Hp}{F F':AL->Prop}{σ:L2.St}{α β γ ρ τ:Type}
def Kp(H H':Hp):Prop:=∀a o,H a=!o->H' a=!o
theorem Kp.refl:Kp H H:=λG G h=>h
theorem Kp.trans(a:Kp H H')(b:Kp H' uv):Kp H uv:=λx o h=>b x o (a x o h)
structure Fr(F:AL->Prop)(H H':Hp):Prop where
 tup:∀a xs,H a=!.tup xs->H' a=!.tup xs
 frz:∀a o u,H a=!.frz o u->H' a=!.frz o u
 fix:∀a o,F a->H a=!o->H' a=!o
theorem Kp.fr(k:Kp H H'):Fr F H H':=#[λa G h=>k a _ h,λa G G h=>k a _ h,λa o G h=>k a o h]
theorem Fr.trans(a:Fr F H H')(b:Fr F' H' uv)(l:∀x,F x->F' x):Fr F H uv:=
 #[λx G h=>b.tup _ _ (a.tup _ _ h),λx G G h=>b.frz _ _ _ (a.frz _ _ _ h),λx o f h=>b.fix x o (l x f) (a.fix x o f h)]
abbrev RD(K:AB)(H:Hp)(d:D)(x:V):Prop:=DU K [] H d x
theorem Fr.rd(f:Fr F H H')(h:RD K H d x):RD K H' d x:=h.keep f.tup f.frz
theorem Kp.rd(k:Kp H H')(h:RD K H d x):RD K H' d x:=(k.fr (F:=λG=>False)).rd h
abbrev OB(K:AB)(H:Hp)(a:AL)(o:Ob):Prop:=Of K [] H a o
theorem Fr.ob(f:Fr F H H')(e:H' a=H a)(h:OB K H a o):OB K H' a o:=h.keep f.tup f.frz e
theorem OB.at(h:OB K H a o):∃u,H a=!u:=Option.ne_none_iff_exists'.mp h.has
theorem Kp.ob(k:Kp H H')(h:OB K H a o):OB K H' a o:=by
 let#[u,j]:=h.at;exact(k.fr (F:=λG=>False)).ob (by rw[j,k a u j]) h
set_option genInjectivity true in
inductive Sl where
 | u | q (P:Hp->Hp->V->Prop) | g (P:Hp->(AL->Prop)->Hp->V->Prop)
def Sl.ok(H0:Hp)(F S:AL->Prop)(H:Hp):Sl->⇑V->Prop
 | .u,_=>True
 | .q P,x=>∃y,x=!y/\∀H',Fr F H H'->P H0 H' y
 | .g P,x=>∃y,x=!y/\∀H',Fr F H H'->(∀a,S a->H' a=H a)->P H0 S H' y
structure VR(H0:Hp)(A:¬Sl)(σ:L2.St)(F:AL->Prop)(G:Nat->AL->Prop)(H:Hp):Prop where
 kp:Kp H0 H
 f0:∀a o,H0 a=!o->F a
 fh:∀a,F a->∃o,H a=!o
 sl:∀(i:Nat) s,A[i]?=!s->∃x,σ[i]?=!x/\s.ok H0 F (G i) H x
 gn:∀i a,G i a->Not (F a)/\∃o,H a=!o
 ds:∀i j a,G i a->G j a->i=j
def Vs(H0:Hp)(A:¬Sl)(σ:L2.St)(F:AL->Prop)(H:Hp):Prop:=∃G,VR H0 A σ F G H
def gF(F:AL->Prop)(H H':Hp):AL->Prop:=λa=>F a∨(H a=none/\∃o,H' a=!o)
structure Fe(F:AL->Prop)(H:Hp)(F':AL->Prop)(H':Hp):Prop where
 le:∀a,F a->F' a
 fr:Fr F H H'
theorem Fe.refl:Fe F H F H:=#[λG h=>h,Kp.refl.fr]
theorem Fe.trans(a:Fe F H F' H')(b:Fe F' H' F'' uv):Fe F H F'' uv:=#[λx h=>b.le x (a.le x h),a.fr.trans b.fr a.le]
theorem Kp.fe(k:Kp H H'):Fe F H (gF F H H') H':=#[λG h=>.inl h,k.fr]
theorem Sl.mono{s:Sl}{S:AL->Prop}{x:⇑V}(h:s.ok H0 F S H x)(e:Fe F H F' H')(hw:∀a,S a->H' a=H a):s.ok H0 F' S H' x:=by
 cases s with
 | u=>trivial
 | q P=>let#[y,j,l]:=h;exact#[y,j,λm f=>l m (e.fr.trans f e.le)]
 | g P=>let#[y,j,l]:=h;exact#[y,j,λm f z=>l m (e.fr.trans f e.le) λa o=>(z a o).trans (hw a o)]
theorem Vs.kp(h:Vs H0 A σ F H):Kp H0 H:=let #[_,h]:=h;h.kp
theorem VR.grow{A:¬Sl}{G:Nat->AL->Prop}(h:VR H0 A σ F G H)(k:Kp H H'):VR H0 A σ (gF F H H') G H':=by
 refine#[h.kp.trans k,λa o q=>.inl (h.f0 a o q),λa q=>?_,λi s m=>?_,λi a q=>?_,h.ds]
 ·rcases q with q | q
  ·let#[o,j]:=h.fh a q;exact#[o,k a o j]
  ·exact q.2
 ·let#[x,l,w]:=h.sl i s m
  exact#[x,l,Sl.mono w k.fe λa B=>let #[o,j]:=(h.gn i a B).2;by rw[j,k a o j]]
 ·let#[l,o,j]:=h.gn i a q
  exact#[λz=>z.elim l λz=>(by ext),o,k a o j]
theorem Vs.grow(h:Vs H0 A σ F H)(k:Kp H H'):Vs H0 A σ (gF F H H') H':=let #[G,h]:=h;#[G,h.grow k]
theorem HV{A:¬Sl}{s t:Sl}{i j:Nat}(h:(A.set i s)[j]?=!t):(i=j/\t=s/\i < -A)∨(i≠j/\A[j]?=!t):=by
 by_cases c:i=j
 ·subst c
  rw[Dc,qX rfl]at h;split at h
  ·cases h;exact .inl #[rfl,rfl,by assumption]
  ·cases h
 ext
theorem VR.has(h:VR H0 A σ F G H)(hi:i < -A):i < -σ:=by
 let#[y,j,_]:=h.sl i (A[i]) (AJ hi);exact(AI.mp j).1
theorem VR.set{A:¬Sl}{G:Nat->AL->Prop}(h:VR H0 A σ F G H){P:Hp->Hp->V->Prop}{x:V}(i:Nat)(m:∀H',Fr F H H'->P H0 H' x):VR H0 (A.set i (.q P)) (σ.set i (!x)) F G H:=by
 refine#[h.kp,h.f0,h.fh,λj t l=>?_,h.gn,h.ds]
 rcases HV l with⟨rfl,rfl,o⟩ | ⟨c,l⟩
 ·exact#[_,by rw[Dc,qX rfl,qX (h.has o)],x,rfl,m]
 ·rw[C1 c];exact h.sl j t l
theorem Vs.set(h:Vs H0 A σ F H)(i:Nat)(j:∀H',Fr F H H'->P H0 H' x):Vs H0 (A.set i (.q P)) (σ.set i (!x)) F H:=let #[G,h]:=h;#[G,h.set i j]
theorem Vs.at{A:¬Sl}(h:Vs H0 A σ F H){i:Nat}{P:Hp->Hp->V->Prop}(hi:A[i]?=!.q P):∃y,σ[i]?=!(!y)/\∀H',Fr F H H'->P H0 H' y:=by
 let#[G,h]:=h;let#[x,j,y,rfl,l]:=h.sl i _ hi;exact#[y,j,l]
abbrev sv(K:AB)(d:D):Sl:=.q λG H y=>RD K H d y
abbrev sz(K:AB)(o:Ob):Sl:=.q λG H y=>∃a,y=.ref a/\OB K H a o
abbrev sy(K:AB)(o:Ob):Sl:=.q λH0 H y=>∃a,y=.ref a/\H0 a=none/\OB K H a o
abbrev Rk(α:Type):=α->Hp->V->Hp->Prop
def rV(K:AB)(enc:α->D):Rk α:=λv G x H=>RD K H (enc v) x
def rN(K:AB)(ob:α->Ob):Rk α:=λv H x H'=>∃a,x=.ref a/\H a=none/\OB K H' a (ob v)
def rO(K:AB)(ob:α->Ob):Rk α:=λv G x H=>∃a,x=.ref a/\OB K H a (ob v)
def tE(A:¬Sl)(R:Rk α)(v:α):TE:=λσ H Q=>∃H0 F,Vs H0 A σ F H/\∀x H',Kp H H'->R v H x H'->Q x H'
def VE(X:Cx)(A:¬Sl)(e:Expr)(R:Rk α)(p:⇑α):Prop:=∀v,p=!v->PE X e (tE A R v)
def VB(X:Cx)(A:¬Sl)(e:Expr)(p:⇑Bool):Prop:=∀v,p=!v->PT X e (λσ H Q=>∃H0 F,Vs H0 A σ F H/\∀H',Kp H H'->Q v H')
theorem Eb{A:¬Sl}{R:Rk α}{S:Rk β}{v:α}{u:β}{T:V->V->Hp->Prop}(h:∃H0 F,Vs H0 A σ F H/\∀x y j H2,Kp H j->Kp j H2->R v H x j->S u j y H2->T x y H2) :
  tE A R v σ H λx j=>tE A S u σ j λy H2=>T x y H2:=by
 let#[H0,F,l,h]:=h;exact#[H0,F,l,λx j m o=>#[H0,_,l.grow m,λy H2 w B=>h x y j H2 m w o B]]
section
variable{X:Cx}{A:¬Sl}{e a b:Expr}{pos:Pos}
theorem au{i:Nat}{enc:α->D}{v:α}(h:↑(PE X e (DI i)))(hi:↑(A[i]?=!sv X.K (enc v))):VE X A e (rV X.K enc) (!v):=λG j=>h.imp (by
 rintro σ H Q ⟨H0,F,l,q⟩;cases j;let#[y,m,o]:=l.at hi
 exact#[y,m,q y H .refl (o H Kp.refl.fr)])
abbrev _root_.XP(X:L2.Cx):=rV X.K D.int
theorem A1:VE X A (.Constant (.int i) j pos) (XP X) (!i):=λG l=>mZ.imp λσ H Q #[H0,F,m,q]=>by cases l;exact q _ H .refl (.int _)
theorem ju{op:Nd}{r:R2}{l:α->D}{eb:β->D}{ec:γ->D}{pa:⇑α}{m:⇑β}{g:α->β->⇑γ}(C:OpR X (D7 op) r)(E:VE X A a (rV X.K l) pa)(hb:VE X A b (rV X.K eb) m)
  (G:∀x y z u v H Q,g x y=!z->RD X.K H (l x) u->RD X.K H (eb y) v->(∀w,RD X.K H (ec z) w->Q w H)->r u v H Q):VE X A (.BinOp a op b pos) (rV X.K ec) (pa*>λx=>m*>λy=>g x y):=λv j=>by
 let#[x,I,j]:=AS j;let#[y,J,L]:=AS j
 exact(X5 C (E x I) (hb y J)).imp λσ H Q #[H0,F,N,q]=>Eb #[H0,F,N,λu w T o O B P R=>G x y v u w o Q L (B.rd P) R λz S=>q z o (O.trans B) S]
theorem Rt{op:Nd}{C:Int->Int->Prop}[∀i j,Decidable (C i j)]{g:Int->Int->Int}{pa m:⇑Int}(o:OpR X (D7 op) (rI C λi j=>.int (g i j)))(w:VE X A a (XP X) pa)(hb:VE X A b (XP X) m) :
  VE X A (.BinOp a op b pos) (XP X) (pa*>λx=>m*>λy=>if C x y then !g x y else none):=ju o w hb λx y z u v H Q l B E G=>by
 cases B;cases E;split at l
 ·cases l;exact#[x,y,rfl,rfl,by assumption,G _ (.int _)]
 ·cases l
def tV(A:¬Sl)(R:Rk ρ)(B:τ->¬Sl)(f:Fw ρ τ):TS:=λD σ H=>∃H0 F,Vs H0 A σ F H/\match f with
 | .nx s=>∀j F' H',Vs H0 (B s) j F' H'->Fe F H F' H'->D.nx j H'
 | .ct s=>∀j F' H',Vs H0 (B s) j F' H'->Fe F H F' H'->D.ct j H'
 | .bk s=>∀j F' H',Vs H0 (B s) j F' H'->Fe F H F' H'->D.bk j H'
 | .rt r=>∀x H',Kp H0 H'->R r H0 x H'->D.rt x H'
def VS(X:Cx)(A:¬Sl)(st:B5)(R:Rk ρ)(p:⇑(Fw ρ τ))(B:τ->¬Sl):Prop:=∀f,p=!f->PS X st (tV A R B f)
def VSs(X:Cx)(A:¬Sl)(st:¬B5)(R:Rk ρ)(p:⇑(Fw ρ τ))(B:τ->¬Sl):Prop:=∀f,p=!f->PSs X st (tV A R B f)
theorem M4{o:¬Sl}{R:Rk ρ}{B:τ->¬Sl}{f:Fw ρ τ}{D:eJ}(h:∃H0 F l m,Vs H0 o σ F H/\Fe l m F H/\match f with
 | .nx s=>∀j F' H',Vs H0 (B s) j F' H'->Fe l m F' H'->D.nx j H'
 | .ct s=>∀j F' H',Vs H0 (B s) j F' H'->Fe l m F' H'->D.ct j H'
 | .bk s=>∀j F' H',Vs H0 (B s) j F' H'->Fe l m F' H'->D.bk j H'
 | .rt r=>∀x H',Kp H0 H'->R r H0 x H'->D.rt x H'):tV o R B f D σ H:=by
 let#[H0,F,l,m,w,e,h]:=h;refine#[H0,F,w,?_]
 cases f with
 | rt r=>exact h
 | nx s=>exact λj F' H' v z=>h j F' H' v (e.trans z)
 | bk s=>exact λj F' H' v z=>h j F' H' v (e.trans z)
 | ct s=>exact λj F' H' v z=>h j F' H' v (e.trans z)
theorem Aq{st:B5}{R:Rk ρ}{p:⇑(Fw ρ τ)}{B:τ->¬Sl}(h:VS X A st R p B):VSs X A [st] R p B:=λf j=>iN (h f j)
theorem Ac{l:Type}{st:B5}{j:¬B5}{R:Rk ρ}{p:⇑(Fw ρ τ)}{q:τ->⇑(Fw ρ l)}{B:τ->¬Sl}{C:l->¬Sl}(E:VS X A st R p B)(hb:∀s,VSs X (B s) j R (q s) C):VSs X A (st :: j) R (AU p q) C:=λf m=>by
 cases p with
 | none=>cases m
 | some w=>cases w with
  | nx s=>exact(Ut (E _ rfl) (hb s f m)).imp (by rintro D σ H ⟨H0,F,o,k⟩;exact#[H0,F,o,λG F' H' v e=>M4 #[H0,F',F,H,v,e,k]])
  | rt r=>cases m;exact(Ut (E _ rfl) (JV)).imp (by rintro D σ H ⟨H0,F,o,k⟩;exact#[H0,F,o,k])
  | bk s=>cases m
  | ct s=>cases m
def VEA(X:Cx)(A:¬Sl)(i:Nat)(st:B5)(R:Rk α)(p:⇑α):Prop:=∀v,p=!v->PS X st (iB (tE A R v) (Ie i))
theorem bL(h:VE X A e R p)(l:X.N.Nodup)(hi:X.N[i]?=!x)(m:Loc X.env.scope x)(hs:BX e (!.Name x j) pos.line X.env=pure false)(o:zFn X x):VEA X A i (.Assign [.Name x j] e pos) R p:=λv w=>Wf l hi m (h v w) hs o
theorem vsa{st:B5}{enc:α->D}{R:Rk ρ}{p:⇑α}{i:Nat}(h:VEA X A i st (rV X.K enc) p):VS X A st R (p*>λv=>!.nx v) (λv=>A.set i (sv X.K (enc v))):=λf l=>by
 let#[v,m,o]:=AS l;cases o;exact(h v m).imp (by rintro D σ H ⟨H0,F,j,k⟩;exact#[H0,F,j,λx H' kp r=>k _ _ _ ((j.grow kp).set i λw f=>f.rd r) kp.fe])
theorem DP{x:Str}{j:Pos}{enc:α->D}{R:Rk ρ}{p:⇑α}(i:Nat)(h:VE X A e (rV X.K enc) p)(l:autoParam X.N.Nodup yq5q)(hi:↑(X.N[i]?=!x))(m:autoParam (Loc X.env.scope x) yq4q)
  (hs:↑(BX e (!.Name x j) pos.line X.env=pure false)) (o:autoParam (zFn X x) yq3q) :
  VS X A (.Assign [.Name x j] e pos) R (p*>λv=>!.nx v) (λv=>A.set i (sv X.K (enc v))):=vsa (bL h l hi m hs o)
theorem CW(h:VE X A e R p)(l:∀v H H' x H2,Kp H H'->R v H' x H2->R v H x H2:=by exact λG G G G G G h=>h):VS X A (.Return (!e) pos) R (p*>λv=>!.rt v) B:=λf m=>by
 let#[v,o,w]:=AS m;cases w;exact(TH (h v o)).imp (by rintro D σ H ⟨H0,F,j,k⟩;exact#[H0,F,j,λx H' kp r=>k x H' (j.kp.trans kp) (l _ _ _ _ _ j.kp r)])
def JOk(P:α->Hp->V->Prop)(l:¬α)(F:AL->Prop)(H:Hp)(J:It):Prop:=∀F' H',Fe F H F' H'->∀i:Nat,(l[i]?=none->J.stop i H')/\∀v,l[i]?=!v->J.go i H'/\∀x j,J.yld i H' x j->Kp H' j/\∀m,Fr (gF F' H' j) j m->P v m x
def rd(K:AB)(enc:α->D):α->Hp->V->Prop:=λv H x=>RD K H (enc v) x
def VI(X:Cx)(A:¬Sl)(tg e:Expr)(P:α->Hp->V->Prop)(p:⇑(¬α)):Prop:=∀l,p=!l->PI X tg e (λσ H R=>∃H0 F,Vs H0 A σ F H/\∀J j,Kp H j->JOk P l (gF F H j) j J->R J j)
def VT(g:TG)(P:α->Hp->V->Prop)(t:α->¬Sl->¬Sl):Prop:=∀H0 A σ F H v x Q,Vs H0 A σ F H->(∀H',Fr F H H'->P v H' x)->(∀j,Vs H0 (t v A) j F H->Q j H)->g x σ H Q
theorem CB:VT (Ie i) (rd K enc) (λv A=>A.set i (sv K (enc v))):=λH0 A σ F H v x Q j r k=>k _ (j.set i r)
def Wk(A B:¬Sl):Prop:=∀H0 σ F H,Vs H0 A σ F H->∃F',Vs H0 B σ F' H/\Fe F H F' H
theorem Wk.refl:Wk A A:=λG G F G h=>#[F,h,.refl]
theorem FP(hi:VI X A tg iter P p)(hg:PG X tg g)(ht:VT g P t)
  (w0:Wk A (B s0)) (hb:∀s x,VSs X (t x (B s)) w R (q s x) B) (hx:↑(X.xe=λJ J=>False)) (hc:↑X.calm) (hs:autoParam (∀x,B8 iter X.env x=pure x) yq2q) :
  VS X A (.For tg iter w [] pos) R (p*>λl=>BW l s0 q) B:=λf hf=>by
 let#[l,h1,h2]:=AS hf
 let Y:PSs X w (λD σ H=>∃s x C,q s x=!C/\tV (t x (B s)) R B C D σ H):=by rintro ζ s σ H D I ⟨G,x,C,e,h⟩;exact hb G x C e ζ s σ H D I h
 refine(cE (good_none hx).own hc (hi l h1) hg Y hs).imp ?_;rintro D σ H ⟨H0,F,hs,k⟩;refine#[H0,F,hs,λJ S kp yK=>?_];let#[F1,vO,Ρ]:=w0 _ _ _ _ (hs.grow kp);refine#[λi m o H'=>m=-l - i/\i<=-l/\∃F' s,Vs H0 (B s) o F' H'/\Fe (gF F H S) S F' H'/\BW (l.drop i) s q=!f,#[_,rfl,Bc _,_,s0,vO,Ρ,by ext],?_];rintro i m o H' ⟨rfl,hle,F',s,hv,fe,j⟩;let#[j1,j2]:=yK F' H' fe i
 cases T:l[i]? with
 | none=>
  let hn:=B6.mp T;rw[KM hn]at j;cases j;exact .inl #[j1 T,k o F' H' hv (kp.fe.trans fe)]
 | some v=>
  let#[Z,tQ]:=AI.mp T;let#[j3,j4]:=j2 v T;rw[DG Z,tQ]at j;unfold BW at j;refine .inr #[j3,λσ2 L=>∃U,U < -l - i/\U=-l - (i+1)/\i+1<=-l/\∃F' s,Vs H0 (B s) σ2 F' L/\Fe (gF F H S) S F' L/\BW (l.drop (i+1)) s q=!f,by rintro _ _ ⟨U,a,b⟩;exact#[U,a,b],λx L hy=>?_];let#[k2,r2]:=j4 x L hy
  refine ht H0 (B s) o _ L v x _ (hv.grow k2) r2 λσ3 hv3=>?_
  let xk:=fe.trans (k2.fe)
  cases hq:q s v with
  | none=>ext
  | some C=>
   rw[hq]at j;refine#[s,v,C,hq,H0,_,hv3,?_]
   cases C with
   | nx G=>exact λE N H4 O Q=>#[_,by grind,rfl,Z,N,G,O,xk.trans Q,j]
   | ct G=>exact λE N H4 O Q=>#[_,by omega,rfl,Z,N,G,O,xk.trans Q,j]
   | bk G=>cases j;exact λE N H4 O Q=>k E N H4 O (kp.fe.trans (xk.trans Q))
   | rt r=>cases j;exact k
end
end
open L2
section
variable{K:AB}{H H' H0:Hp}{F F' S:AL->Prop}{σ:L2.St}{A B:¬Sl}
theorem Wk.trans(a:Wk A B)(b:Wk B C):Wk A C:=λH0 σ F H h=>by
 let#[j,l,m]:=a H0 σ F H h;let#[o,w,E]:=b H0 σ j H l;exact#[o,w,m.trans E]
set_option genInjectivity true in
inductive Ws:¬Sl->¬Sl->Prop where
 | nil:Ws [] []
 | same {a:Sl} {A B:¬Sl}:Ws A B->Ws (a :: A) (a :: B)
 | drop {a:Sl} {A B:¬Sl}:Ws A B->Ws (a :: A) (.u :: B)
 | less {P Q:Hp->Hp->V->Prop} {A B:¬Sl} (h:∀H0 H x,P H0 H x->Q H0 H x):Ws A B->Ws (.q P :: A) (.q Q :: B)
 | lesg {P Q:Hp->(AL->Prop)->Hp->V->Prop} {A B:¬Sl} (h:∀H0 S H x,P H0 S H x->Q H0 S H x):Ws A B->Ws (.g P :: A) (.g Q :: B)
theorem Ws.ok{a b:Sl}{A B:¬Sl}(w:Ws A B):∀{i:Nat},B[i]?=!b->∃a,A[i]?=!a/\∀x,a.ok H0 F S H x->b.ok H0 F S H x:=by
 induction w with
 | nil=>intro i h;simp at h
 | same w j=>intro i h;cases i with
  | zero=>cases h;exact#[_,rfl,λG z=>z]
  | succ i=>exact j h
 | drop w j=>intro i h;cases i with
  | zero=>cases h;exact#[_,rfl,λG G=>trivial]
  | succ i=>exact j h
 | less z w j=>intro i h;cases i with
  | zero=>cases h;exact#[_,rfl,by rintro x ⟨y,l,m⟩;exact#[y,l,λH' f=>z _ _ _ (m H' f)]]
  | succ i=>exact j h
 | lesg z w j=>intro i h;cases i with
  | zero=>cases h;exact#[_,rfl,by rintro x ⟨y,l,m⟩;exact#[y,l,λH' f k=>z _ _ _ _ (m H' f k)]]
  | succ i=>exact j h
theorem Ws.vr{G:Nat->AL->Prop}(w:Ws A B)(h:VR H0 A σ F G H):VR H0 B σ F G H:=by
 refine#[h.kp,h.f0,h.fh,λi b hb=>?_,h.gn,h.ds];let#[a,j,l]:=w.ok (a:=b) hb;let#[x,m,o]:=h.sl i a j;exact#[x,m,l x o]
theorem Ws.vs(w:Ws A B)(h:Vs H0 A σ F H):Vs H0 B σ F H:=let #[G,h]:=h;#[G,w.vr h]
theorem Ws.wk(w:Ws A B):Wk A B:=λH0 σ F H h=>#[F,w.vs h,.refl]
theorem VR.own(h:VR H0 A σ F G H)(i:Nat)(fe:Fe F H F' H')(N:∀b o,H b=!o->Not (G i b)->H' b=!o)(Q:∀b,F' b->F b∨H b=none)(R:∀b,F' b->∃o,H' b=!o)
  (O:∀b,S' b->(G i b∨H b=none)/\Not (F' b)/\∃o,H' b=!o) (T:∀J,Fr F' H' J->(∀a,S' a->J a=H' a)->P H0 S' J y):VR H0 (A.set i (.g P)) (σ.set i (!y)) F' (λj=>if j=i then S' else G j) H':=by
 let m:∀j a,j≠i->G j a->H' a=H a/\∃o,H a=!o:=λj a c z=>by
  let#[o,w]:=(h.gn j a z).2;exact#[by rw[w,N a o w λq=>c (h.ds j i a z q)],o,w]
 refine#[λb o e=>N b o (h.kp b o e) λz=>(h.gn i b z).1 (h.f0 b o e),λb o e=>fe.le b (h.f0 b o e),R,λj s L=>?_,λj a z=>?_,λj l a E C=>?_]
 ·rcases HV L with⟨rfl,rfl,U⟩ | ⟨c,L⟩
  ·exact#[_,by rw[Dc,qX rfl,qX (h.has U)],y,rfl,by rw[qX rfl];exact T]
  ·let#[x,X,Y]:=h.sl j s L
   rw[C1 c,qY (CU c)];exact#[x,X,Sl.mono Y fe λa Z=>(m j a (CU c) Z).1]
 ·by_cases c:j=i
  ·ext
  ·rw[qY c]at z
   let#[e,o,w]:=m j a c z;exact#[λq=>(Q a q).elim (h.gn j a z).1 λq=>(by ext),o,e.trans w]
 ·by_cases c:j=i
  ·by_cases I:l=i
   ·ext
   ·rw[qX c]at E
    rw[qY I]at C;let#[e,o,w]:=m l a I C;exact c.trans (((O a E).1.elim (λq=>h.ds i l a q C) λq=>by ext))
  ·rw[qY c]at E
   by_cases I:l=i
   ·rw[qX I]at C
    let#[e,o,w]:=m j a c E;exact((O a C).1.elim (λq=>h.ds j i a E q) λq=>by ext).trans I.symm
   ·rw[qY I]at C
    exact h.ds j l a E C
def pa(K:AB)(Z:AL->Prop)(o:Ob):Hp->(AL->Prop)->Hp->V->Prop:=λG S H y=>∃a,y=.ref a/\S=(λb=>b=a)/\OB K H a o/\Z a
abbrev sw(K:AB)(o:Ob):Sl:=.g (pa K (λG=>True) o)
abbrev sx(K:AB)(x:AL)(o:Ob):Sl:=.g (pa K (λa=>a=x) o)
theorem VR.atG(h:VR H0 A σ F G H)(hi:A[i]?=!.g P):∃y,σ[i]?=!(!y)/\∀H',Fr F H H'->(∀a,G i a->H' a=H a)->P H0 (G i) H' y:=by
 let#[x,j,y,rfl,l]:=h.sl i _ hi;exact#[y,j,l]
set_option tactic.hygienic true in
theorem aX(hi:A[i]?=!.g P)(I:∀S H0 H y,(∀a,S a->H0 a=none)->P H0 S H y->Q H0 H y):Wk A (A.set i (.q Q)):=by
 rintro H0 σ F H ⟨G,h⟩
 let#[y,J,L]:=h.atG hi;let fe:Fe F H (λb=>F b∨G i b) H:=#[λM z=>.inl z,Kp.refl.fr];refine#[_,#[λj=>if j=i then λM=>False else G j,h.kp,λb o e=>.inl (h.f0 b o e),λb f=>f.elim (h.fh b) λz=>(h.gn i b z).2,λj s m=>?_,λj a z=>?_,λj l a w C=>?_],fe]
 ·rcases HV m with⟨rfl,rfl,R⟩ | ⟨c,m⟩
  ·refine#[_,J,y,rfl,λH' f=>I (G i) _ _ _ (λa z=>?_) (L H' #[f.tup,f.frz,λb o z=>f.fix b o (.inl z)] λa z=>?_)]
   ·cases e:H0 a with
    | none=>rfl
    | some o=>exact zX (h.f0 a o e) (h.gn i a z).1
   ·let#[o,E]:=(h.gn i a z).2
    rw[E,f.fix a o (.inr z) E]
  ·let#[x,N,O]:=h.sl j s m
   rw[qY (CU c)];exact#[x,N,Sl.mono O fe λM M=>rfl]
 ·split at z
  ·exact z.elim
  ·rename_i c
   exact#[λq=>q.elim (h.gn j a z).1 λq=>c (h.ds j i a z q),(h.gn j a z).2]
 ·split at w
  ·exact w.elim
  ·split at C
   ·exact C.elim
   ·exact h.ds j l a w C
theorem LB(hi:A[i]?=!sw K o):Wk A (A.set i (sy K o)):=aX hi (by rintro S H0 H y j ⟨a,l,m,w,_⟩;exact#[a,l,j a (by rw[m]),w])
theorem Vs.own(h:Vs H0 A σ F H)(k:Kp H H')(i:Nat)(l:H a=none)(j:OB K H' a o):Vs H0 (A.set i (sw K o)) (σ.set i (!.ref a)) (λb=>gF F H H' b/\b≠a) H'/\Fe F H (λb=>gF F H H' b/\b≠a) H':=by
 let#[G,h]:=h
 let ne:∀b ob,H b=!ob->b≠a:=λb ob e c=>by ext
 let fe:Fe F H (λb=>gF F H H' b/\b≠a) H':=#[λb f=>#[.inl f,let #[ob,e]:=h.fh b f;ne b ob e],k.fr];let#[u,m]:=j.at;refine#[#[_,h.own i (S':=λb=>b=a) fe (λb o e I=>k b o e) (λb f=>f.1.imp id λz=>z.1) (λb f=>f.1.elim (λz=>let #[o,e]:=h.fh b z;#[o,k b o e]) λz=>z.2) (λb e=>by ext) λw f z=>#[a,rfl,rfl,f.ob (z a rfl) j,trivial]],fe]
theorem Vs.put(h:Vs H0 A σ F H)(hi:A[i]?=!.g (pa K Z o)):∃a,σ[i]?=!(!.ref a)/\OB K H a o/\Z a/\∀{H':Hp} {o':Ob} {u:HO},H'=upd H a u->OB K H' a o'->(∀xs,H a≠!.tup xs)->(∀ob z,H a≠!.frz ob z)->Vs H0 (A.set i (.g (pa K Z o'))) σ F H'/\Fe F H F H':=by
 let#[G,h]:=h;let#[y,l,w]:=h.atG hi
 let#[a,rfl,j,C,m]:=w H Kp.refl.fr λM M=>rfl
 refine#[a,l,C,m,λ{H' o' u} e E I J=>?_];subst e;let L:=(h.gn i a (by rw[j])).1
 let ne:∀b,F b->b≠a:=λb hb c=>L (c▸hb)
 let fe:Fe F H F (upd H a u):=#[λM z=>z,λb xs e=>by rw[AQ (show b≠a from λc=>I xs (c▸e))];exact e,λb ob z e=>by rw[AQ (show b≠a from λc=>J ob z (c▸e))];exact e,λb ob f e=>by rw[AQ (ne b f)];exact e]
 let:=h.own i (S':=G i) (P:=pa K Z o') fe (λb o e z=>by rw[AQ (λc=>z (by rw[j,c]))];exact e) (λb f=>.inl f) (λb f=>by rw[AQ (ne b f)];exact h.fh b f) (λb z=>#[.inl z,(h.gn i b z).1,by rw[j]at z;cases z;exact#[u,Ap]]) λO f z=>#[a,rfl,j,f.ob (z a (by rw[j])) E,m]
 let e:σ.set i (!.ref a)=σ:=by
  let#[N,e]:=AI.mp l;rw[<-e];exact K9 N
 rw[e]at this;exact#[#[_,this],fe]
end
open L2
open L4 (Fw AU BW Bx Jq BQ AS HG eT oL Ld N6 EF)
section
variable{X:Cx}{A A':¬Sl}{e a b c:Expr}{es:¬Expr}{pos:Pos}{α β γ ρ τ τ':Type}
theorem jp(w:Wk A A')(h:VSs X A' sts R p B):VSs X A sts R p B:=λf l=>(h f l).imp (by
 rintro D m H ⟨j,F,o,k⟩;let#[C,E,G]:=w j m F H o
 exact M4 #[j,C,F,H,E,G,k])
theorem Ss{st:B5}{R:Rk ρ}{p:⇑(Fw ρ τ)}{B:τ->¬Sl}(w:Wk A A')(h:VS X A' st R p B):VS X A st R p B:=λf l=>(h f l).imp (by
 rintro D m H ⟨j,F,o,k⟩;let#[C,E,G]:=w j m F H o
 exact M4 #[j,C,F,H,E,G,k])
theorem Fo(h:VE X A e (rN X.K ob) q):VE X A e (rO X.K ob) q:=λv j=>(h v j).imp λC H Q #[l,F,m,k]=>#[l,F,m,λx o kp #[a,w,_,B]=>k x o kp #[a,w,B]]
theorem lc(w:∀s,Wk (B s) (C (g s)))(I:BQ g p=!f) :
  ∃o,p=!o/\∀D E H,tV A R C f D E H->tV A R B o D E H:=by
 let G:∀{k:L2.St->Hp->Prop} {m H F s},(∀j l H',Vs m (C (g s)) j l H'->Fe F H l H'->k j H')->∀j l H',Vs m (B s) j l H'->Fe F H l H'->k j H':=λ{k m H F s} h j l H' v z=>by
  let#[J,L,N]:=w s m j l H' v;exact h j J H' L (z.trans N)
 cases p with
 | none=>cases I
 | some o=>
  refine#[o,rfl,λD E H #[m,F,O,k]=>#[m,F,O,?_]]
  cases o <;> cases I <;> first | exact k | exact G k
theorem GJ{st:B5}{R:Rk ρ}{p:⇑(Fw ρ τ)}{B:τ->¬Sl}{C:τ'->¬Sl}{g:τ->τ'}(h:VS X A st R p B)(w:∀s,Wk (B s) (C (g s))):VS X A st R (BQ g p) C:=λf j=>by
 let#[l,m,o]:=lc w j;exact(h l m).imp o
theorem Ci(w:Wk A (B s)):VSs X A [] R (!.nx s) B:=λf l=>by
 cases l
 exact iO.imp λD j H #[m,F,o,k]=>let #[C,E,G]:=w m j F H o;k j C H E G
theorem Ha(w:VB X A c pt)(G:VSs X A I R p B)(hb:VSs X A J R q B):VS X A (.If c I J pos) R (pt*>λc=>if c=true then p else q) B:=λf L=>by
 let#[v,C,E]:=AS L
 cases v with
 | true=>exact(X2 (w _ C) (G f E) JV).imp (by rintro D m H ⟨j,F,l,k⟩;exact #[j,F,l,λo kp=>by show tV A R B f D m o;exact M4 #[j,_,F,H,l.grow kp,kp.fe,k]])
 | false=>exact(X2 (w _ C) JV (hb f E)).imp (by rintro D m H ⟨j,F,l,k⟩;exact #[j,F,l,λo kp=>by show tV A R B f D m o;exact M4 #[j,_,F,H,l.grow kp,kp.fe,k]])
section
variable{x:Str}{pos':Pos}{ob:α->Ob}{R:Rk ρ}{p:⇑α}
theorem Rs{st}{i}(h:VEA X A i st (rN X.K ob) p):VS X A st R (p*>λv=>!.nx v) (λv=>A.set i (sy X.K (ob v))):=λf C=>by
 let#[v,E,G]:=AS C;cases G
 refine(h v E).imp λD L H #[w,F,j,k]=>#[w,F,j,λx N kp #[a,I,l,B]=>?_]
 let#[u,m]:=B.at;refine k _ _ _ ((j.grow kp).set i λO f=>#[a,I,?_,f.ob (by rw[m,f.fix a u (.inr #[l,u,m]) m]) B]) kp.fe
 cases J:w a with
 | none=>rfl
 | some o=>rw[j.kp a o J]at l;cases l
theorem p7{st}{i}(h:VEA X A i st (rN X.K ob) p):VS X A st R (p*>λv=>!.nx v) (λv=>A.set i (sw X.K (ob v))):=λf o=>by
 let#[v,w,B]:=AS o;cases B
 exact(h v w).imp λD G H #[C,F,j,k]=>#[C,F,j,λx I kp #[a,E,l,m]=>by subst E;exact k _ _ _ (j.own kp i l m).1 (j.own kp i l m).2]
theorem G3(i:Nat)(h:VE X A e (rN X.K ob) p)(j:autoParam X.N.Nodup yq5q)(hi:↑(X.N[i]?=!x))(l:autoParam (Loc X.env.scope x) yq4q)(hs:↑(BX e (!.Name x pos') pos.line X.env=pure false))(m:autoParam (zFn X x) yq3q):VS X A (.Assign [.Name x pos'] e pos) R (p*>λv=>!.nx v) (λv=>A.set i (sy X.K (ob v))):=Rs (bL h j hi l hs m)
theorem D1(i:Nat)(h:VE X A e (rN X.K ob) p)(j:autoParam X.N.Nodup yq5q)(hi:↑(X.N[i]?=!x))(l:autoParam (Loc X.env.scope x) yq4q)(hs:↑(BX e (!.Name x pos') pos.line X.env=pure false))(m:autoParam (zFn X x) yq3q):VS X A (.Assign [.Name x pos'] e pos) R (p*>λv=>!.nx v) (λv=>A.set i (sw X.K (ob v))):=p7 (bL h j hi l hs m)
end
theorem Ep(h:↑(PE X e (DI i)))(hi:↑(A[i]?=!sw X.K (ob v))):VE X A e (rO X.K ob) (!v):=λG j=>h.imp<|by
 rintro w H Q ⟨B,F,l,q⟩
 cases j;let#[a,m,o,_]:=l.put hi;exact#[_,m,q _ H .refl #[a,rfl,o]]
theorem Cr(h:↑(PE X e (DI i)))(hi:↑(A[i]?=!sz X.K (ob v))):VE X A e (rO X.K ob) (!v):=λG j=>h.imp<|by
 rintro w H Q ⟨B,F,l,q⟩
 cases j;let#[y,m,o]:=l.at hi;exact#[_,m,q _ H .refl (o H Kp.refl.fr)]
theorem DY(h:↑(PE X e (DI i)))(hi:↑(A[i]?=!sy X.K (ob v))):VE X A e (rO X.K ob) (!v):=λG j=>h.imp<|by
 rintro C H Q ⟨E,F,l,q⟩
 cases j;let#[y,m,o]:=l.at hi;let#[a,w,_,B]:=o H Kp.refl.fr;exact#[_,m,q _ H .refl #[a,w,B]]
theorem Ji(h:PE X e (DI i))(hi:A[i]?=!sw X.K (ob v)∨A[i]?=!sy X.K (ob v):=by first | exact .inl rfl | exact .inr rfl):VS X A (.Return (!e) pos) (rN X.K ob) (!.rt v) B:=λf o=>by
 cases o;refine(TH h).imp ?_;rintro D w H ⟨C,F,j,k⟩
 rcases hi with hi | hi
 ·let#[G,l,_]:=LB hi C w F H j
  let#[y,m,E]:=l.at (by rw[Dc,qX rfl,qX (AI.mp hi).1]);exact#[_,m,k _ H j.kp (E H Kp.refl.fr)]
 ·let#[y,l,m]:=j.at hi
  exact#[_,l,k _ H j.kp (m H Kp.refl.fr)]
theorem Zs(h:HG l v=!j):-l < 1000000/\j=l++[v]:=by
 unfold HG at h;ext
abbrev _root_.zSq(X:L2.Cx)(e:Expr):Prop:=AG [e] X.env=(false,A2 e X.env) :: AG [] X.env
theorem MG(Y:PE X o (DI i))(h:VE X A e (rV X.K enc) p)(hi:↑(A[i]?=!sw X.K (oL enc l)))(B:↑(Bd o "append" X.env (A2 o X.env)=A2 o X.env))
  (E:↑(((Cv j (AG [e] X.env)).all (λx=>not x.1)&&(LV j (G1 [] X.env)).all (λx=>x.1.isSome)
    &&decide (-[e]+-([]:¬IJ)+(if ([]:¬IJ).isEmpty then 0 else 1) < 30))))
  (C:↑((w.endLine==j.line))) (hs:↑(zSq X e)) (m:↑((Cv j (AG [] X.env)).any (·.1)=false)) (L:↑(BX (.Call (.Attribute o "append" w) [e] [] j) none pos.line X.env=pure false)) :
  VS X A (.Expr (.Call (.Attribute o "append" w) [e] [] j) pos) R (p*>λv=>HG l v*>λG=>!.nx G) (λG=>A.set i (sw X.K (oL enc G))):=λf N=>by
 let#[v,Z,N]:=AS N;let#[G,h2,h3]:=AS N;cases h3;let#[hl,rfl]:=Zs h2;refine(PM (cR JH RI RH N3 Y (Bn (h v Z) Du hs) B E C hs m) L).imp ?_;rintro D σ H ⟨H0,F,hs,k⟩;let#[a,O,g3,_]:=hs.put hi;let#[vs,P,g5]:=id g3;refine#[_,O,.inl #[rfl,vs,.inl (.inl P)],H0,F,hs,λy I kp r=>?_];let g6:=kp a _ P;let Q:=g5.keep (λb M z=>kp b _ z) (λb M M z=>kp b _ z);refine#[a,vs,y,rfl,rfl,g6,by rw[<-Q.length,AD];exact Ld hl,?_]
 let S:∀b J,I b=!.tup J->upd I a (.lst (vs++[y])) b=!.tup J:=λb J z=>by rw[AQ (λc=>by ext)];exact z
 let T:∀b ob u,I b=!.frz ob u->upd I a (.lst (vs++[y])) b=!.frz ob u:=λb ob u z=>by rw[AQ (λc=>by ext)];exact z
 let#[a',U,_,_,up]:=(hs.grow kp).put hi;rw[O]at U;cases U;let:=up (o':=oL enc (l++[v])) rfl #[_,Ap,by rw[Bv];exact(Q.keep S T).append (.cons (r.keep S T) .nil)] (λJ z=>by ext) (λob z q=>by ext);exact k _ _ _ this.1 (kp.fe.trans this.2)
theorem lS{op:UC}{r:R2}{l:α->D}{eb:β->D}{pa:⇑α}{m:⇑β}{g:α->β->⇑Bool}(C:OpR X (Bk op) r)(E:VE X A a (rV X.K l) pa)(hb:VE X A b (rV X.K eb) m)
  (G:∀x y z u v H Q,g x y=!z->RD X.K H (l x) u->RD X.K H (eb y) v->Q (.bl z) H->r u v H Q) (I:autoParam (BV op b=false) yq9q):VB X A (.Compare a [op] [b] pos) (pa*>λx=>m*>λy=>g x y):=λv j=>by
 let#[x,J,j]:=AS j;let#[y,L,N]:=AS j;exact(NE C (E x J) (hb y L) I).imp (by rintro U H Q ⟨O,F,P,q⟩;exact Eb #[O,F,P,λu w Y o R B S T=>G x y v u w o _ N (B.rd S) T #[v,rfl,q o (R.trans B)]])
theorem KW(h:VB X A a p):VB X A (.UnaryOp .Not a pos) (p*>λb=>!not b):=λv j=>by
 let#[x,l,m]:=AS j;cases m;exact(cB (h x l)).imp (by rintro B H Q ⟨o,F,w,q⟩;exact#[o,F,w,q])
def VL(X:Cx)(A:¬Sl)(es:¬Expr)(enc:α->D)(p:⇑(¬α)):Prop:=∀v,p=!v->PA X es (λm H Q=>∃o F,Vs o A m F H/\∀l j,Kp H j->A7 X.K [] j (v.map enc) l->Q l j)
theorem DH:VL X A [] enc (![]):=by rintro v j pos l s m H Q I ⟨o,F,w,q⟩;cases j;exact Du pos l s m H Q I (q [] H .refl .nil)
theorem EZ(h:VE X A e (rV X.K enc) p)(hl:VL X A es enc q)(hs:↑(zSp X e es)):VL X A (e :: es) enc (p*>λx=>q*>λl=>!x :: l):=by
 rintro v m pos C s E H Q I ⟨o,F,j,k⟩
 let#[x,G,m]:=AS m;let#[l,J,L]:=AS m;cases L;exact Bn (h x G) (hl l J) hs pos C s E H Q I #[o,F,j,λy R w N=>#[o,_,j.grow w,λS O B P=>k _ O (w.trans B) (.cons (B.rd N) P)]]
theorem BH(h:H p=none):Kp H (upd H p o):=λb ob z=>by rw[AQ (λc=>by ext)];exact z
set_option tactic.hygienic true in
theorem Hr(h:VL X A es enc p):VE X A (.Tuple es k pos) (rV X.K (eT enc)) (p.bind EF):=λv o=>by
 let#[l,w,j]:=AS o;unfold EF at j
 split at j <;> cases j
 rename_i B;exact(TK (h v w)).imp (by rintro G H Q ⟨C,F,E,q⟩;exact#[C,F,E,λI J kp r=>#[by rw[<-r.length,AD];exact N6 B,λp m=>q _ _ (kp.trans (BH m)) (.tup Ap (r.keep (λb I z=>BH m b _ z) λb I I z=>BH m b _ z))]])
set_option tactic.hygienic true in
theorem FQ(h:VL X A es enc p):VE X A (.List es pos) (rN X.K (oL enc)) (p.bind EF):=λv w=>by
 let#[l,B,m]:=AS w;unfold EF at m
 split at m <;> cases m
 rename_i C
 refine(cM (h v B)).imp λJ H Q #[E,F,G,q]=>#[E,F,G,λL N kp r=>#[by rw[<-r.length,AD];exact N6 C,λp j=>q _ _ (kp.trans (BH j)) #[p,rfl,?_,_,Ap,r.keep (λb J z=>BH j b _ z) λb J J z=>BH j b _ z]]]
 cases I:H p with
 | none=>rfl
 | some o=>rw[kp p o I]at j;cases j
def eQ(j:¬(Hp->V->Prop))(H:Hp)(xs:¬V):Prop:=-j=-xs/\∀(i:Nat) P x,j[i]?=!P->xs[i]?=!x->∀l,Kp H l->P l x
def spV(l:¬(Hp->V->Prop))(R:Rk α)(p:⇑α):Sp:=λvs H Q E=>∃v,p=!v/\eQ l H vs/\∀x j,Kp H j->R v H x j->Q x j
def asl(j:¬(Hp->V->Prop))(n:Nat):¬Sl:=j.map (λP=>.q λG H y=>P H y)++Bj (n - -j) .u
theorem Vs.start(h:eQ B H vs):Vs H (asl B (-N)) (L2.start N vs) (λa=>∃o,H a=!o) H:=by
 refine#[λG G=>False,.refl,λa o e=>#[o,e],λa e=>e,λi s m=>?_,λi a z=>z.elim,λi j a z=>z.elim]
 ·unfold asl at m
  unfold L2.start
  by_cases l:i < -B
  ·rw[Bq (by simpa using l),Ai,AJ l]at m
   cases m;let w:=h.1▸l;exact#[!vs[i],by rw[Bq (by simpa using w)];simp[w],_,rfl,λC f=>h.2 i _ _ (AJ l) (AJ w) C λb o e=>f.fix b o #[o,e] e]
  ·rw[BU (by simpa using l),AD]at m
   let#[E,e]:=AI.mp m;rw[List.getElem_replicate]at e;subst e;rw[LA]at E;rw[BU (by simpa[<-h.1]using l),AD,<-h.1];exact#[none,by ext,trivial]
theorem fnV{P:Ao}{w:A3}{K:AB}{S:Str->⇑AE}{base:BG}{x m:Str}{st:B5}{f:AL}{fd:EA}{N L:¬Str}{k:Nat}{O:¬(Hp->V->Prop)}{R:Rk ρ}{q:⇑(Fw ρ τ)}{B:τ->¬Sl}(F:Fun K x m st f fd)(T:Hk N L (By st))(Y:-O=-L)
  (Z:∀(C:AE) (A:BR) (j:¬Env) (s:AK) (H:Hp) (E:XK),FK k (A.deeper (HN m (By st) s.heap.objs.size f C))->(A.deeper (HN m (By st) s.heap.objs.size f C)).units+64 < Bf->N.Nodup ->
   VSs (Qm (CXG P w) P w K S base N m (By st) f C A j s H E).q (asl O (-N)) (FI st) R q B):Ca P w K S base (CXG P w) (k+1) f fd L (spV O R (Bx q)):=by
 let#[oc,od,kV,doc,pm,an,C,ct,uz,rfl,lk,tR]:=F.ex;refine SJ lk tR T (by rintro vs H Q E ⟨v,_,h,_⟩;rw[<-Y,h.1]) ?_;rintro A j s H vs Q E U ⟨v,G,h2,h3⟩
 let hq:q=!.rt v:=by
  unfold Bx at G;split at G
  ·cases G;rfl
  ·cases G
 let hb:=Z C A j s H E U U.units T.nd _ hq;refine#[_,λζ s' σ H' D I q=>Da (hb ζ s' σ H' D (I.with _) q) (λfl s1 z=>?_) λe s1 z=>z.elim,H,_,Vs.start h2,h3]
 cases fl with
 | next=>let#[l,o,J,z]:=z;exact#[l,o,J.without,z]
 | brk=>let#[l,o,J,z]:=z;exact#[l,o,J.without,z]
 | cont=>let#[l,o,J,z]:=z;exact#[l,o,J.without,z]
 | ret u=>let#[v,l,o,J,r,z]:=z;exact#[v,l,o,J.without,r,z]
def VA(X:Cx)(A:¬Sl)(es:¬Expr)(p:⇑γ)(m:γ->¬(Hp->V->Prop)):Prop:=∀z,p=!z->PA X es (λo H Q=>∃w F,Vs w A o F H/\∀l j,Kp H j->eQ (m z) j l->Q l j)
theorem Bs:VA X A [] (!()) (λG=>[]):=by rintro v m pos j s l H Q I ⟨o,F,w,q⟩;exact Du pos j s l H Q I (q [] H .refl #[rfl,λi P x h=>by simp at h])
theorem Ct{R:Rk α}{P:α->Hp->V->Prop}{p:⇑α}{q:⇑γ}{w:γ->¬(Hp->V->Prop)}(h:VE X A e R p)(S:∀v H x H',R v H x H'->∀m,Kp H' m->P v m x)(hl:VA X A es q w)(hs:↑(zSp X e es)) :
  VA X A (e :: es) (p*>λx=>q*>λy=>!(x,y)) (λz=>P z.1 :: w z.2):=by
 rintro v o pos T s U H Q I ⟨B,F,j,k⟩
 let#[x,Y,o]:=AS o;let#[l,Z,h3]:=AS o;cases h3;refine Bn (h x Y) (hl l Z) hs pos T s U H Q I #[B,F,j,λy H1 C r1=>#[B,_,j.grow C,λys m E G=>k _ m (C.trans E) #[congrArg (· + 1) G.1,λi P' z J L N O=>?_]]]
 cases i with
 | zero=>cases J;cases L;exact S _ _ _ _ r1 N (E.trans O)
 | succ i=>exact G.2 i P' z J L N O
theorem arV{K}{enc}(v:α)(H:Hp)(x:V)(H':Hp)(h:rV K enc v H x H')(j:Hp)(k:Kp H' j):RD K j (enc v) x:=k.rd h
theorem arO{K}{ob}(v:α)(H:Hp)(x:V)(H':Hp)(h:rO K ob v H x H')(j:Hp)(k:Kp H' j):∃a,x=.ref a/\OB K j a (ob v):=let #[a,l,m]:=h;#[a,l,k.ob m]
theorem Bi{x j:Str}{st:B5}{C:¬Str}{k k':Nat}{pc:Pos}{p:⇑γ}{q:γ->⇑α}{E:γ->¬(Hp->V->Prop)}{R:Rk α}(D:Dfn X.K X.mg x j st C)(F:∀z,Ca X.prog X.w X.K X.mg X.base (CXG X.prog X.w) k D.f D.fd C (spV (E z) R (q z)))(G:FK k' X.A)(I:VA X A (e :: es) p E)
  (J:∀v H H' x l,Kp H H'->R v H' x l->R v H x l) (L:↥(k<=k')) (N:↑(X.xe=λM M=>False)) (O:↑(Gl X x)) (o:↥((x==("__debug__" : Str))=false)) (P:↑(zSp X e es)) (B:↑((Cv pos (AG es X.env)).any (·.1)=false)) :
  VE X A (.Call (.Name x pc) (e :: es) [] pos) R (p.bind q):=λv S=>by
 let#[z,T,U]:=AS S
 exact(TN (F z) (G.mono L) O D.m D.kp D.b .nil (good_none N).pass (I z T) o P B).imp (by rintro σ H Q ⟨Y,F,Z,k⟩;exact #[Y,F,Z,λxs H' kp r=>by symm;rw[BP];exact#[v,U,r,λy l k2 r2=>k y l (kp.trans k2) (J _ _ _ _ _ kp r2)]])
end
open L2
open L4 (Fw AU BW Bx Jq BQ AS HG Gg eT oL Ld N6 FF Kl CA Gf)
section
variable{X:Cx}{A:¬Sl}{e a b tg:Expr}{p pos:Pos}{α:Type}
theorem Nl(i:Nat)(m:PIp X op (ipI g))(h:VE X A e (XP X) q)(o:↑(A[i]?=!sv X.K (D.int v)))(w:autoParam X.N.Nodup yq5q)(hi:↑(X.N[i]?=!x))(B:autoParam (Loc X.env.scope x) yq4q)
  (C:autoParam (zFn X x) yq3q):VS X A (.AugAssign (.Name x l) op e pos) R (q*>λy=>!.nx (g v y)) (λz=>A.set i (sv X.K (D.int z))):=λf E=>by
 let#[y,G,I]:=AS E;cases I;refine(mM w hi B (h y G) m C).imp ?_;rintro D P H ⟨J,F,j,k⟩;let#[z,L,O]:=j.at o;cases O H Kp.refl.fr;refine#[_,L,J,F,j,λu Q kp r=>?_];cases r;exact#[_,_,rfl,rfl,k _ _ _ ((j.grow kp).set i λM M=>.int _) kp.fe]
theorem YI{K:AB}{enc:α->D}{l:¬α}{F:AL->Prop}{H:Hp}{J:It}{sq:Hp->¬V->Prop}(j:∀i H xs x,sq H xs->xs[i]?=!x->J.go i H)(B:∀i H xs,sq H xs->-xs<=i->J.stop i H)(C:∀i H x H',J.yld i H x H'->H'=H/\∀xs,sq H xs->xs[i]?=!x)
  (h:∀H',Fr F H H'->∃vs,sq H' vs/\A7 K [] H' (l.map enc) vs):JOk (rd K enc) l F H J:=λN H' fe i=>by
 let#[vs,m,o]:=h H' fe.fr;refine#[λO=>B i H' vs m (by rw[<-o.length,AD];ext),λv E=>?_];let#[y,w,G]:=o.get (by rw[Ai,E];rfl);refine#[j i H' vs y m w,λx I q=>?_];let#[rfl,L]:=C i H' x I q;let:=L vs m;rw[w]at this;cases this;exact#[.refl,λP f=>f.rd G]
theorem jB{K:AB}{enc:α->D}{l:¬α}{F:AL->Prop}{H:Hp}{a:AL}{vs:¬V}(j:H a=!.tup vs)(m:A7 K [] H (l.map enc) vs):JOk (rd K enc) l F H (Itt K a):=
 YI (λi H o x j m=>#[o,x,j,m]) (λi H o j m=>#[o,j,m]) (λi H x w h=>h) λw f=>#[vs,.inl (.inl (f.tup _ _ j)),m.keep f.tup f.frz]
theorem Tc{K:AB}{enc:α->D}{l:¬α}{F:AL->Prop}{H:Hp}{a:AL}(h:∀H',Fr F H H'->OB K H' a (oL enc l)):JOk (rd K enc) l F H (Itl K a):=
 YI (λi H o x j m=>#[o,x,j,m]) (λi H o j m=>#[o,j,m]) (λi H x H' h=>h) λH' f=>by
  let#[vs,j,m]:=h H' f;exact#[vs,.inl (.inl j),m]
theorem Io{enc:α->D}{q:⇑(¬α)}(h:VE X A e (rV X.K (eT enc)) q):VI X A tg e (rd X.K enc) q:=λl m=>(mQ (h l m)).imp (by rintro E H R ⟨o,F,w,k⟩;exact#[o,F,w,λx B kp r=>by
 cases r with
 | @tup _ a vs j C=>exact#[a,rfl,#[vs,.inl (.inl j)],k _ B kp (jB j C)]])
theorem ak{enc:α->D}{l:¬α}{i:Nat}{P:Hp->Hp->V->Prop}(h:PE X e (DI i))(j:∀m H y,P m H y->∃a,y=.ref a/\OB X.K H a (oL enc l))(hi:↑(A[i]?=!.q P)):VI X A tg e (rd X.K enc) (!l):=λJ B=>(NG h).imp<|by
 rintro L H R ⟨m,F,C,k⟩
 cases B;let#[y,E,w]:=C.at hi;let#[a,rfl,vs,G,N]:=j _ _ _ (w H Kp.refl.fr);refine#[_,E,a,rfl,#[vs,.inl (.inl G)],k _ H .refl (Tc λI f=>?_)];let#[O,e,Q]:=j _ _ _ (w I #[f.tup,f.frz,λb o z=>f.fix b o (.inl z)])
 ext
theorem Hh{enc:α->D}{l:¬α}{i:Nat}(h:PE X e (DI i))(hi:↑(A[i]?=!sy X.K (oL enc l))):VI X A tg e (rd X.K enc) (!l):=ak h (by rintro _ _ _ ⟨a,j,_,m⟩;exact#[a,j,m]) hi
theorem Ms{enc:α->D}{l:¬α}{i:Nat}(h:PE X e (DI i))(hi:↑(A[i]?=!sz X.K (oL enc l))):VI X A tg e (rd X.K enc) (!l):=ak h (λG G G z=>z) hi
theorem Pp{enc:α->D}{q:⇑(¬α)}(h:VE X A e (rN X.K (oL enc)) q):VI X A tg e (rd X.K enc) q:=λl m=>(NG (h l m)).imp λI H R #[o,F,w,k]=>#[o,F,w,λx B kp #[a,C,E,vs,j,G]=>#[a,C,#[vs,.inl (.inl j)],k _ B kp (Tc λJ f=>#[vs,f.fix a _ (.inr #[E,_,j]) j,G.keep f.tup f.frz])]]
theorem YJ{K}{lo}{n}{F}{H}:JOk (rd K D.int) (CA lo n) F H (Itr lo n):=λC E fe i=>by
 let l:-CA lo n=n:=by unfold CA;simp
 refine#[λo=>by rw[<-l];exact B6.mp o,λv j=>?_]
 let m:i < n:=by rw[<-l];exact(AI.mp j).1
 refine#[m,λx G #[w,B]=>?_];subst w B
 let:lo+i=v:=by
  unfold CA at j;rw[Ai,ET m]at j;cases j;rfl
 rw[this];exact#[.refl,λI I=>.int _]
set_option tactic.hygienic true in
theorem Dy(o:X.mg "range" = none) (h:VE X A a (XP X) q) (w:↑(Gl X "range")) (hs:↑(AG [a] X.env=[(false,A2 a X.env)])):VI X A tg (.Call (.Name "range" p) [a] [] pos) (rd X.K D.int) (q.bind FF):=λl B=>by
 let#[j,C,m]:=AS B;unfold FF at m
 split at m <;> cases m
 rename_i I
 exact(ZH w o (Bn (h j C) Du hs) hs).imp (by rintro J H R ⟨E,F,hs,k⟩;exact#[E,F,hs,λx G kp r=>by
  cases r
  exact#[j,rfl,by lia,by omega,k _ G kp YJ]])
end
open L2
open L4 (Fw AU BW Bx Jq BQ AS eT oL eP N6)
section
variable{K:AB}{H H':Hp}
theorem nS(l:Le K [] H [] H'):Kp H H':=λa o h=>(l.oth a o h ∅).1
theorem mE:Ow K [] [] H:=#[rfl,λi j a h=>by simp at h,λn o a h=>by simp at h]
theorem mG(h:f x y []=.ok d [])(j:RD K H x u)(m:RD K H y v)(k:∀z H',Kp H H'->RD K H' d z->Q z H'):rD K f u v H Q:=
 #[[],[],x,y,d,[],mE,j,m,h,λo H' z l s r=>by cases DX s.len;exact k z H' (nS l) r]
end
section
variable{X:Cx}{A:¬Sl}{e a b c:Expr}{p pos:Pos}{α β γ:Type}{ea:α->D}{eb:β->D}{pa:⇑α}{pb:⇑β}
theorem j6(m:f (ea x) (eb y) []=.ok d [])(h:∃j F,Vs j A o F H/\∀z H',Kp H H'->RD X.K H' d z->T z H') :
  tOp (rD X.K f) (tE A (rV X.K ea) x) (tE A (rV X.K eb) y) o H T:=by
 let#[j,F,B,k]:=h;exact Eb #[j,F,B,λu w N O C l E G=>mG m (l.rd E) G λz I J L=>k z I (C.trans (l.trans J)) L]
theorem UY{op:UC}{f:D->D->Sto->Res D}{g:α->β->⇑Bool}(l:OpR X (Bk op) (rD X.K f))(m:∀x y z,g x y=!z->f (ea x) (eb y) []=.ok (.bl z) [])(o:VE X A a (rV X.K ea) pa)(hb:VE X A b (rV X.K eb) pb)(w:autoParam (BV op b=false) yq9q) :
  VB X A (.Compare a [op] [b] pos) (pa*>λx=>pb*>λy=>g x y):=λv j=>by
 let#[x,B,j]:=AS j;let#[y,C,E]:=AS j;exact(NE l (o x B) (hb y C) w).imp (by rintro J H Q ⟨G,F,I,q⟩;exact j6 (m x y v E) #[G,F,I,λz L k r=>by cases r;ext])
theorem lN{op:UC}{f:D->D->Sto->Res D}{g:α->β->⇑Bool}(l:OpR X (Bk op) (rD X.K f))(m:∀x y z,g x y=!z->f (ea x) (eb y) []=.ok (.bl z) [])(o:VE X A a (rV X.K ea) pa)(hb:VE X A b (rV X.K eb) pb)(w:autoParam (BV op b=false) yq9q) :
  VE X A (.Compare a [op] [b] pos) (rV X.K D.bl) (pa*>λx=>pb*>λy=>g x y):=λv j=>by
 let#[x,B,j]:=AS j;let#[y,C,E]:=AS j;exact(TM l (o x B) (hb y C) w).imp (by rintro J H Q ⟨G,F,I,q⟩;exact j6 (m x y v E) #[G,F,I,q])
theorem Tu(h:atI l i=!v):atI (l.map ea) i=!ea v:=by
 unfold atI at h ⊢;rw[AD]
 cases m:ixN (-l) i with
 | none=>ext
 | some j=>ext
theorem S4(hl:VE X A a (rV X.K (eT ea)) pl)(hi:VE X A b (XP X) pi)(hs:autoParam (LQ b) yq7q):VE X A (.Subscript a b pos) (rV X.K ea) (pl*>λl=>pi*>λi=>atI l i):=λv j=>by
 let#[l,o,j]:=AS j;let#[i,B,C]:=AS j
 refine(Uw dH (hl l o) (hi i B) hs).imp λS H Q #[E,F,hs,q]=>Eb #[E,F,hs,λu w T G I m J L=>?_]
 cases L
 cases J with
 | @tup _ p vs N O=>
  let#[y,P,R]:=PX O (Tu C);exact#[p,vs,i,y,rfl,rfl,.inl (.inl (m _ _ N)),P,q y G (I.trans m) (m.rd R)]
theorem Hs(hl:VE X A a (rO X.K (oL ea)) pl)(hi:VE X A b (XP X) pi)(hs:autoParam (LQ b) yq7q):VE X A (.Subscript a b pos) (rV X.K ea) (pl*>λl=>pi*>λi=>atI l i):=λv j=>by
 let#[l,o,j]:=AS j;let#[i,B,C]:=AS j
 refine(Uw ix_list (hl l o) (hi i B) hs).imp λS H Q #[E,F,hs,q]=>Eb #[E,F,hs,λu w T G I m J L=>?_]
 cases L;let#[p,rfl,vs,N,O]:=J;let#[y,P,R]:=PX O (Tu C);exact#[p,vs,i,y,rfl,rfl,.inl (.inl (m _ _ N)),P,q y G (I.trans m) (m.rd R)]
theorem Np{x:Str}{id:String}{r:¬V->Hp->VK->Prop}{R:Rk α}{S:Rk γ}{g:α->⇑γ}(C:IG X (.builtin id) r)(E:ES x=!.builtin id)(G:X.mg x=none)(h:VE X A e R pa)(I:∀v z H u j Q,g v=!z->R v H u j->(∀y H',Kp j H'->S z j y H'->Q y H')->r [u] j Q)
  (J:∀v H H' x l,Kp H H'->S v H' x l->S v H x l) (L:↑(Gl X x)) (N:↥(x≠"__name__")) (m:↥((x==("__debug__" : Str))=false)) (w:↑(zSq X e)) (o:↑((Cv pos (AG [] X.env)).any (·.1)=false)) :
  VE X A (.Call (.Name x p) [e] [] pos) S (pa.bind g):=λv O=>by
 let#[y,P,T]:=AS O;exact(QN C L G E (Bn (h y P) Du w) N m w o).imp (by rintro σ H Q ⟨U,F,Y,q⟩;exact#[U,F,Y,λu j B Z=>I y v H u j Q T Z λz l k2 r2=>q z l (B.trans k2) (J _ _ _ _ _ B r2)])
theorem S6(C:IG X (.type T) r)(E:ES x=!.type T)(G:X.mg x=none)(h:VE X A e R pa)(I:∀v z H u j Q,g v=!z->R v H u j->(∀y H',Kp j H'->S z j y H'->Q y H')->r [u] j Q)
  (J:∀v H H' x l,Kp H H'->S v H' x l->S v H x l) (L:↑(Gl X x)) (N:↥(x≠"__name__")) (m:↥((x==("__debug__" : Str))=false)) (w:↑(zSq X e)) (o:↑((Cv pos (AG [] X.env)).any (·.1)=false)) :
  VE X A (.Call (.Name x p) [e] [] pos) S (pa.bind g):=λv O=>by
 let#[y,P,U]:=AS O
 exact(ZJ C L G E (Bn (h y P) Du w) N m w o).imp λσ H Q #[Y,F,Z,q]=>#[Y,F,Z,λu j B r1=>I y v H u j Q U r1 λz l k2 r2=>q z l (B.trans k2) (J _ _ _ _ _ B r2)]
theorem upV{K}(v:α)(H H':Hp)(x:V)(H2:Hp)(_:Kp H H')(h:rV K ea v H' x H2):rV K ea v H x H2:=h
theorem upN{K}{ob}(v:α)(H H':Hp)(x:V)(H2:Hp)(k:Kp H H')(h:rN K ob v H' x H2):rN K ob v H x H2:=by
 let#[a,l,j,m]:=h;refine#[a,l,?_,m]
 cases e:H a with
 | none=>rfl
 | some o=>rw[k a o e]at j;cases j
theorem S3{pl:⇑(¬α)}(j:X.mg "len" = none) (h:VE X A e (rO X.K (oL ea)) pl) (m:↑(Gl X "len")) (o:↑(zSq X e)):VE X A (.Call (.Name "len" p) [e] [] pos) (XP X) (pl*>λl=>!(-l:Int)):=
 Np Jy LX j h (λv z H u w Q B C k=>by
  cases B;let#[q,rfl,vs,E,G]:=C;refine#[q,vs,rfl,.inl (.inl (.inl E)),?_];rw[<-G.length,AD]
  exact k _ w .refl (.int _)) upV m ∅ (by rfl) o
theorem gW{pl:⇑(¬α)}(j:X.mg "len" = none) (h:VE X A e (rV X.K (eT ea)) pl) (m:↑(Gl X "len")) (o:↑(zSq X e)):VE X A (.Call (.Name "len" p) [e] [] pos) (XP X) (pl*>λl=>!(-l:Int)):=
 Np Jy LX j h (λv z H u w Q B C k=>by
  cases B
  cases C with
  | @tup _ q vs E G=>
   refine#[q,vs,rfl,.inr (.inl (.inl E)),?_];rw[<-G.length,AD]
   exact k _ w .refl (.int _)) upV m ∅ (by rfl) o
theorem Gv{pl}(m:X.mg "tuple" = none) (h:VE X A e (rO X.K (oL ea)) pl) (o:↑(Gl X "tuple")) (w:↑(zSq X e)):VE X A (.Call (.Name "tuple" p) [e] [] pos) (rV X.K (eT ea)) pl:=by
 let:=S6 (g:=some) (pos:=pos) (p:=p) Rc boot_tuple m h (λv z H u I Q B C k=>by
  cases B;let#[q,rfl,vs,E,G]:=C
  exact#[q,vs,rfl,.inl #[.inl (.inl E),λl j=>k _ _ (BH j) (.tup Ap (G.keep (λb J z=>BH j b _ z) λb J J z=>BH j b _ z))]]) upV o ∅ (by rfl) w
 rwa [Option.bind_fun_some]at this
theorem bB(B:VB X A c pt)(I:VE X A a R pa)(hb:VE X A b R q)(C:∀v H H' x j,Kp H H'->R v H' x j->R v H x j):VE X A (.IfExp c a b pos) R (pt*>λt=>if t=true then pa else q):=λv J=>by
 let#[t,E,G]:=AS J
 cases t with
 | true=>exact(Ux (B _ E) (I v G) (tb:=λM M M=>False) (λM M M M M M h=>h.elim)).imp λo H Q #[l,F,m,k]=>#[l,F,m,λH' kp=>by show tE A R v o H' Q;exact#[l,_,m.grow kp,λx j w r=>k x j (kp.trans w) (C _ _ _ _ _ kp r)]]
 | false=>exact(Ux (B _ E) (ta:=λM M M=>False) (λM M M M M M h=>h.elim) (hb v G)).imp λo H Q #[l,F,m,k]=>#[l,F,m,λH' kp=>by show tE A R v o H' Q;exact#[l,_,m.grow kp,λx j w r=>k x j (kp.trans w) (C _ _ _ _ _ kp r)]]
end
open L2
open L4 (Fw AS eT oL L8 Bu Ld)
section
variable{K:AB}{H H' H0:Hp}{F F':AL->Prop}{σ:L2.St}{A:¬Sl}{α β:Type}
theorem VR.upd(h:VR H0 A σ F G H)(m:Not (F p))(hw:∀i,Not (G i p))(o:∀xs,H p≠!.tup xs)(w:∀ob z,H p≠!.frz ob z) :
  VR H0 A σ F G (L2.upd H p u)/\Fe F H F (L2.upd H p u):=by
 let ne:∀b,F b->b≠p:=λb hb c=>m (c▸hb)
 let l:∀i b,G i b->b≠p:=λi b hb c=>hw i (c▸hb)
 let fe:Fe F H F (L2.upd H p u):=#[λI z=>z,λb xs e=>by rw[AQ (show b≠p from λc=>o xs (c▸e))];exact e,λb ob z e=>by rw[AQ (show b≠p from λc=>w ob z (c▸e))];exact e,λb ob f e=>by rw[AQ (ne b f)];exact e];refine#[#[λb ob e=>by rw[AQ (ne b (h.f0 b ob e))];exact h.kp b ob e,h.f0,λb f=>by rw[AQ (ne b f)];exact h.fh b f,λj s B=>?_,λi b z=>#[(h.gn i b z).1,by rw[AQ (l i b z)];exact(h.gn i b z).2],h.ds],fe];let#[y,C,E]:=h.sl j s B;exact#[y,C,Sl.mono E fe λb hb=>AQ (l j b hb)]
theorem VR.pre{G}{k}{pre}(h:VR H0 A σ F G H)(m:-pre=k):VR H0 (Bj k .u++A) (pre++σ) F (λi a=>k<=i/\G (i - k) a) H:=by
 refine#[h.kp,h.f0,h.fh,λi s l=>?_,λi a z=>h.gn _ a z.2,λi j a o w=>by let:=h.ds _ _ a o.2 w.2;grind]
 by_cases c:i < k
 ·rw[Bq (by simpa using c),J5,qX c]at l
  cases l;exact#[pre[i]'∅,by rw[Bq ∅];simp,trivial]
 ·rw[BU (by simpa using c),LA]at l
  let#[x,B,C]:=h.sl _ s l;refine#[x,by rw[BU (by ext),m];exact B,?_];ext
def VIf(X:Cx)(A:¬Sl)(j:¬Expr)(p:⇑Bool):Prop:=∀v,p=!v->XF X j (λσ H Q=>∃H0 F,Vs H0 A σ F H/\∀H',Kp H H'->Q v H')
theorem Ea:VIf X A [] (!true):=by rintro v j l s σ H Q I ⟨H0,F,m,q⟩;cases j;exact Uu l s σ H Q I (q H .refl)
theorem Jj(h:VB X A c p):VIf X A [c] p:=λv j=>cI (h v j)
def VP(g:TG)(P:α->Hp->V->Prop)(k:Nat)(A:¬Sl)(T:α->¬Sl):Prop:=∀H0 (pre σ:L2.St) F G H v x (Q:L2.St->Hp->Prop),pre.length=k->VR H0 (Bj k .u++A) (pre++σ) F G H->(∀H',Fr F H H'->P v H' x)->(∀j:L2.St,j.length=k->VR H0 (T v) (j++σ) F G H->Q (j++σ) H)->g x (pre++σ) H Q
theorem LC:VP (Ie 0) (rd K enc) 1 A (λv=>sv K (enc v) :: A):=λH0 pre σ F G H v x Q j l r k=>by
 let#[y,rfl]:=Vj.mp j;exact k [!x] rfl (l.set 0 r)
theorem aj:VP (Ie 0) P 1 A (λv=>(.q λI H y=>P v H y) :: A):=λH0 pre σ F G H v x Q j l r k=>by
 let#[y,rfl]:=Vj.mp j;exact k [!x] rfl (l.set 0 r)
set_option tactic.hygienic true in
theorem YW{n:Nat}{P:α->Hp->V->Prop}{eb:β->D}{g:TG}{T:α->¬Sl}{l:¬α}{pc:α->⇑Bool}{pm:α->⇑β}{out:¬β}(ht:VP g P n A T)(hT:∀v,Ws (T v) (Bj n .u++A))(h2:Bu l pc pm=!out){σ:L2.St}{H:Hp}{Q:VK}(h:tE A (rN K (oL eb)) out σ H Q) :
  Xp n (λσ H R=>∃H0 F,Vs H0 A σ F H/\∀J C,Kp H C->JOk P l (gF F H C) C J->R J C) g (λσ H Q=>∃x v,pc x=!v/\∃H0 F,Vs H0 (T x) σ F H/\∀H',Kp H H'->Q v H') (λσ H Q=>∃x v,pm x=!v/\tE (T x) (rV K eb) v σ H Q) σ H Q:=by
 let#[H0,F,hv0,q]:=h;refine#[H0,F,hv0,λJ C kp yK p hp=>?_];unfold Bu at h2;split at h2
 rotate_left
 ·cases h2
 rename_i hlen;let#[G0,hv0]:=hv0;let g1:=hv0.grow kp
 let p0:Not (gF F H C p):=λz=>by let#[o,e]:=g1.fh p z;ext
 let pg:∀i,Not (G0 i p):=λi z=>by let#[o,e]:=(g1.gn i p z).2;lia
 let h0p:H p=none:=by
  cases e:H p with
  | none=>rfl
  | some o=>rw[kp p o e]at hp;cases hp
 let st:=(g1.pre (k:=n) (pre:=Bj n none) ∅).upd (u:=.lst []) p0 (λi z=>pg _ z.2) (λE z=>by ext) (λob z y=>by ext)
 refine#[λi m X H' E=>m=-l - i/\i<=-l/\∃(pre:L2.St) (F':AL->Prop) (G:Nat->AL->Prop) (w j:¬β),X=pre++σ/\-pre=n/\VR H0 (Bj n .u++A) (pre++σ) F' G H'/\(∀i,Not (G i p))/\Fe (gF F H C) C F' H'/\Kp C H'/\Not (F' p)/\H' p=!.lst E /\
  A7 K [] H' (w.map eb) E/\-w<=i/\L8 pc pm (l.drop i)=!j/\w++j=out,#[_,rfl,Bc _,_,_,_,[],out,rfl,by simp,st.1,λi z=>pg _ z.2,st.2,BH hp,p0,Ap,.nil,AM _,by ext,rfl],?_]
 rintro i m X H' E ⟨rfl,hle,pre,F',G,w,j,rfl,hk,hv,ng,fe,kq,np,I,rd,hal,B,ve⟩;refine#[I,?_];let#[j1,j2]:=yK F' H' fe i
 cases hl:l[i]? with
 | none=>
  let hn:=B6.mp hl;rw[KM hn]at B;cases B;rw[BP]at ve;subst ve;exact .inl #[j1 hl,q _ _ (kp.trans kq) #[p,rfl,h0p,E,I,rd]]
 | some v=>
  let#[my,tQ]:=AI.mp hl;let#[j3,j4]:=j2 v hl;rw[DG my,tQ]at B;unfold L8 at B;let#[b,hb,B]:=AS B;refine .inr #[j3,by rw[<-rd.length,AD];exact Ld ∅,λx Y hy=>?_];let#[O,r2]:=j4 x Y hy
  let gn:∀{F:AL->Prop} {H H':Hp},Not (F p)->H p=!.lst E->Not (gF F H H' p):=λ{F H H'} a b z=>z.elim a λy=>by ext
  let e2:=O _ _ I
  refine ht H0 pre σ _ _ Y v x _ hk (hv.grow O) r2 λuB tT L=>#[v,b,hb,H0,_,#[G,L],λH3 N=>?_]
  let n3:=gn (H':=H3) (gn (H':=Y) np I) e2;let e3:=N _ _ e2;let f3:=(fe.trans (O.fe)).trans (N.fe);let Z:=rd.keep (λa M z=>N a _ (O a _ z)) (λa M M z=>N a _ (O a _ z))
  cases b with
  | false=>exact#[_,by grind,rfl,my,uB,_,G,w,j,rfl,tT,(hT v).vr (L.grow N),ng,f3,kq.trans (O.trans N),n3,e3,Z,by lia,B,ve]
  | true=>
   let#[y,hy',B]:=AS B;let#[ys,hys,e]:=AS B;cases e;refine#[v,y,hy',H0,_,#[G,L.grow N],λz U S r4=>#[S _ _ e3,_,by omega,rfl,my,uB,gF (gF (gF F' H' Y) Y H3) H3 U,G,w++[y],ys,rfl,tT,?_]];let e4:=S _ _ e3;let n4:=gn (H':=U) n3 e3
   let kt:∀b uZ,U b=!.tup uZ->L2.upd U p (.lst (E++[z])) b=!.tup uZ:=λb uZ q=>by rw[AQ (λc=>by ext)];exact q
   let kf:∀b ob u,U b=!.frz ob u->L2.upd U p (.lst (E++[z])) b=!.frz ob u:=λb ob u q=>by rw[AQ (λc=>by ext)];exact q
   let up:=((hT v).vr ((L.grow N).grow S)).upd (u:=.lst (E++[z])) n4 ng (λuZ q=>by ext) (λob u q=>by ext);refine#[up.1,ng,(f3.trans S.fe).trans up.2,λb o e=>?_,n4,Ap,?_,by simp;omega,hys,by simp[<-ve]]
   ·rw[AQ (λc=>by lia)]
    exact S _ _ (N _ _ (O _ _ (kq b o e)))
   ·rw[Bv]
    exact((Z.keep (λa M q=>S a _ q) (λa M M q=>S a _ q)).keep kt kf).append (.cons (r4.keep kt kf) .nil)
theorem O9{X:Cx}{B G iter:Expr}{E:¬Expr}{scope:LW}{pos:Pos}{own N':¬Str}{P:α->Hp->V->Prop}{eb:β->D}{g:TG}{T:α->¬Sl}{pl:⇑(¬α)}{pc:α->⇑Bool}{N:α->⇑β}
  (O:K8 X scope own N') (hi:VI X A G iter P pl) (R:∀o C j m w pn,PG (DD X scope N' o C j m w pn) G g) (S:VP g P (-own) A T) (U:∀v,Ws (T v) (Bj (-own) .u++A))
  (Y:∀x o C j m w pn,VIf (DD X scope N' o C j m w pn) (T x) E (pc x)) (Z:∀x o C j m w pn,VE (DD X scope N' o C j m w pn) (T x) B (rV X.K eb) (N x))
  (tL:↑X.calm) (hs:autoParam (∀x,B8 iter X.env x=pure x) yq2q):VE X A (.ListComp B [#[G,iter,E,0]] scope pos) (rN X.K (oL eb)) (pl*>λl=>Bu l pc N):=λout hv=>by
 let#[l,h1,h2]:=AS hv
 exact(ie tL O (hi l h1) R (by rintro o C s H w pn J L σ H' Q I ⟨x,v,e,q⟩;exact Y x o C s H w pn v e J L σ H' Q I q) (by rintro o C s H w pn J L σ H' Q I ⟨x,v,e,q⟩;exact Z x o C s H w pn v e J L σ H' Q I q) hs).imp λσ H Q h=>YW S U h2 h
theorem Xl{X:Cx}{B G iter:Expr}{E:¬Expr}{scope:LW}{pos R S:Pos}{y:Str}{i:Nat}{own N':¬Str}{P:α->Hp->V->Prop}{eb:β->D}{g:TG}{T:α->¬Sl}{pl:⇑(¬α)}{pc:α->⇑Bool}{U:α->⇑β}
  (Y:K8 X scope own N') (hi:VI X A G iter P pl) (Z:∀o C j m w pn,PG (DD X scope N' o C j m w pn) G g) (ht:VP g P (-own) A T) (hT:∀v,Ws (T v) (Bj (-own) .u++A))
  (hc:∀x o C j m w pn,VIf (DD X scope N' o C j m w pn) (T x) E (pc x)) (he:∀x o C j m w pn,VE (DD X scope N' o C j m w pn) (T x) B (rV X.K eb) (U x))
  (tL:↑X.calm) (hs:autoParam (∀x,B8 iter X.env x=pure x) yq2q) (hN:autoParam X.N.Nodup yq5q) (hy:↑(X.N[i]?=!y)) (hx:autoParam (Loc X.env.scope y) yq4q) (J:↑(BX (.ListComp B [#[G,iter,E,0]] scope pos) (!.Name y R) S.line X.env=pure true)) (hf:autoParam (X.fn y=true∨X.env.scope.names.lookup y=!.local) yq3q):VEA X A i (.Assign [.Name y R] (.ListComp B [#[G,iter,E,0]] scope pos) S) (rN X.K (oL eb)) (pl*>λl=>Bu l pc U):=λout hv=>by
 let#[l,h1,h2]:=AS hv
 exact(X3 tL J hN hy hx Y (hi l h1) Z (by rintro o C s H w pn L O σ H' Q I ⟨x,v,e,q⟩;exact hc x o C s H w pn v e L O σ H' Q I q) (by rintro o C s H w pn L O σ H' Q I ⟨x,v,e,q⟩;exact he x o C s H w pn v e L O σ H' Q I q) hs hf).imp λD σ H h=>YW ht hT h2 h
end
end L7
namespace L4
open L2
section
variable{ρ σ:Type}
noncomputable def whF(c:σ->⇑Bool)(q:σ->⇑(Fw ρ σ)):Nat->σ->⇑(Fw ρ σ)
 | 0,_=>none
 | n+1,s=>c s*>λt=>if t=true then match q s with
   | some (.nx j)=>whF c q n j
   | some (.ct j)=>whF c q n j
   | some (.bk j)=>!.nx j
   | some (.rt r)=>!.rt r
   | none=>none
  else !.nx s
end
end L4
namespace L7
open L2
open L4 (Fw AS Bx BQ whF)
section
variable{X:Cx}{A:¬Sl}{e o:Expr}{es:¬Expr}{pos:Pos}{α γ:Type}
theorem Lu:VE X A (.Constant (.bool b) j pos) (rV X.K D.bl) (!b):=λG l=>rA.imp λm H Q #[w,F,B,q]=>by cases l;exact q _ H .refl (.bl _)
theorem Sv:VE X A (.Constant (.str x) j pos) (rV X.K D.str) (!x):=λG l=>mU.imp λm H Q #[w,F,B,q]=>by cases l;exact q _ H .refl (.str _)
theorem ay(h:↑(enc v=.non)):VE X A (.Constant .none j pos) (rV X.K enc) (!v):=λG l=>mY.imp λm H Q #[w,F,B,q]=>by cases l;exact q _ H .refl (show RD X.K H (enc v) .non by rw[h];exact .non)
theorem UW(j:X.mg x=!.int i l)(m:↑(Gl X x))(w:↥((x==("__debug__" : Str))=false)):VE X A (.Name x pos) (XP X) (!i):=λI B=>(ic (v:=.int i) m j #[l,rfl] w).imp λC H Q #[E,F,G,q]=>by cases B;exact q _ H .refl (.int _)
def rP(P:α->Hp->V->Prop):Rk α:=λv G x H=>∀j,Kp H j->P v j x
theorem Jk(h:PE X e (DI i))(hi:↑(A[i]?=!(.q λG H y=>P v H y))):VE X A e (rP P) (!v):=λG j=>h.imp (by
 rintro C H Q ⟨E,F,l,q⟩;cases j;let#[y,m,w]:=l.at hi
 exact#[y,m,q y H .refl λB k=>w B k.fr])
theorem gI(h:VE X A e S q)(hs:↑(BX e none pos.line X.env=pure false)):VS X A (.Expr e pos) R (q*>λG=>!.nx ()) (λG=>A):=λf j=>by
 let#[v,l,m]:=AS j;cases m;exact(PM (h v l) hs).imp (by rintro D w H ⟨B,F,hs,k⟩;exact#[B,F,hs,λx C kp G=>k w _ C (hs.grow kp) kp.fe])
theorem Pm(n:Nat)(w0:Wk A (B s0))(hc:∀s,VB X (B s) c (pc s))(hb:∀s,VSs X (B s) l R (q s) B)(hx:↑(X.xe=λM M=>False)):VS X A (.While c l [] pos) R (whF pc q n s0) B:=λf hf=>by
 let tP:PT X c (λj H Q=>∃s v,pc s=!v/\∃C F,Vs C (B s) j F H/\∀L,Kp H L->Q v L):=by rintro U s j H Q I ⟨w,v,e,h⟩;exact hc w v e U s j H Q I h
 let Y:PSs X l (λD j H=>∃s E,q s=!E/\tV (B s) R B E D j H):=by rintro U s j H D I ⟨w,E,e,h⟩;exact hb w E e U s j H D I h
 refine(cD (good_none hx).own tP Y).imp ?_;rintro D j H ⟨C,F,hs,k⟩;let#[F1,h1,e1]:=w0 C j F H hs;refine#[λm G L=>∃T s,Vs C (B s) G T L/\Fe F H T L/\whF pc q m s=!f,#[n,F1,s0,h1,e1,hf],?_];rintro m G L ⟨T,s,Z,fe,hw⟩
 cases m with
 | zero=>cases hw
 | succ m=>
  unfold L4.whF at hw;let#[t,ht,hw]:=AS hw;refine#[s,t,ht,C,T,Z,λH1 kp=>?_]
  cases t with
  | false=>cases hw;exact k G _ H1 (Z.grow kp) (fe.trans kp.fe)
  | true=>
   refine#[λN H2=>∃F2 s2,Vs C (B s2) N F2 H2/\Fe F H F2 H2/\whF pc q m s2=!f,λN H2 z=>#[m,FZ m,z],?_];rw[qX rfl]at hw
   cases hq:q s with
   | none=>ext
   | some E=>
    rw[hq]at hw;refine#[s,E,hq,C,_,Z.grow kp,?_];let xk:=fe.trans (kp.fe)
    cases E with
    | nx w=>exact λJ O H4 P S=>#[O,w,P,xk.trans S,hw]
    | ct w=>exact λJ O H4 P S=>#[O,w,P,xk.trans S,hw]
    | bk w=>cases hw;exact λJ O H4 P S=>k J O H4 P (xk.trans S)
    | rt r=>cases hw;exact k
theorem Jl{C:AL}{f:Str}{ob:α->Ob}{q:⇑α}{ec:γ->D}{g:α->γ}(l:Cls X.K C)(m:Cy X.K C f)(h:VE X A e (rO X.K ob) q)(w:∀v,∃fs,ob v=.ins C fs/\fs.lookup f=!ec (g v))(hb:↑(Bd e f X.env (A2 e X.env)=A2 e X.env)) :
  VE X A (.Attribute e f pos) (rV X.K ec) (q*>λv=>!g v):=λz B=>by
 let#[v,E,G]:=AS B;cases G;let#[fs,I,J]:=w v
 refine(Jm (h v E) hb).imp λσ H Q #[L,F,N,k]=>#[L,F,N,?_];rintro x O kp ⟨a,P,j⟩
 rw[I]at j;let#[R,S,T,U]:=j;let#[y,Y,Z]:=KVR.lookup f U J;exact#[a,C,R,S,y,P,T,l,m,Y,k y O kp Z]
theorem gX{C:AL}{f:Str}{P:α->Hp->V->Prop}{q:⇑α}{R:Rk γ}{g:α->γ}(w:Cls X.K C)(B:Cy X.K C f)(h:VE X A e (rP P) q)(E:∀v H x,P v H x->∃a j fs y,x=.ref a/\H a=!.ins C j fs/\fs.lookup f=!y/\∀m,Kp m H->R (g v) m y H)(hb:↑(Bd e f X.env (A2 e X.env)=A2 e X.env)) :
  VE X A (.Attribute e f pos) R (q*>λv=>!g v):=λz G=>by
 let#[v,I,J]:=AS G;cases J
 refine(Jm (h v I) hb).imp λY H Q #[L,F,N,k]=>#[L,F,N,λx l kp r=>?_]
 let#[a,j,fs,y,O,S,T,U]:=E v l x (r l .refl);exact#[a,C,j,fs,y,O,S,w,B,T,k y l kp (U H kp)]
theorem WA(J:Cls X.K C)(L:Cy X.K C f)(N:PE X o (DI i))(h:VE X A e (rV X.K enc) q)(hi:↑(A[i]?=!.g (pa X.K Z (.ins C fs))))(hl:↥(-fs < 1000))(hs:↑(BX e (!.Attribute o f j) pos.line X.env=pure false)) :
  VS X A (.Assign [.Attribute o f j] e pos) R (q*>λv=>!.nx v) (λv=>A.set i (.g (pa X.K Z (.ins C (cA f (enc v) fs))))):=λg O=>by
 let#[v,P,Q]:=AS O;cases Q
 refine(cF N (h v P) hs).imp λD σ H #[S,F,hs,k]=>#[S,F,hs,λy l kp r=>?_]
 let#[a,T,U,_,Y]:=(hs.grow kp).put hi;let#[m,B,g3,E]:=U;refine#[_,T,a,C,m,B,rfl,g3,J,L,by rw[<-C5 E];exact hl,?_]
 let G:∀b w,l b=!.tup w->L2.upd l a (.ins C m (putF f y B)) b=!.tup w:=λb w z=>by rw[AQ (λc=>by ext)];exact z
 let I:∀b ob u,l b=!.frz ob u->L2.upd l a (.ins C m (putF f y B)) b=!.frz ob u:=λb ob u z=>by rw[AQ (λc=>by ext)];exact z
 let:=Y (o':=.ins C (cA f (enc v) fs)) rfl #[m,_,Ap,KVR.putF f (r.keep G I) (Ez.mapP E λM M z=>#[z.1,z.2.keep G I])] (λw z=>by ext) (λob z q=>by ext);exact k _ _ _ this.1 (kp.fe.trans this.2)
def Ec(H:Hp)(x:AL):Hp:=λa=>if a=x then none else H a
theorem Fl(h:a≠x):Ec H x a=H a:=qY h
theorem MR:Ec H x x=none:=qX rfl
theorem HF{H}{x a}{o}(h:Ec H x a=!o):a≠x/\H a=!o:=by
 by_cases c:a=x
 ·rw[c,MR]at h;cases h
 ·exact#[c,by rwa [Fl c]at h]
def spI(K:AB)(C:AL)(m:¬(Hp->V->Prop))(ob:α->Ob)(q:⇑α):Sp:=λvs H Q E=>∃x w j v,vs=.ref x :: j/\H x=!.ins C w []/\q=!v/\eQ m (Ec H x) j/\∀l,Kp (Ec H x) l->OB K l x (ob v)->Q .non l
def Oo(q:⇑(Fw Unit α)):⇑α:=match q with
 | some (.nx v)=>!v
 | _=>none
abbrev _root_.Czq(P:Ao)(w:A3)(K:AB)(mg:Str->⇑AE)(base:BG):=Ca P w K mg base (CXG P w)
theorem fnI{P:Ao}{w:A3}{K:AB}{mg:Str->⇑AE}{base:BG}{x G:Str}{st:B5}{f:AL}{fd:EA}{N Z:¬Str}{k:Nat}{C:AL}{U:¬(Hp->V->Prop)}{R:Rk Unit}{q:⇑(Fw Unit α)}{ob:α->Ob}{B:AL->α->¬Sl}(F:Fun K x G st f fd)(Sc:Hk N Z (By st))(hn:-U+1=-Z)(hB:∀z v,(B z v)[0]?=!sx K z (ob v))
  (tK:∀(z:AL) (S:AE) (A:BR) (m:¬Env) (s:AK) (H:Hp) (E:XK),FK k (A.deeper (HN G (By st) s.heap.objs.size f S))->(A.deeper (HN G (By st) s.heap.objs.size f S)).units+64 < Bf->N.Nodup ->
   VSs (Qm (CXG P w) P w K mg base N G (By st) f S A m s H E).q (sx K z (.ins C []) :: asl U (-N - 1)) (FI st) R q (B z)):Czq P w K mg base (k+1) f fd Z (spI K C U ob (Oo q)):=by
 let#[oc,od,kV,doc,pm,an,S,ct,uz,rfl,lk,tR]:=F.ex;refine SJ lk tR Sc (by rintro vs H Q E ⟨x,dx,args,v,e,_,_,h,_⟩;rw[<-hn,e,Au,h.1]) ?_;rintro A m s H vs Q E hr ⟨x,dx,args,v,e,hx,Y,h2,h3⟩;subst e
 let hq:q=!.nx v:=by
  unfold Oo at Y;split at Y
  ·cases Y;rfl
  ·cases Y
 let hb:=tK x S A m s H E hr hr.units Sc.nd _ hq
 let hl:1<=-N:=by
  let:=congrArg Dp Sc.pre;rw[Cc]at this;lia
 let#[_,g]:=Vs.start h2
 let fe:∀a o,Ec H x a=!o->H a=!o:=λa o z=>(HF z).2
 let e0:L2.start N (.ref x :: args)=(!.ref x) :: L2.start N.tail args:=by
  unfold L2.start;rw[J2,Au,show -N - (-args+1)=-N - 1 - -args by lia];rfl
 let hv:Vs (Ec H x) (sx K x (.ins C []) :: asl U (-N - 1)) (L2.start N (.ref x :: args)) (λa=>∃o,Ec H x a=!o) H:=by
  refine#[λi a=>i=0/\a=x,fe,λa o z=>#[o,z],by rintro a ⟨o,z⟩;exact#[o,fe a o z],λi s T=>?_,λi a #[_,z]=>?_,λi j a z1 z2=>z1.1.trans z2.1.symm]
  ·rw[e0]
   cases i with
   | zero=>
    cases T;exact#[_,rfl,.ref x,rfl,λO f z=>#[x,rfl,funext λa=>propext #[λq=>q.2,λq=>#[rfl,q]],#[dx,[],by ext,.nil],rfl]]
   | succ i=>
    rw[<-J2]at T;let#[y,q1,q2]:=g.sl i s T;refine#[y,q1,?_]
    cases s with
    | u=>trivial
    | q P=>let#[y,r1,r2]:=q2;exact#[y,r1,λO f=>r2 O #[λa xs z=>f.tup a xs (fe _ _ z),λa o u z=>f.frz a o u (fe _ _ z),λa o M z=>f.fix a o #[o,z] (fe _ _ z)]]
    | g P=>
     unfold asl at T
     rcases Aj.mp (Az T)with q | q
     ·let#[_,_,q]:=Ay.mp q;cases q
     ext
  ·subst z
   exact#[by rintro⟨o,q⟩;exact(by rw[MR]at q;cases q),_,hx]
 refine#[_,λζ s' σ O D I q=>Da (hb ζ s' σ O D (I.with _) q) (λfl s1 z=>?_) λe s1 z=>z.elim,Ec H x,_,hv,λl F' O v' e'=>?_]
 ·cases fl with
  | next=>let#[l,L,J,z]:=z;exact#[l,L,J.without,z]
  | brk=>let#[l,L,J,z]:=z;exact#[l,L,J.without,z]
  | cont=>let#[l,L,J,z]:=z;exact#[l,L,J.without,z]
  | ret u=>let#[v,l,L,J,r,z]:=z;exact#[v,l,L,J.without,r,z]
 ·let#[a,g1,g2,g3,_]:=v'.put (hB x v)
  subst g3;exact h3 O v'.kp g2
theorem gV(M:Mk X.K C f)(F:∀z,Ca X.prog X.w X.K X.mg X.base (CXG X.prog X.w) k f fd L (spI X.K C (N z) ob (g z)))(hb:Binds X.K fd L [])(O:X.mg x=!.ref C)(R:FK (k'+1) X.A)(S:VA X A (e :: es) q N)
  (hk:↥(k<=k')) (T:↑(X.xe=λ_ _=>False)) (U:↑(Gl X x)) (j:↥((x==("__debug__" : Str))=false)) (Y:↑(zSp X e es)) (l:↑((Cv pos (AG es X.env)).any (·.1)=false)) :
  VE X A (.Call (.Name x pc) (e :: es) [] pos) (rN X.K ob) (q.bind g):=λv Z=>by
 let#[z,h1,h2]:=AS Z
 refine(X6 M (F z) (R.mono (by ext)) U O hb .nil (good_none T).pass (S z h1) j Y l).imp λσ H Q #[H0,F,hs,kq]=>#[H0,F,hs,λxs E kp r y dx G hdx tq=>?_]
 rw[BP]
 let I:Kp E (Ec (L2.upd (L2.upd E dx (.own y)) y (.ins C dx [])) y):=λa o e=>by
  let J:a≠y:=λc=>by lia
  let n2:a≠dx:=λc=>by lia
  rw[Fl J,AQ J,AQ n2];exact e
 refine#[y,dx,xs,v,rfl,Ap,h2,#[r.1,λi P u e1 e2 m B=>r.2 i P u e1 e2 m (I.trans B)],λm B ho=>#[rfl,kq _ m (kp.trans (I.trans B)) #[y,rfl,?_,ho]]]
 cases e0:H y with
 | none=>rfl
 | some o=>rw[kp y o e0]at G;cases G
end
end L7
namespace PySem.SetTable
def Up(xs:Array Nat):Prop:=xs.toList.Pairwise (· < ·)
theorem Up.lt(u:Up xs)(h:i < k)(j:k < xs.size):xs[i] < xs[k]:=by
 let:=JA.mp u i k (by rw[Ad];omega) (by rw[Ad];exact j) h;ext
structure At(xs:Array Nat)(j r:Nat):Prop where
 le:r<=xs.size
 lo:∀i (h:i < xs.size),i < r->xs[i] < j
 hi:∀i (h:i < xs.size),r<=i->j<=xs[i]
theorem At.eq(a:At xs j r)(b:At xs j r'):r=r':=by
 rcases eX r r' with h | h | h
 ·let l:=Ab h b.le
  let m:=b.lo r l h;let o:=a.hi r l (AM _);lia
 ·exact h
 ·let l:=Ab h a.le
  let m:=a.lo r' l h;let o:=b.hi r' l (AM _);lia
theorem Qu(u:Up xs)(j:Nat):∀(fuel lo hi:Nat),lo<=hi->hi<=xs.size->hi - lo<=fuel ->
  (∀i (h:i < xs.size),i < lo->xs[i] < j)->(∀i (h:i < xs.size),hi<=i->j<=xs[i])->At xs j (FU.go xs j fuel lo hi)
 | 0,lo,hi,E,m,G,o,w=>by
  let:lo=hi:=by grind
  subst this;exact#[m,o,w]
 | fuel+1,lo,hi,E,m,G,o,w=>by
  unfold FU.go
  by_cases h:lo < hi
  ·rw[qX h]
   let B:(lo+hi) / 2 < xs.size:=by lia
   let e:xs.getD ((lo+hi) / 2) j=xs[(lo+hi) / 2]:=by simp[RQ,B]
   simp only[e]
   by_cases A:xs[(lo+hi) / 2] < j
   ·rw[qX A]
    refine Qu u j fuel _ _ ∅ m (by grind) (λi l H=>?_) w
    by_cases C:i=(lo+hi) / 2
    ·ext
    ·exact Ol (u.lt (by lia:i < (lo+hi) / 2) B) A
   ·rw[qY A]
    refine Qu u j fuel _ _ ∅ ∅ (by grind) o λi l H=>?_
    by_cases C:i=(lo+hi) / 2
    ·subst C;ext
    ·let:=u.lt (by lia:(lo+hi) / 2 < i) l;lia
  ·rw[qY h]
   let:lo=hi:=by lia
   subst this;exact#[m,o,w]
theorem K4(u:Up xs)(j:Nat):At xs j (FU xs j):=
 Qu u j _ _ _ (Bc _) (AM _) (by ext) (λG G h=>zX h (by ext)) λi h l=>zX h ∅
theorem W8(u:Up xs):FU xs 0=0:=(K4 u 0).eq #[Bc _,λG G h=>zX h (by ext),λG G G=>Bc _]
theorem W9(u:Up xs)(h:i < xs.size):FU xs (xs[i]+1)=i+1:=
 (K4 u _).eq #[h,λk j l=>by
  by_cases e:k=i
  ·subst e;ext
  ·let:=u.lt (by lia:k < i) h;lia,λk j l=>u.lt (by lia:i < k) j]
theorem Yz(u:Up xs)(h:xs[FU xs j]?≠!j):Up (insertAt xs (FU xs j) j):=by
 let a:=K4 u j;unfold Up;rw[toList_insertAt,A6,GE];refine#[pV u,#[λy o=>?_,pW u],λx B y o=>?_]
 ·let#[k,l,e]:=FO.mp o
  let m:FU xs j+k < xs.size:=by simp at l;grind
  let A:xs[FU xs j+k]=y:=by simpa using e
  let C:=a.hi _ m (by ext)
  by_cases E:k=0
  ·subst E
   grind
  ·let hb:FU xs j < xs.size:=by lia
   let H:=a.hi _ hb (AM _);let I:=u.lt (by lia:FU xs j < FU xs j+k) m
   grind
 ·let G:x < j:=by
   let#[k,l,e]:=FO.mp B
   let m:k < xs.size:=by simp at l;grind
   let w:k < FU xs j:=by simp at l;grind
   let A:xs[k]=x:=by simpa using e
   let:=a.lo k m w
   ext
  rcases Ak.mp o with e | o
  ·ext
  ·let#[k,l,e]:=FO.mp o
   let m:FU xs j+k < xs.size:=by simp at l;grind
   let A:xs[FU xs j+k]=y:=by simpa using e
   let C:=a.hi _ m ∅
   lia
end PySem.SetTable
namespace PySem
open SetTable
theorem i8{mask finger moves}{led plain}{hs}{t}{o}(e:laid mask finger moves led plain hs=!(t,o)):Up t.place/\t.led=led:=by
 unfold laid at e
 cases j:layClean mask hs with
 | none=>rw[j]at e;cases e
 | some ow=>
  rw[j]at e;cases e;refine#[?_,rfl];unfold Up;simp only[Z7];refine ON _ (λa m h b hb w l=>?_) KJ;ext
theorem MQ{j:Type}:∀(l:¬j) (i:Nat) (h:i < -l),EV (l[i] :: l.eraseIdx i) l
 | [],i,h=>zX h (RJ _)
 | a :: l,0,_=>.rfl
 | a :: l,i+1,h=>(Yo _ _ _).trans ((MQ l i (Nat.lt_of_succ_lt_succ h)).cons a)
theorem X4{l:Type}(next:Nat->Nat):∀(fuel k:Nat) (left:¬l) (out:Array l),left.length=fuel->EV (RE next fuel k left out).toList (out.toList++left)
 | 0,k,left,out,h=>by
  let:left=[]:=DX h;subst this;simp[RE]
 | fuel+1,k,left,out,h=>by
  unfold RE;let j:next k % -left < -left:=Nf _ (by ext);rw[AJ j];refine(X4 next fuel (k+1) _ _ (by rw[Rn j];ext)).trans ?_;rw[Ge,Ba];refine GW _ ?_;exact MQ _ _ j
theorem ZF{j:Type}(next:Nat->Nat)(xs:Array j):EV (Zv next xs).toList xs.toList:=by
 let:=X4 next xs.size 0 xs.toList #[] ∅
 assumption
open PySem.Sem (wp)
open SetTable
theorem SC:Manifest.owners.lookup (String.ofList ['r','o','t','a','r','e','t','i','_','t','e','s'].reverse)=!Manifest.sig_set_iterator:=by kernel_rfl
theorem Cj:Slot "set_iterator" "__next__" "set_iterator.__next__" :=
 .of (owner:="set_iterator") (n:="__next__") (by rfl) (by rfl) (by rfl) (by rfl)
  (by first | exact .inl (by rfl) | exact .inr ∅) (by rfl)
theorem Lx:Slot "set_iterator" "__iter__" "set_iterator.__iter__" :=
 .of (owner:="set_iterator") (n:="__iter__") (by rfl) (by rfl) (by rfl) (by rfl)
  (by first | exact .inl (by rfl) | exact .inr ∅) (by rfl)
theorem GU:entryFor table "set_iterator.__next__" = !Builtin.«set_iterator.__next__»:=entryFor_of_tree (by kernel_rfl)
theorem Qi:entryFor table "set_iterator.__iter__" = !Builtin.«dict_keyiterator.__iter__»:=entryFor_alias (id':="dict_keyiterator.__iter__") (by kernel_rfl) rfl ∅ (by kernel_rfl)
theorem Qj:entryFor table "set.__iter__" = !Builtin.«frozenset.__iter__»:=entryFor_alias (id':="frozenset.__iter__") (by kernel_rfl) rfl ∅ (by kernel_rfl)
theorem G9(a:AE):argsOk "set_iterator.__next__" #[[a],[]]:=by
 unfold argsOk;rw[signature?_of (n:=['_','_','t','x','e','n','_','_']) (by kernel_rfl) SC];kernel_rfl
theorem Rf(a:AE):argsOk "set_iterator.__iter__" #[[a],[]]:=by
 unfold argsOk;rw[signature?_of (n:=['_','_','r','e','t','i','_','_']) (by kernel_rfl) SC];kernel_rfl
def OE(h:BG)(a:AL)(es:Array (Int×AE))(ep:Nat)(t:D8):Prop:=∃o,h.get? a=!o/\o.ExactSet/\o.data=.set es ep t/\t.fits es.size=true
def SIt(h:BG)(it:AL)(f:AE)(i:Nat)(a:AL)(n ep:Nat):Prop:=h.get? it=some { cls:=.type "set_iterator",dict:=none,data:=.fields [f,.int i 0,.ref a,.int n 0,.int ep 0].toArray,slots:=#[] }
theorem OE.at'(x:OE h a es ep t)(e:∀o,h.get? a=!o->h'.get? a=!o):OE h' a es ep t:=let #[o,j,r]:=x;#[o,e _ j,r]
section
variable{prog:Ao}{w:A3}{A:BR}{E:AE->AK->Prop}{s:AK}{a it:AL}{es:Array (Int×AE)}{ep i:Nat}{t:D8}
theorem SIt.ty(x:SIt s.heap it f i a n ep):s.TypeIs (.ref it) "set_iterator":=#[_,x,rfl]
def Nxt(prog:Ao)(w:A3)(a:AL)(es:Array (Int×AE))(ep:Nat)(t:D8)(j i:Nat)(r:⇑(AE×Nat)):Prop:=
 ∀(A:BR) (E:AE->AK->Prop) (s:AK) (Q:⇑(AE×Nat)->AK->Prop),OE s.heap a es ep t->Q r s->AW (AY prog w) A (setNext a j i ep) Q E s
theorem U0(hb:w.params.followText "set-order" = true):Nxt prog w a es ep t 0 i (((Zv (w.params.setOrder a ep) es)[i]?).map λe=>(e.2,0)):=by
 intro A E s Q B C;let#[o,j,hex,l,m]:=B;unfold setNext;refine AA (DF j l m ?_);unfold Vq;refine AA (AA (F5 (AC ?_)));rw[show(AY prog w).w.params.followText "set-order" = true from hb];simp only[if_true,bne_self_eq_false,BB,if_false];unfold setWalk Vq;refine AA ?_;refine AA (DF j l m ?_);refine AA (AA (F5 (AC ?_)));rw[show(AY prog w).w.params.followText "set-order" = true from hb];refine AA (F5 (AC ?_));exact AC C
theorem U1(hb:w.params.followText "set-order" = false) (hl:t.led) (l:t.plain=true∨es.size<=1) (m:Nat) :
  Nxt prog w a es ep t m i (match es[FU t.place m]?,t.place[FU t.place m]? with | some (_,x),!j=>!(x,j+1) | _,_=>none):=by
 intro A E s Q C G;let#[o,H,hex,I,J]:=C;unfold setNext;refine AA (DF H I J ?_);unfold Vq;refine AA (AA (F5 (AC ?_)));rw[show(AY prog w).w.params.followText "set-order" = false from hb]
 let B:(not t.plain&&decide (es.size > 1))=false:=by
  rcases l with l | l
  ·rw[l];rfl
  ·ext
 refine(show AW _ _ (if (not t.plain&&decide (es.size > 1)) then _ else _) _ _ s from ?_);rw[B];refine AA (show AW _ _ (if (not t.led&&not es.isEmpty) then _ else _) _ _ s from ?_);rw[hl];exact AC (AC G)
theorem be{l m:Nat}{x:AE}{Q:⇑AE->AK->Prop}(j:SIt s.heap it (.int l 0) i a es.size ep)(B:OE s.heap a es ep t)(C:Nxt prog w a es ep t l i (!(x,m)))
  (G:∀h',SIt h' it (.int m 0) (i+1) a es.size ep->DV it s.heap h'->Q (!x) { s with heap:=h' }):AW (AY prog w) A (GG (.ref it)) Q E s:=by
 let#[o,H,hex,I,J]:=id B;unfold GG;refine AA (FL (BJ j.ty Cj (BI Cj j.ty GU ?_ (G9 _))));unfold Builtin.«set_iterator.__next__» Vp;refine AA (AC ?_);refine AA (Eh j rfl ?_);refine AA (GF H I J ?_);rw[qY (by ext)];refine AA (C _ _ _ _ B ?_);refine AA (Jc j ∅ λP L N=>?_);refine AA (Jc L ∅ λR S O=>?_);refine AC #[_,rfl,AC (G _ ?_ (N.trans O))]
 assumption
theorem iG{l:Nat}{Q:⇑AE->AK->Prop}(B:A.handled=none)(j:SIt s.heap it (.int l 0) i a es.size ep)(m:OE s.heap a es ep t)(C:Nxt prog w a es ep t l i none)
  (G:∀h',Lr it s.heap h'->Q none { s with heap:=h' }):AW (AY prog w) A (GG (.ref it)) Q E s:=by
 let#[o,H,hex,I,J]:=id m;unfold GG;refine AA (FL (BJ j.ty Cj (BI Cj j.ty GU ?_ (G9 _))));unfold Builtin.«set_iterator.__next__» Vp;refine AA (AC ?_);refine AA (Eh j rfl ?_);refine AA (GF H I J ?_);rw[qY (by ext)];refine AA (C _ _ _ _ m ?_);refine AA (HK j rfl ∅ (AA ?_));refine AA (A8 (AA (DA (by first | rfl | (simp only[Nb];rfl)) (A8 ?_ (by size_fits)))) (by size_fits));refine AA (Ox ?_);rw[show A.in1.handled=none from B];refine AA (AC (T0 ?_));refine AA (D0 #[_,AO _ rfl,rfl] Na (AC ?_));exact G _ (((B7 ..).extBut.push _).push _)
end
section
theorem RT(l:n≠0)(h:∀d',Q (M.w.draws j (s.drawn.get j) % n) { s with drawn:=d' }):AW M A (choose j n) Q E s:=λG G G=>#[l,h _]
theorem SO{o:Type}:∀(n:Nat) (xs:¬o) (s:AK) (Q:¬o->AK->Prop),xs.length=n->(∀m d',EV m xs->Q m { s with drawn:=d' })->AW (AY prog w) A (pN n xs) Q E s
 | 0,xs,s,Q,j,h=>by
  let:xs=[]:=DX j;subst this;unfold pN;exact AC (h [] s.drawn .nil)
 | n+1,[],s,Q,j,h=>by cases j
 | n+1,x :: xs,s,Q,j,h=>by
  unfold pN;refine AA (RT (by simp) λd1=>?_);let l:(AY prog w).w.draws NW (s.drawn.get NW) % -(x :: xs) < -(x :: xs):=Nf _ (by simp);generalize (AY prog w).w.draws NW (s.drawn.get NW) % -(x :: xs)=i at l;rw[AJ l];refine AA (SO n _ _ _ (by rw[Rn l];ext) λm d' B=>?_);exact AC (h _ d' ((B.cons _).trans (MQ _ _ l)))
def TP(h:BG)(T:AL)(j:¬Nat):Prop:=∃o c,h.get? T=!o/\o.data=.seq (j.map λ(i:Nat)=>GC i 0).toArray c
theorem TP.at'(x:TP h T ps)(e:∀o,h.get? T=!o->h'.get? T=!o):TP h' T ps:=let #[o,c,j,r]:=x;#[o,c,e _ j,r]
theorem Y7(j:SIt s.heap it (.ref T) i a es.size ep)(G:OE s.heap a es ep t)(H:TP s.heap T l)(I:l[i]?=!p)(J:es[p]?=!e)
  (L:∀h',SIt h' it (.ref T) (i+1) a es.size ep->DV it s.heap h'->Q (!e.2) { s with heap:=h' }):AW (AY prog w) A (GG (.ref it)) Q E s:=by
 let#[o,m,hex,B,C]:=id G;let#[S,c,N,O]:=H;unfold GG;refine AA (FL (BJ j.ty Cj (BI Cj j.ty GU ?_ (G9 _))));unfold Builtin.«set_iterator.__next__» Vp;refine AA (AC ?_);refine AA (Eh j rfl ?_);refine AA (GF m B C ?_);rw[qY ∅];refine AA (Eg N O ?_);symm
 let P:(l.map λ(i:Nat)=>GC i 0).toArray[(Int.toNat (i:Int))]?=!.int p 0:=by
  rw[Ax];simp[I]
 rw[P];unfold setNextDrawn;refine AA (AA (DF m B C ?_));symm;rw[qY (by ext),Ax,J];refine AC ?_;refine AA (Jc j ∅ λU X R=>?_);refine AC #[_,rfl,AC (L _ ?_ R)]
 assumption
theorem bf(B:A.handled=none)(j:SIt s.heap it (.ref T) i a es.size ep)(C:OE s.heap a es ep t)(G:TP s.heap T l)(m:l[i]?=none)
  (H:∀h',Lr it s.heap h'->Q none { s with heap:=h' }):AW (AY prog w) A (GG (.ref it)) Q E s:=by
 let#[o,I,hex,J,L]:=id C;let#[U,c,N,O]:=G;unfold GG;refine AA (FL (BJ j.ty Cj (BI Cj j.ty GU ?_ (G9 _))));unfold Builtin.«set_iterator.__next__» Vp;refine AA (AC ?_);refine AA (Eh j rfl ?_);refine AA (GF I J L ?_);rw[qY (by ext)];refine AA (Eg N O ?_);symm
 let P:(l.map λ(i:Nat)=>GC i 0).toArray[(Int.toNat (i:Int))]?=none:=by
  rw[Ax];simp at m ⊢;exact m
 rw[P];refine AA (Jc j ∅ λX R S=>?_);refine AA (HK R rfl ∅ (AA ?_));refine AA (A8 (AA (DA (by first | rfl | (simp only[Nb];rfl)) (A8 ?_ (by size_fits)))) (by size_fits));refine AA (Ox ?_);rw[show A.in1.handled=none from B];refine AA (AC (T0 ?_));refine AA (D0 #[_,AO _ rfl,rfl] Na (AC ?_));exact H _ (((S.trans (B7 ..)).extBut.push _).push _)
theorem Uh(j:SIt s.heap it f i a n ep)(h:Q (.ref it) s):AW (AY prog w) A (Pb (.ref it)) Q E s:=by
 refine Q9 j.ty Lx (BI Lx j.ty Qi ?_ (Rf _));exact AC #[_,rfl, "set_iterator",_,j.ty,Cj.lookup,h]
theorem UO(H:A.handled=none)(I:a≠it)(m:Nat->Nat)(ord:¬AE)(G:-ord=es.size)
  (J:∀i x,ord[i]?=!x->Nxt prog w a es ep t (m i) i (!(x,m (i+1)))) (L:Nxt prog w a es ep t (m es.size) es.size none) :
  Walks prog w A it [it,a] [it] es.size (λi v=>ord[i]?=!v) (λi h=>SIt h it (.int (m i) 0) i a es.size ep/\OE h a es ep t) where
 sub:=λx B=>by grind
 frame:=λM M M st keep=>#[keep it ∅ _ st.1,st.2.at' λo e=>keep a ∅ o e]
 item:=λi s Q E P st j=>by
  let B:ord[i]?=!ord[i]:=AJ (by omega)
  exact be st.1 st.2 (J i _ B) λC N l=>j _ C s.toks B #[N,st.2.at' λo e=>l.extBut a o I e] λb o hb e=>l.extBut b o (λh=>hb (by simp[h])) e
 done:=λs Q E st j=>iG H st.1 st.2 L λC O=>j C s.toks λb o hb e=>O b o (λh=>hb (by simp[h])) e
 self:=λM M M M st j=>Uh st.1 j
theorem Yr(I:A.handled=none)(J:a≠it)(L:T≠it)(j:¬Nat)(B:EV j (A0 es.size)) :
  Walks prog w A it [it,a,T] [it] es.size (λi v=>(j.filterMap λp=>(es[p]?).map (·.2))[i]?=!v) (λi h=>SIt h it (.ref T) i a es.size ep/\OE h a es ep t/\TP h T j) where
 sub:=λx hx=>by ext
 frame:=λM M M st keep=>#[keep it ∅ _ st.1,st.2.1.at' λo e=>keep a ∅ o e,st.2.2.at' λo e=>keep T ∅ o e]
 item:=λi s Q E hi st C=>by
  let N:-j=es.size:=by let:=B.length_eq;simpa using this
  let O:∀p∈j,p < es.size:=λp h=>by simpa using B.mem_iff.mp h
  let G:j[i]?=!j[i]'∅:=AJ ∅;let P:=O _ (CJ (by lia:i < -j));let R:=Bp P
  let S:∀(l:¬Nat),(∀p∈l,p < es.size)->(l.filterMap λp=>(es[p]?).map (·.2))=l.map λp=>(es.getD p (0,.none)).2:=λl=>by
   induction l with
   | nil=>intro _;rfl
   | cons p l U=>
    intro h;let B:=h p Aa;rw[List.filterMap_cons_some (b:=(es[p]).2) (by simp[B]),U λq X=>h q (AN _ X)];simp[RQ,B]
  refine Y7 st.1 st.2.1 st.2.2 G R λH Y m=>C _ H s.toks ?_ #[Y,st.2.1.at' λo e=>m.extBut a o J e,st.2.2.at' λo e=>m.extBut T o L e] λb o hb e=>m.extBut b o (λh=>hb (by simp[h])) e
  ext
 done:=λs Q E st C=>by
  let N:-j=es.size:=by let:=B.length_eq;simpa using this
  exact bf I st.1 st.2.1 st.2.2 (List.getElem?_eq_none (by ext)) λH Z=>C H s.toks λb o hb e=>Z b o (λh=>hb (by simp[h])) e
 self:=λM M M M st C=>Uh st.1 C
theorem Pl(j:OE s.heap a es ep t)(l:Q (not (w.params.followText "set-order")&&(not t.plain&&decide (es.size > 1))) s):AW (AY prog w) A (setDrawn a) Q E s:=by
 let#[o,m,hex,B,C]:=j;unfold setDrawn Vq;refine AA (DF m B C ?_);refine AA (AA (F5 (AC ?_)));exact AC l
def WU(t:D8):Nat->Nat
 | 0=>0
 | i+1=>t.place.getD i 0+1
theorem Qt(j:Up t.place):∀{i:Nat},i<=t.place.size->FU t.place (WU t i)=i
 | 0,_=>W8 j
 | i+1,h=>by
  let:t.place.getD i 0=t.place[i]'∅:=by simp[RQ,show i < t.place.size by lia]
  show FU t.place (t.place.getD i 0+1)=i+1;rw[this];exact W9 j _
theorem bi(N:A.handled=none)(C:OE s.heap a es ep t)(X:Up t.place)(hl:t.led=(not (w.params.followText "set-order"))) (hz:es.size<=sizeLine)
  (O:∀(h':BG) (d':_) (I:AL) (Y:¬AL) (St:Nat->BG->Prop) (ord:¬AE),EV ord (es.toList.map (·.2))->(∀b o,s.heap.get? b=!o->h'.get? b=!o) ->
   (∀b∈Y,b=a∨s.heap.objs.size<=b)->s.heap.objs.size<=I->Walks prog w A I Y [I] es.size (λi v=>ord[i]?=!v) St->St 0 h'->Q (.ref I) { s with heap:=h',drawn:=d' }) :
  AW (AY prog w) A (Pb (.ref a)) Q E s:=by
 let#[o,G,hex,P,l]:=id C;let Z:s.TypeIs (.ref a) "set":=#[o,G,hex.1];let R:=AX G
 let hps:t.place.size=es.size:=by
  unfold Q2 at l;simp at l;exact l.1
 refine Q9 Z pD (BI pD Z Qj ?_ (F.args_set_iter_1 _));unfold Builtin.«frozenset.__iter__» fP Vp fS fQ;refine AA (AC ?_);refine AA (AA (GF G P l (AC ?_)));refine AA (Pl C ?_)
 by_cases hb:(not (w.params.followText "set-order")&&(not t.plain&&decide (es.size > 1)))=true
 ·rw[qX hb]
  refine AA (SO es.size (A0 es.size) s _ ∅ λS d' m=>?_)
  let j:-S=es.size:=by let:=m.length_eq;simpa using this
  unfold newTuple;refine AA (A8 ?_ (show _<=sizeLine by ext));unfold setEpoch;refine AA (AA (DF (AF _ G) P l (AC ?_)));unfold newFields;refine AA (A8 (AC #[_,rfl, "set_iterator",_,#[_,AO _ rfl,rfl],Cj.lookup,?_]) (by size_fits));refine O _ d' _ _ _ (S.filterMap λp=>(es[p]?).map (·.2)) ?_ (λb o e=>AF _ (AF _ e)) ?_ ?_ (Yr N (a:=a) (T:=s.heap.objs.size) (t:=t) (ep:=ep) ?_ ?_ S m) #[?_,?_,?_]
  ·refine(m.filterMap _).trans ?_
   let:(A0 es.size).filterMap (λp=>(es[p]?).map (·.2))=es.toList.map (·.2):=by
    let e:=filterMap_getElem?_range es;rw[<-e,Z7]
   rw[this]
  ·simp
  ·ext
  ·rw[DC];exact Ar (EG R)
  ·ext
  ·exact AO _ rfl
  ·exact C.at' λo e=>AF _ (AF _ e)
  ·exact#[_,_,AF _ (AO _ rfl),rfl]
 ·rw[qY hb]
  refine AA (AC ?_);unfold setEpoch;refine AA (AA (DF G P l (AC ?_)));unfold newFields;refine AA (A8 (AC #[_,rfl, "set_iterator",_,#[_,AO _ rfl,rfl],Cj.lookup,?_]) (by size_fits))
  let Ω:∀b∈[s.heap.objs.size,a],b=a∨s.heap.objs.size<=b:=λb hb=>by
   grind
  cases B:w.params.followText "set-order" with
  | true=>
   let m:=ZF (w.params.setOrder a ep) es
   let U:(Zv (w.params.setOrder a ep) es).size=es.size:=by let:=m.length_eq;simpa using this
   refine O _ s.drawn _ _ _ ((Zv (w.params.setOrder a ep) es).toList.map (·.2)) (m.map _) (λb o e=>AF _ e) Ω (AM _)
    (UO N (Ar R) (λM=>0) _ (by simp[U]) (λi x H=>?_) ?_) #[AO _ rfl,C.at' λo e=>AF _ e]
   ·let:=U0 (prog:=prog) (a:=a) (es:=es) (ep:=ep) (i:=i) (t:=t) B
    rw[Ai,CM]at H
    grind
   ·let:=U0 (prog:=prog) (a:=a) (es:=es) (ep:=ep) (i:=es.size) (t:=t) B
    ext
  | false=>
   let J:t.led:=by rw[hl,B];rfl
   let j:t.plain=true∨es.size<=1:=by
    rw[B]at hb
    cases hh:t.plain with
    | true=>exact .inl rfl
    | false=>ext
   refine O _ s.drawn _ _ _ (es.toList.map (·.2)) .rfl (λb o e=>AF _ e) Ω (AM _)
    (UO N (Ar R) (WU t) _ ∅ (λi x H=>?_) ?_) #[AO _ rfl,C.at' λo e=>AF _ e]
   ·let:=U1 (prog:=prog) (a:=a) (ep:=ep) (i:=i) B J j (WU t i)
    rw[Ai,CM]at H
    let hi:i < es.size:=by
     rcases Gr i es.size with h | h
     ·exact h
     ·ext
    let L:FU t.place (WU t i)=i:=Qt X ∅;rw[L,Bp hi,Bp (by simp_all:i < t.place.size)]at this;rw[Bp hi]at H;cases H
    let e2:t.place.getD i 0=t.place[i]'∅:=by simp[RQ,show i < t.place.size by lia]
    show Nxt prog w a es ep t (WU t i) i (!(_,t.place.getD i 0+1));rw[e2];exact this
   ·let:=U1 (prog:=prog) (a:=a) (ep:=ep) (i:=es.size) B J j (WU t es.size)
    let L:FU t.place (WU t es.size)=es.size:=Qt X (by ext);ext
end
section
theorem Rb(a:AE) 
  (h:Q₁ (.ref s.heap.objs.size) { s with heap:=s.heap.push { cls:=.type "set",dict:=none,data:=.set #[] 0 (.fresh 0 0 (not (w.params.followText "set-order"))) } }) :
  HP (AY prog w) A (.call (.builtin "set.__new__") #[[.type "set",a],[]]) (wants Q₁ E) s:=by
 refine UH ?_;refine AA (DA (F.newCall_set_1 a) (AC #[IH pG _,FB F.entry_set_new ?_]));rw[D6 pG _];unfold Builtin.«set.__new__» fR;let j:=sub_set_self;let#[l,g,d,m,os]:=s
 wp_walk
 refine F5 (AC ?_);refine AA (wpAny_alloc (AC ?_));exact AC h
end
section
theorem dQ(l:s.TypeIs (.ref a) "set") (h:Q false s):AW (AY prog w) A (Mo (.ref a)) Q E s:=by
 unfold Mo;refine AA (EO l PySem.F.slot_set_len.lookup ?_);generalize j:("set.__len__" : String)=id0
 wp_delta
 rw[show splitId id0=!("set", "__len__")from by subst j;rfl];subst j;refine AA (D0 (b:=true) l (by rfl) ?_);refine UD (λm=>zX m ∅) (λG=>?_);refine UD (λG=>?_) (λm=>zX (by rfl) m);refine AA (JC l ?_);exact AC h
theorem WY(hh:A.handled=none)(Q:OE s.heap a es ep t)(hu:Up t.place)(hl:t.led=(not (w.params.followText "set-order"))) (Z:es.size<=sizeLine)
  (S:AL) (T:S≠a) (res:AE) (B:Nat) (hL:s.heap.get? S=some { cls:=.type "list",data:=.seq #[] B })
  (hR:∀h' P d' (E:Array AE) H (ord:¬AE),EV ord (es.toList.map (·.2))->(∀b o,b≠S->s.heap.get? b=!o->h'.get? b=!o)->h'.get? S=some { cls:=.type "list",dict:=none,data:=.seq E H,slots:=#[] } ->
   E.toList=ord->R (.ok (.ret res)) { s with heap:=h',toks:=P,drawn:=d' }) :
  AW (AY prog w) A.in1 (Mp (.ref S) (.ref a) res)
   (λfin s'=>match fin with | .done f=>R (.ok f) s' | .again H=>H.quiet/\HP (AY prog w) A H R s') (λe s'=>R (.error e) s') s:=by
 let hT:s.TypeIs (.ref a) "set":=let #[o,U,hex,_]:=Q;#[o,U,hex.1]
 let hSl:=AX hL;unfold Mp;refine AA (JC hT ?_)
 let h1:OO (.ref S) (.ref a)=false:=by simp[OO,T]
 simp only[h1,show(F8 "set"==F8 "list")=false by decide,show(F8 "set"==F8 "tuple")=false by decide,Bool.or_false,BB,if_false];refine AA (bi hh Q hu hl Z λh1 d1 I fp St ord hp J Ω hI W st=>?_)
 let xl:S∉fp:=λh=>by
  grind
 let L:∀(h:BG) (l P:Nat),St 0 h->(∀b o,b≠S->s.heap.get? b=!o->h.get? b=!o) ->
   h.get? S=some { cls:=.type "list",data:=.seq #[] l }->HP (AY prog w) A (.builtin "list.extend.loop" #[[.ref S,.ref I,res],[]]) R { s with heap:=h,toks:=P,drawn:=d1 }:=by
  intro h l P uK J N
  refine codeAny_extend_loopS W.toS Z S xl res es.size 0 _ #[] l rfl (Bc _) uK N (ItemsOf.nil _) λs' E H hm uC X=>?_
  rw[Moved.eq_with hm];refine hR s'.heap s'.toks d1 E H ord hp (λb o hb e=>hm.heap b o (λC=>?_) (J b o hb e)) uC ?_
  ·rcases Ak.mp C with e' | C
   ·exact hb e'
   ·exact zX (AX e) ∅
  ·let xh:-ord=es.size:=by let:=hp.length_eq;simpa using this
   apply E0
   intro j
   by_cases hj:j < es.size
   ·let Y:j < E.size:=by rw[X.1];exact hj
    let:=X.2 j E[j] (by simp[Y]);rw[this];simp[Y]
   ·let Y:Not (j < E.size):=by rw[X.1];exact hj
    ext
 let N:=J S _ hL;refine AA (C0 (dQ (let #[o,U,hex,_]:=Q;#[o,J _ _ U,hex.1]) ?_));refine UD (λM=>?_) (λM=>AC #[IH Q5 _,L _ B _ st (λb o M e=>J b o e) N]);refine AA (Hm ?_);refine AA ?_;refine AA (sM N rfl ?_);let m:=Cq (Ej (·.push CQ)) N rfl;refine sM m rfl ?_;let G:=Cq (Ej (·.pop)) m rfl;refine AC #[IH Q5 _,L _ _ _ ?_ (λb o hb e=>?_) G]
 ·refine W.frame 0 _ _ st λb hb o e=>?_
  let O:b≠S:=λh=>xl (h▸hb)
  exact(Dj _ _ (CU O)).trans ((Dj _ _ (CU O)).trans e)
 ·exact(Dj _ _ (CU hb)).trans ((Dj _ _ (CU hb)).trans (J b o e))
end
end PySem
namespace L2
open Srt
theorem Inv.drew(I:Inv X j l H s):Inv X j l H { s with drawn:=d' }:=#[I.ok,I.os,I.bare,I.base,I.loc,I.cell,I.free,I.freeC,I.pin,I.hok,I.len]
section
variable{X:Cx}{E:EW}{tg e:Expr}{K:AB}{ζ:¬(AL×Obj)}{σ:St}{H:Hp}{s:AK}
def Itk(a:AL)(ob:Obj)(u:HO)(xs:¬V):It:=
 #[λi H=>H a=!.frz ob u/\i < -xs,λi H x j=>j=H/\xs[i]?=!x,λi H=>H a=!.frz ob u/\-xs<=i]
theorem Rx(S:ob.ExactDict)(T:ob.data=.dict es ep)(A:Bl xs (es.toList.map (·.key))):Qw P w K tg (Itk a ob u xs) [it] it (λi h=>h.IsKeyIter it a i es.size ep) where
 mem:=by simp
 obj:=λi h st b hb=>by
  let e:b=it:=by simpa using hb
  subst e;let#[o,e,c,d]:=st
  ext
 keep:=λi h U st k=>st.at λo e=>k it ∅ o e
 item:=by
  intro X B hw C Y i ζ s σ H E I l st G;subst B hw C;let#[J,m]:=G;let#[g,_]:=(I.hok a _ J)
  let Z:-xs=es.size:=by let:=-A;rw[AD,Ad]at this;exact this
  let yz:i < es.size:=by rw[<-Z];exact m
  let#[v,h1,h2]:=A.get (AJ m);rw[Ai,CM,Bp yz]at h1;cases h1;let#[L,N,f2,O,Q,R]:=l it ∅
  refine Srt.Uo st #[ob,g,S,T] yz λU j sb=>?_
  let I1:=I.turned (t':=s.toks) (λb o hb e=>(sb.2 b hb).trans e) L N O Q R;let#[o,e,c,d]:=id j;exact#[_,rfl,SI e c d (by rfl) #[_,H,I1,h2,#[rfl,AJ m],j,λb hb=>(l b hb).1]]
 done:=by
  intro X B hw C Y i ζ s σ H E I l st G;subst B hw C;let#[J,m]:=G;let#[g,_]:=(I.hok a _ J)
  let Z:-xs=es.size:=by let:=-A;rw[AD,Ad]at this;exact this
  let#[L,N,f2,O,Q,R]:=l it ∅
  exact Srt.Xz (I.ok.hd Y) st #[ob,g,S,T] (by ext) λU eb=>#[rfl,I.turned (t':=s.toks) (λb o hb e=>eb b o hb e) L N O Q R]
 self:=λM M M M M st h=>eu st h
theorem jO:∀{l:¬La} {us:¬(Key×AE)} {kvs:¬(Key×V)},Pairs (Dt P w) l us->KV kvs us->Bl (kvs.map λx=>kV x.1) (l.map (·.key)):=by
 intro l us kvs o
 induction o generalizing kvs with
 | nil=>intro h;cases h;exact .nil
 | cons A C _ B=>
  intro h
  cases h with
  | cons r t=>
   refine .cons ?_ (B t);symm;rw[r.1]
   rcases DT A with⟨i,t,j,m⟩ | ⟨x,t,j,m⟩
   ·rw[j,m];exact#[t,rfl]
   ·rw[j,m];exact#[t,rfl]
theorem dj:∀{kvs:¬(¬Key×V)} {xs:¬(¬Key×AL×AE)},Ez (λ(p:¬Key×V) (q:¬Key×AL×AE)=>p.1=q.1/\H q.2.1=!.tup (p.1.map kV)/\RelV p.2 q.2.2) kvs xs->Ez (λ(k:¬Key×V) b=>H b=!.tup (k.1.map kV)) kvs (xs.map (·.2.1)):=by
 intro kvs xs h
 induction h with
 | nil=>exact .nil
 | cons r _ j=>exact .cons r.2.1 j
theorem R6(l:¬AL):Bl (l.map V.ref) (l.map AV):=by
 induction l with
 | nil=>exact .nil
 | cons a l j=>exact .cons rfl j
def iDct(m:TE):TI:=λσ H R=>m σ H λx l=>∃a ob,x=.ref a/\((∃j,l a=!.frz ob (.dK j)/\R (Itk a ob (.dK j) (j.map λx=>kV x.1)) l) ∨
 ∃j,l a=!.frz ob (.dT j)/\∀bs,Ez (λ(k:¬Key×V) b=>l b=!.tup (k.1.map kV)) j bs->R (Itk a ob (.dT j) (bs.map V.ref)) l)
theorem iW(hl:PE X l S):PI X tg l (iDct S):=by
 intro ζ s σ H R I h
 refine thn (hl ζ s σ H _ I h) ?_;rintro v s1 ⟨x,Q,B,T,U⟩
 let#[a,ob,e,q]:=U;subst e;cases T
 let fin:∀{u:HO} {L:¬V} {C:Array La} {N:Nat},(a==B3)=false->s1.heap.get? a=!ob->ob.ExactDict->ob.data=.dict C N->Bl L (C.toList.map (·.key))->R (Itk a ob u L) Q ->
   AW (AY X.prog X.w) X.A (Pb (.ref a)) (PIE X ζ σ tg R) X.xe s1:=λG g j m Y q=>by
  refine Srt.QD G #[ob,g,j,m] ?_;refine#[s1.heap.objs.size,[s1.heap.objs.size],_,_,Q,rfl,B.kept (t':=s1.toks) λb o e=>AF _ e,Rx j m Y,#[_,AO _ rfl,rfl,rfl],λb hb=>?_,q]
  let e:b=s1.heap.objs.size:=by simpa using hb
  subst e;exact B.fpOk (AM _) (B.hok.fresh (AM _))
 rcases q with⟨O,P,q⟩ | ⟨O,P,q⟩
 ·let#[g,Z,G,us,kv,o,C,N,J,j,m,g5,g6,_]:=(B.hok a _ P)
  rw[g]at J;cases J;exact fin G g j m (jO g6 kv) q
 ·let#[g,Z,G,L,rr,o,C,N,J,j,m,g4,_]:=(B.hok a _ P)
  rw[g]at J;cases J
  let hk:C.toList.map (·.key)=(L.map (·.2.1)).map AV:=by
   rw[g4,Aw,Aw];rfl
  exact fin G g j m (by rw[hk];exact R6 _) (q _ (dj rr))
theorem Inv.fz(I:Inv X ζ σ H s)(B:s.heap.get? a=!ob)(C:H a=!u)(P:Mut (!u)):Inv X ζ σ (upd H a (.frz ob u)) s:=by
 let l:∀b,H b=none->b≠a:=λb h z=>by ext
 let j:∀b o,H b=!o->Not (Mut (!o))->b≠a:=λb o h n z=>by ext
 let st:∀b o,CZ X.prog X.w H s.heap b o->CZ X.prog X.w (upd H a (.frz ob u)) s.heap b o:=λb o x=>
  x.stay (λM M M q=>q) (λc r=>by rw[AQ (j c _ r λz=>z)];exact r) λc m r=>by rw[AQ (j c _ r λz=>z)];exact r
 refine#[I.ok,I.os,I.bare,#[I.base.keep,I.base.slot,λb o q n G=>?_,I.base.there,λb m q=>?_,λb o m q=>?_,λb J q=>?_],I.loc,I.cell,?_,λx c q=>?_,λp L=>?_,λb o q=>?_,I.len]
 ·let:=I.base.free b o q n G
  rw[AQ (l b this)];exact this
 ·let:=I.base.tups b m q
  rw[AQ (j b _ this λz=>z)];exact this
 ·let:=I.base.frzs b o m q
  rw[AQ (j b _ this λz=>z)];exact this
 ·let#[more,this]:=I.base.tbls b J q
  exact#[more,by rw[AQ (j b _ this λz=>z)];exact this]
 ·rw[AQ (l _ I.free)];exact I.free
 ·rw[AQ (l _ (I.freeC x c q))];exact I.freeC x c q
 ·let#[N,A,O]:=I.pin p L
  exact#[N,by rw[AQ (l _ A)];exact A,O]
 ·by_cases hb:b=a
  ·subst hb
   rw[Ap]at q;cases q;exact#[B,st b u (I.hok b u C)]
  ·rw[AQ hb]at q
   exact st b o (I.hok b o q)
end
end L2
namespace L4
open L2
section
variable{α:Type}{enc:α->D}
def oFK(enc:α->D)(l:¬(Int×α)):Ob:=.fK (l.map λx=>(Dw x.1,enc x.2))
end
open L2
def kR(r:Z'):¬Key:=r.map Dw
def oDR(enc:j->D)(l:¬(Z'×j)):Ob:=.dT (l.map λx=>(kR x.1,enc x.2))
theorem dD(x y:Z')(h:kR x=kR y):x=y:=by
 let:∀r:Z',(kR r).map (λk:Key=>match k with | .inl i=>i | .inr _=>0)=r:=λr=>by
  unfold kR;rw[Aw]
  conv=>rhs;rw[<-Ln r]
  rfl
 grind
end L4
namespace L7
open L2
open L4 (Fw AS eT eP oDK oDP oDR kP kR Ka QH NP dE Ld)
section
variable{β κ ρ:Type}[DecidableEq κ]
structure OI(ob:¬(κ×β)->Ob)(ek:κ->D)(enc:β->D):Prop where
 nil:ob []=.dK []∨ob []=.dT []
 get:∀(K:AB) (H:Hp) (a:AL) l k y,OB K H a (ob l)->RD K H (ek k) y->∃o,K7 H a y o/\(AR l k=none->o=none)/\∀v,AR l k=!v->∃x,o=!x/\RD K H (enc v) x
 put:∀(K:AB) (H:Hp) (a:AL) l k y v x,OB K H a (ob l)->RD K H (ek k) y->RD K H (enc v) x->-l < 1000000->(∀xs,H a≠!.tup xs)/\(∀o z,H a≠!.frz o z)/\∃u,Tz H a y x (upd H a u)/\OB K (upd H a u) a (ob (Cz l k v))
theorem Tb{K:AB}{H:Hp}{a:AL}{u:HO}{j:Type}{x:¬(j×D)}{y:¬(j×V)}(l:∀xs,H a≠!.tup xs)(m:∀o z,H a≠!.frz o z)(h:KVR K [] H x y):KVR K [] (upd H a u) x y:=
 Ez.mapP h λG G z=>#[z.1,z.2.keep (λb xs e=>by rw[AQ (show b≠a from λc=>l xs (c▸e))];exact e) λb o w e=>by rw[AQ (show b≠a from λc=>m o w (c▸e))];exact e]
theorem dkK{enc:β->D}:OI (oDK enc) D.int enc where
 nil:=.inl rfl
 get:=by
  rintro K H a l k y ⟨m,w,j⟩ r
  cases r;let#[A,G]:=KVR.val (Dw k) j;rw[Ka NP]at A G;refine#[_,K7.k (k:=Dw k) w,λe=>A (by rw[e];rfl),λv e=>?_]
  ext
 put:=by
  rintro K H a l k y v x ⟨m,w,j⟩ r I J
  cases r
  let B:∀C,H a≠!.tup C:=λC z=>by ext
  let E:∀o z,H a≠!.frz o z:=λo z q=>by ext
  refine#[B,E,_,Tz.k (k:=Dw k) w (by rw[<-KVR.length j,AD];exact Ld J),_,Ap,?_];let:=KVR.put (Dw k:Key) I j;rw[QH NP]at this;exact Tb B E this
def kD:Key->D
 | .inl i=>.int i
 | .inr x=>.str x
theorem keys_rel{K}{H}:∀{ks:¬Key} {vs:¬V},A7 K [] H (ks.map kD) vs->vs=ks.map kV
 | [],_,h=>by cases h;rfl
 | k :: ks,_,h=>by
  cases h with
  | cons r t=>
   rw[keys_rel t]
   cases k <;> cases r <;> rfl
theorem dkT{enc:β->D}{j:κ->¬Key}{E:κ->D}(G:∀x y,j x=j y->x=y)(I:∀k,E k=.tup ((j k).map kD)):OI (λl=>.dT (l.map λx=>(j x.1,enc x.2))) E enc where
 nil:=.inr rfl
 get:=by
  rintro K H a l k y ⟨w,A,m⟩ r
  rw[I]at r
  cases r with
  | @tup _ b vs B C=>
   let#[J,P]:=KVR.val (j k) m;rw[Ka G]at J P;refine#[_,K7.t A (by rw[<-keys_rel C];exact B),λe=>J (by rw[e];rfl),λv e=>?_]
   ext
 put:=by
  rintro K H a l k y v x ⟨w,A,m⟩ r Q R
  rw[I]at r
  cases r with
  | @tup _ b vs B C=>
   let L:∀N,H a≠!.tup N:=λN z=>by ext
   let O:∀o z,H a≠!.frz o z:=λo z q=>by ext
   refine#[L,O,_,Tz.t A (by rw[<-keys_rel C];exact B) (by rw[<-KVR.length m,AD];exact Ld R),_,Ap,?_];let:=KVR.put (j k) Q m;rw[QH G]at this;exact Tb L O this
theorem dkP{enc:β->D}:OI (oDP enc) (eP D.int D.int) enc:=dkT dE λk=>rfl
section
variable{X:Cx}{A:¬Sl}{e i o:Expr}{p pos:Pos}{ob:¬(κ×β)->Ob}{ek:κ->D}{enc:β->D}{pl:⇑(¬(κ×β))}{pk:⇑κ}
theorem IT(d:OI ob ek enc):VE X A (.Dict [] [] pos) (rN X.K ob) (![]):=λG l=>by
 cases l
 by_cases c:ob []=.dK []
 ·exact(Uy).imp (by rintro m H Q ⟨w,F,B,q⟩ p j;exact q _ _ (BH j) #[p,rfl,j,by rw[c];exact#[[],Ap,.nil]])
 ·let c:=d.nil.resolve_left c
  exact(cN).imp (by rintro m H Q ⟨w,F,B,q⟩ p j;exact q _ _ (BH j) #[p,rfl,j,by rw[c];exact#[[],Ap,.nil]])
theorem IU(d:OI ob ek enc)(B:X.A.units+1 < Bf)(C:VE X A o (rO X.K ob) pl)(hi:VE X A i (rV X.K ek) pk)(hs:autoParam (Zt i) yq7q):VE X A (.Subscript o i pos) (rV X.K enc) (pl*>λl=>pk*>λk=>AR l k):=λv j=>by
 let#[l,E,j]:=AS j;let#[k,G,I]:=AS j
 refine(X7 B (C l E) (hi k G) hs).imp λY H Q #[J,F,hs,q]=>Eb #[J,F,hs,λu w Z L N m O P=>?_]
 let#[a,rfl,R]:=O;let#[_,S,_,T]:=d.get _ _ _ _ _ _ (m.ob R) P;let#[x,rfl,U]:=T v I;exact#[a,x,rfl,S,q x L (N.trans m) U]
theorem WG(d:OI ob ek enc)(C:X.A.units+1 < Bf)(hi:VE X A i (rV X.K ek) pk)(E:VE X A o (rO X.K ob) pl)(G:autoParam (BV .In o=false) yq6q):VB X A (.Compare i [.In] [o] pos) (pk*>λk=>pl*>λl=>!(AR l k).isSome):=λv j=>by
 let#[k,I,j]:=AS j;let#[l,J,L]:=AS j;cases L
 refine(cC (mj C (hi k I) (E l J)) G).imp λσ H Q #[N,F,O,q]=>Eb #[N,F,O,λu w H1 P R m S T=>?_]
 let#[a,rfl,U]:=T;let#[B,Y,Z,g2]:=d.get _ _ _ _ _ _ U (m.rd S);refine#[a,B,rfl,Y,_,rfl,?_]
 let:B.isSome=(AR l k).isSome:=by
  cases e:AR l k with
  | none=>rw[Z e];rfl
  | some v=>let#[x,rfl,_]:=g2 v e;rfl
 rw[this];exact q P (R.trans m)
set_option tactic.hygienic true in
theorem gJ{Z:AL->Prop}{n:Nat}{j:Pos}{l:¬(κ×β)}{pv:⇑β}{R:Rk ρ}(d:OI ob ek enc)(L:X.A.units+1 < Bf)(N:PE X o (DI n))(hi:VE X A i (rV X.K ek) pk)(O:VE X A e (rV X.K enc) pv)(C:↑(A[n]?=!.g (pa X.K Z (ob l))))(hs:↑(BX e (!.Subscript o i j) pos.line X.env=pure false)) :
  VS X A (.Assign [.Subscript o i j] e pos) R (pv*>λv=>pk*>λk=>if -l < 1000000 then !.nx (Cz l k v)else none) (λP=>A.set n (.g (pa X.K Z (ob P)))):=λf m=>by
 let#[v,Q,m]:=AS m;let#[k,S,m]:=AS m;split at m
 rotate_left
 ·cases m
 rename_i T;cases m
 refine(TJ L N (hi k S) (O v Q) hs).imp λD σ H #[E,F,hs,q]=>#[E,F,hs,λx H1 G U=>?_]
 let w:=hs.grow G;let#[a,I,g2,_,_]:=w.put C;refine#[_,I,E,_,w,λy H2 B Y=>?_];let#[a',J,wG,_,up]:=(w.grow B).put C;rw[I]at J;cases J;let#[nt,nf,u,g3,g4]:=d.put _ _ _ _ _ _ _ _ wG Y (B.rd U) T;let:=up rfl g4 nt nf;exact#[a,_,rfl,g3,q _ _ _ this.1 ((G.fe.trans B.fe).trans this.2)]
end
end
open L2
open L4 (Fw AS eT oL Gg N6)
section
variable{X:Cx}{A:¬Sl}{e a b c o:Expr}{rest:¬Expr}{p pos apos cpos:Pos}{α:Type}
def VW(X:Cx)(A:¬Sl)(e:Expr)(p:⇑Bool):Prop:=∀v,p=!v->PW X e (λl H Q=>∃m F,Vs m A l F H/\∀j,Kp H j->Q v j)
theorem Yv(h:VW X A e q):VB X A e q:=λv j=>(h v j).pt
theorem PW.imp(h:PW X e t)(i:∀j H Q,t' j H Q->t j H Q):PW X e t':=λw l s j H Q I q=>h w l s j H Q I (i j H Q q)
theorem Sr(h:VB X A a q):VW X A (.BoolOp .And [a] pos) q:=λv j=>X1 (h v j)
theorem V8(h:VB X A a q):VW X A (.BoolOp .Or [a] pos) q:=λv j=>mI (h v j)
theorem TV(h:∀j H Q,t j H Q->False):PW X e t:=λw l s j H Q I q=>(h j H Q q).elim
theorem V9(m:VB X A a q)(hb:VW X A (.BoolOp .And (b :: rest) pos) r):VW X A (.BoolOp .And (a :: b :: rest) pos) (q*>λt=>if t=true then r else !false):=λv C=>by
 let#[t,w,B]:=AS C
 cases t with
 | true=>exact PW.imp (TD (m _ w) (hb v B)) (by rintro E H Q ⟨j,F,l,k⟩;exact#[j,F,l,λG kp=>by symm;rw[qX rfl];exact#[j,_,l.grow kp,λI J=>k I (kp.trans J)]])
 | false=>cases B;exact PW.imp (TD (m _ w) (TV λG G G z=>z)) (by rintro E H Q ⟨j,F,l,k⟩;exact#[j,F,l,λG kp=>by ext])
theorem XU(m:VB X A a q)(hb:VW X A (.BoolOp .Or (b :: rest) pos) r):VW X A (.BoolOp .Or (a :: b :: rest) pos) (q*>λt=>if t=true then !true else r):=λv C=>by
 let#[t,w,B]:=AS C
 cases t with
 | true=>cases B;exact PW.imp (j9 (m _ w) (TV λG G G z=>z)) (by rintro E H Q ⟨j,F,l,k⟩;exact #[j,F,l,λG kp=>by ext])
 | false=>exact PW.imp (j9 (m _ w) (hb v B)) (by rintro E H Q ⟨j,F,l,k⟩;exact #[j,F,l,λG kp=>by symm;rw[qY An];exact#[j,_,l.grow kp,λI J=>k I (kp.trans J)]])
theorem Pt{R:Rk α}{q:⇑α}{g:α->Bool}(h:VE X A e R q)(l:∀v H x H',R v H x H'->Va X.K x H' (g v))(m:autoParam (∀j,KN e X.env j=(do let v <-j;JD e.pos;F7 [v] (NZ v))) yq2q):VB X A e (q*>λv=>!g v):=λt w=>by
 let#[v,B,C]:=AS w;cases C;exact(QI (h v B) m).imp (by rintro I H Q ⟨E,F,G,k⟩;exact#[E,F,G,λx H' kp r=>#[_,l v H x H' r,k H' kp]])
theorem truI{K}(v:Int)(H:Hp)(x:V)(H':Hp)(h:rV K D.int v H x H'):Va K x H' (v != 0):=by cases h;rfl
theorem truB{K}(v:Bool)(H:Hp)(x:V)(H':Hp)(h:rV K D.bl v H x H'):Va K x H' v:=by cases h;rfl
theorem truL{K}{enc}(l:¬α)(H:Hp)(x:V)(H':Hp)(h:rO K (oL enc) l H x H'):Va K x H' (not l.isEmpty):=by
 let#[a,rfl,vs,j,m]:=h;refine .inl #[vs,.inl (.inl j),?_]
 cases l <;> cases m <;> rfl
theorem truT{K}{enc}(l:¬α)(H:Hp)(x:V)(H':Hp)(h:rV K (eT enc) l H x H'):Va K x H' (not l.isEmpty):=by
 cases h with
 | @tup _ a vs j m=>
  refine .inr (.inl #[vs,.inl (.inl j),?_])
  cases l <;> cases m <;> rfl
theorem Pu{op G:UC}{f g:Int->Int->Bool}{pa L pc:⇑Int}(N:OpR X (Bk op) (rI0 λi j=>.bl (f i j)))(O:OpR X (Bk G) (rI0 λi j=>.bl (g i j)))(P:VE X A a (XP X) pa)(hb:VE X A b (XP X) L)(Y:VE X A c (XP X) pc)(R:autoParam (lastMarks [op,G] [b,c]=false) yq6q) :
  VB X A (.Compare a [op,G] [b,c] pos) (pa*>λx=>L*>λy=>if f x y then pc*>λz=>!g y z else !false):=λv l=>by
 let#[x,S,l]:=AS l;let#[y,T,l]:=AS l
 by_cases t:f x y=true
 ·rw[qX t]at l
  let#[z,Z,h4]:=AS l;cases h4
  refine(Us N O (P x S) (hb y T) (Y z Z) R).imp λσ H Q #[m,F,B,k]=>#[m,F,B,λu H1 C I=>#[m,_,B.grow C,λw U E J=>?_]]
  cases I;cases J;refine#[x,y,rfl,rfl,_,rfl,?_];rw[qX t];refine#[m,_,(B.grow C).grow E,λw H3 k3 r3=>?_];cases r3;exact#[y,z,rfl,rfl,_,rfl,k H3 (C.trans (E.trans k3))]
 ·rw[qY t]at l
  cases l
  refine(Us (tc:=λM M M=>False) N O (P x S) (hb y T) (λM M M M M M z=>z.elim) R).imp λσ H Q #[m,F,B,k]=>#[m,F,B,λu H1 C I=>#[m,_,B.grow C,λw U E J=>?_]]
  cases I;cases J;refine#[x,y,rfl,rfl,_,rfl,?_];rw[qY t];exact#[_,rfl,k U (C.trans E)]
theorem bC{op:Nd}{g:Int->Int->Int}{pa l:⇑Int}(m:OpR X (D7 op) (rI0 λi j=>.int (g i j)))(w:VE X A a (XP X) pa)(hb:VE X A b (XP X) l):VE X A (.BinOp a op b pos) (XP X) (pa*>λx=>l*>λy=>!g x y):=
 ju m w hb λx y z u v H Q B C E G=>by cases B;cases C;cases E;exact#[x,y,rfl,rfl,G _ (.int _)]
theorem bK{op:UC}{g:Int->Int->Bool}{pa l:⇑Int}(m:OpR X (Bk op) (rI0 λi j=>.bl (g i j)))(w:VE X A a (XP X) pa)(hb:VE X A b (XP X) l)(B:autoParam (BV op b=false) yq9q):VB X A (.Compare a [op] [b] pos) (pa*>λx=>l*>λy=>!g x y):=
 lS m w hb (λx y z u v H Q C E G I=>by cases C;cases E;cases G;exact#[x,y,rfl,rfl,I]) B
theorem Pr(h:VE X A a (XP X) q):VE X A (.UnaryOp .USub a pos) (XP X) (q*>λx=>!((unop% Neg.neg x))):=λv j=>by
 let#[x,l,m]:=AS j;cases m;exact(q9 lW (h x l)).imp (by rintro E H Q ⟨w,F,B,k⟩;exact#[w,F,B,λu C kp r=>by cases r;exact#[x,rfl,k _ C kp (.int _)]])
theorem LD(R:VE X A a (rV X.K (eT enc)) pl)(hb:VE X A b (rV X.K (eT enc)) S):VE X A (.BinOp a .Add b pos) (rV X.K (eT enc)) (pl*>λl=>S*>λk=>Gg l k):=λv B=>by
 let#[l,T,B]:=AS B;let#[k,U,j]:=AS B;unfold Gg at j
 by_cases C:-l+-k<=1000000
 case neg=>rw[qY C]at j;cases j
 rw[qX C]at j;cases j
 refine(X5 YA (R l T) (hb k U)).imp λσ H Q #[Y,F,Z,q]=>Eb #[Y,F,Z,λu w H1 H2 E m r1 r2=>?_]
 cases m.rd r1 with
 | @tup _ a vs O G=>cases r2 with
  | @tup _ b ws P I=>
   let J:=-G;let L:=-I;rw[AD]at J L;refine#[a,b,vs,ws,rfl,rfl,O,P,by rw[<-J,<-L];exact N6 C,λe=>?_,λe=>?_,λp N=>q _ _ ((E.trans m).trans (BH N)) (.tup Ap ?_)]
   ·subst e
    obtain rfl:l=[]:=DX J;exact q _ _ (E.trans m) (.tup P I)
   ·subst e
    obtain rfl:k=[]:=DX L;exact q _ _ (E.trans m) (by rw[BP];exact .tup O G)
   ·rw[Bv]
    exact(G.append I).keep (λb M z=>BH N b _ z) λb M M z=>BH N b _ z
set_option tactic.hygienic true in
theorem ag(Z:PE X o (DI i))(h:VE X A e (rN X.K (oL enc)) q)(hi:↑(A[i]?=!sw X.K (oL enc l)))(m:↑(Bd o "extend" X.env (A2 o X.env)=A2 o X.env))
  (B:↑(((Cv cpos (AG [e] X.env)).all (λx=>not x.1)&&(LV cpos (G1 [] X.env)).all (λx=>x.1.isSome)
    &&decide (-[e]+-([]:¬IJ)+(if ([]:¬IJ).isEmpty then 0 else 1) < 30))))
  (w:↑((apos.endLine==cpos.line))) (hs:↑(zSq X e)) (j:↑((Cv cpos (AG [] X.env)).any (·.1)=false)) (J:↑(BX (.Call (.Attribute o "extend" apos) [e] [] cpos) none pos.line X.env=pure false)) :
  VS X A (.Expr (.Call (.Attribute o "extend" apos) [e] [] cpos) pos) R (q*>λv=>Gg l v*>λC=>!.nx C) (λC=>A.set i (sw X.K (oL enc C))):=λf L=>by
 let#[v,h1,L]:=AS L;let#[C,E,h3]:=AS L;cases h3;unfold Gg at E;split at E
 rotate_left
 ·cases E
 rename_i hl;cases E;refine(PM (cR JH PySem.F.slot_list_extend PySem.F.type_list_extend ZN Z (Bn (h v h1) Du hs) m B w hs j) J).imp ?_;rintro D σ H ⟨H0,F,hs,k⟩;let#[a,O,g3,_]:=hs.put hi;let#[vs,P,g5]:=id g3;refine#[_,O,.inl #[rfl,vs,.inl (.inl P)],H0,F,hs,?_];rintro y G kp ⟨b',e1,e2,N,e3,Q⟩;subst e1;let g6:=kp a _ P;let S:=g5.keep (λb M z=>kp b _ z) (λb M M z=>kp b _ z);refine#[a,b',vs,N,rfl,rfl,g6,e3,by rw[<-S.length,<-Q.length,AD,AD];exact N6 hl,?_]
 let T:∀b I,G b=!.tup I->upd G a (.lst (vs++N)) b=!.tup I:=λb I z=>by rw[AQ (λc=>by ext)];exact z
 let U:∀b ob u,G b=!.frz ob u->upd G a (.lst (vs++N)) b=!.frz ob u:=λb ob u z=>by rw[AQ (λc=>by ext)];exact z
 let#[a',Y,_,_,up]:=(hs.grow kp).put hi;rw[O]at Y;cases Y;let:=up (o':=oL enc (l++v)) rfl #[_,Ap,by rw[Bv];exact(S.keep T U).append (Q.keep T U)] (λI z=>by ext) (λob z q=>by ext);exact k _ _ _ this.1 (kp.fe.trans this.2)
theorem Po(i:Nat)(h:PE X e (DI j))(m:↑(A[j]?=!.q P))(w:autoParam X.N.Nodup yq5q)(hi:↑(X.N[i]?=!x))(B:autoParam (Loc X.env.scope x) yq4q)(hs:↑(BX e (!.Name x l) pos.line X.env=pure false))
  (C:autoParam (zFn X x) yq3q):VS X A (.Assign [.Name x l] e pos) R (!.nx ()) (λM=>A.set i (.q P)):=λf E=>by
 cases E;refine(Wf w hi B h hs C).imp ?_;rintro D J H ⟨L,F,hs,k⟩;let#[y,G,I]:=hs.at m;exact#[y,G,k _ F H (hs.set i I) .refl]
set_option tactic.hygienic true in
theorem JP(G:X.mg "range" = none) (I:VE X A a (XP X) q) (hb:VE X A b (XP X) r) (J:↑(Gl X "range")) (hs:↑(AG [a,b] X.env=[(false,A2 a X.env),(false,A2 b X.env)])) (m:↑(AG [b] X.env=[(false,A2 b X.env)])) :
  VI X A tg (.Call (.Name "range" p) [a,b] [] pos) (rd X.K D.int) (q*>λi=>r*>λj=>L4.Kl i j):=λl w=>by
 let#[i,L,w]:=AS w;let#[j,N,B]:=AS w;unfold L4.Kl at B
 split at B <;> cases B
 rename_i T
 exact(ZG J G (Bn (I i L) (Bn (hb j N) Du m) (by(try unfold zSp);rw[hs,m])) hs m).imp (by rintro U H R ⟨C,F,hs,k⟩;exact#[C,F,hs,λx Y E O=>#[C,_,hs.grow E,λy P Q S=>by
  cases O;cases S
  refine#[i,j,rfl,#[by omega,by omega,by lia,by omega],k _ P (E.trans Q) YJ]]])
end
open L2
open L4 (Fw AS eT eP oL oDK N6)
section
variable{X:Cx}{A:¬Sl}{e a b o i:Expr}{es:¬Expr}{p pos apos:Pos}{α β γ κ:Type}
def Vb(K:AB)(R:Rk α)(ds:α->¬D):Prop:=∀v H x j,R v H x j->∃p,x=.ref p/\∀G:¬V->Prop,(∀vs,A7 K [] j (ds v) vs->G vs)->oV K j p G
theorem qe{K:AB}{enc:α->D}:Vb K (rO K (oL enc)) (λl=>l.map enc):=by rintro v H x B ⟨a,j,vs,m,w⟩;exact#[a,j,λG k=>.inl #[vs,.inl (.inl (.inl m)),k vs w]]
theorem srcT{K:AB}{enc:α->D}:Vb K (rV K (eT enc)) (λl=>l.map enc):=λv H x w h=>by
 cases h with
 | @tup _ a vs j m=>exact#[a,rfl,λG k=>.inl #[vs,.inr (.inl (.inl j)),k vs m]]
theorem srcK{K:AB}{enc:α->D}:Vb K (rO K (oDK enc)) (λl=>l.map λx=>D.int x.1):=by rintro v H x B ⟨a,j,vs,m,w⟩;exact #[a,j,λG k=>.inr (.inl #[vs,m,k _ (by let:=NN w;rwa [Aw]at this)])]
theorem JQ{R:Rk α}{ds:α->¬D}{q:⇑α}{g:α->⇑(¬β)}{eb:β->D}(w:Vb X.K R ds)(B:X.mg "sorted" = none) (h:VE X A e R q) (C:∀v l,g v=!l->Kc (ds v)=!l.map eb) (E:↑X.calm) (G:↑(Gl X "sorted")) (I:↑(zSq X e)) :
  VE X A (.Call (.Name "sorted" p) [e] [] pos) (rN X.K (oL eb)) (q.bind g):=
 Np (Zm E) sU B h (λv l H u J Q L N k=>by
  let#[a,O,m]:=w v H u J N;subst O;refine#[a,rfl,m _ λvs P=>?_];let#[f,S,T]:=bZ (C v l L) P
  exact#[f,S,λout U Y q j=>k _ _ (BH j) #[q,rfl,j,out,Ap,(T out U Y).keep (λb M z=>BH j b _ z) λb M M z=>BH j b _ z]]) upN G ∅ (by rfl) I
def VO(X:Cx)(A:¬Sl)(e:⇑Expr)(q:⇑(⇑Int)):Prop:=∀v,q=!v->PO X e (λl H Q=>∃m F,Vs m A l F H/\∀j,Kp H j->Q v j)
theorem XZ:VO X A none (!none):=by rintro v j l s m H Q I ⟨w,F,B,k⟩;cases j;exact iS l s m H Q I (k H .refl)
theorem PO.imp(h:PO X e t)(j:∀l H Q,t' l H Q->t l H Q):PO X e t':=λm s l H Q I q=>h m s l H Q I (j l H Q q)
theorem XY(h:VE X A e (XP X) q):VO X A (!e) (q*>λx=>!(!x)):=λv j=>by
 let#[x,l,m]:=AS j;cases m;exact PO.imp (iR (h x l)) (by rintro C H Q ⟨w,F,B,k⟩;exact#[w,F,B,λu E kp r=>by cases r;ext])
theorem jQ{K:AB}{H:Hp}{enc:α->D}{l:¬α}{vs:¬V}{lo hi:⇑Int}(h:A7 K [] H (l.map enc) vs):A7 K [] H ((Ot l lo hi).map enc) (Zj vs lo hi):=by
 let j:-vs=-l:=by rw[<-h.length,AD]
 let:(Ot l lo hi).map enc=((l.map enc).drop (HT.sIx (-l) 0 lo)).take (HT.sIx (-l) (-l) hi - HT.sIx (-l) 0 lo):=by
  unfold Ot;rw[Ml,T7]
 rw[this];unfold Zj;rw[j];exact(h.drop _).take _
theorem Mv{C f:AL}{m:Str}{fd:EA}{O:¬Str}{k k':Nat}{pl:Sem Bool}{q:⇑α}{r:⇑γ}{g:α->γ->⇑β}{P:α->Hp->V->Prop}{S:γ->¬(Hp->V->Prop)}{R:Rk β}(hC:Cls X.K C)(hm:Tx X.K C m f)(F:∀v z,Ca X.prog X.w X.K X.mg X.base (CXG X.prog X.w) k f fd O (spV (P v :: S z) R (g v z)))(hb:Binds X.K fd O [])
  (ho:VE X A o (rP P) q) (hP:∀v H x,P v H x->∃a E fs,x=.ref a/\H a=!.ins C E fs/\fs.lookup m=none) (ha:VA X A (e :: es) r S) (hr:FK k' X.A) (hR:∀v H H' x G,Kp H H'->R v H' x G->R v H x G) (hk:↥(k<=k')) (hx:↑(X.xe=λM M=>False))
  (uK:↑(zSp X e es)) (I:↑((Cv pos (AG es X.env)).any (·.1)=false))
  (ht:↑(A2 (.Call (.Attribute o m apos) (e :: es) [] pos) X.env=(do
   let T <-A2 o X.env
   JD apos.atName
   let (f,fts) <-F7 [T] (Zx T m pl)
   callWith pos f fts (Cv pos (AG (e :: es) X.env)) (LV pos (G1 [] X.env))))) :
  VE X A (.Call (.Attribute o m apos) (e :: es) [] pos) R (q*>λv=>r*>λz=>g v z):=λy J=>by
 let#[v,h1,J]:=AS J;let#[z,h2,h3]:=AS J
 refine(iZ (ho v h1) hC hm (F v z) (hr.mono hk) hb .nil (good_none hx).pass (ha z h2) uK I ht).imp λσ H Q #[U,F,Y,kq]=>#[U,F,Y,λx Z L r1=>?_]
 let#[a,E,fs,e1,e2,e3]:=hP v Z x (r1 Z .refl);refine#[a,E,fs,e1,e2,e3,U,_,Y.grow L,λxs G N j=>?_];symm;rw[BP];refine#[y,h3,#[congrArg (· + 1) j.1,λi P' w q1 q2 l B=>?_],λw l B r3=>kq w l (L.trans (N.trans B)) (hR _ _ _ _ _ (L.trans N) r3)]
 cases i with
 | zero=>cases q1;cases q2;exact r1 l (N.trans B)
 | succ i=>exact j.2 i P' w q1 q2 l B
theorem Mx[DecidableEq κ]{ob:¬(κ×β)->Ob}{m:κ->D}{enc:β->D}{pl:⇑(¬(κ×β))}{B:⇑κ}(d:OI ob m enc)(G:X.A.units+1 < Bf)(hi:VE X A i (rV X.K m) B)(I:VE X A o (rO X.K ob) pl)(J:autoParam (BV .NotIn o=false) yq6q):VB X A (.Compare i [.NotIn] [o] pos) (B*>λk=>pl*>λl=>!not (AR l k).isSome):=λv j=>by
 let#[k,L,j]:=AS j;let#[l,N,O]:=AS j;cases O
 refine(cC (SA G (hi k L) (I l N)) J).imp λσ H Q #[P,F,R,q]=>Eb #[P,F,R,λu w H1 S T C U Y=>?_]
 let#[a,rfl,Z]:=Y;let#[E,g1,g0,g2]:=d.get _ _ _ _ _ _ Z (C.rd U);refine#[a,E,rfl,g1,_,rfl,?_]
 let:E.isSome=(AR l k).isSome:=by
  cases e:AR l k with
  | none=>rw[g0 e];rfl
  | some v=>let#[x,rfl,_]:=g2 v e;rfl
 rw[this];exact q S (T.trans C)
theorem O8{l:α->D}{eb:β->D}{m n:Nat}{K:AB}:VT (n9 K 2 (VJ (Ie m) (VJ (Ie n) oA))) (rd K (eP l eb)) (λv A=>(A.set m (sv K (l v.1))).set n (sv K (eb v.2))):=λI A J F H v x Q w r k=>by
 let r:=r H Kp.refl.fr
 cases r with
 | @tup _ a vs B j=>
  cases j with
  | cons C j=>cases j with
   | cons E j=>
    cases j;exact#[a,_,rfl,.inl (.inl B),rfl,_,_,rfl,_,_,rfl,rfl,k _ ((w.set m λG f=>f.rd C).set n λG f=>f.rd E)]
end
open L2
open L4 (Fw AS eT oL eF)
section
variable{X:Cx}{A:¬Sl}{e a b o i:Expr}{p pos:Pos}
theorem bA(hl:VE X A a (rV X.K eF) pl)(hi:VE X A b (XP X) pi)(hs:autoParam (LQ b) yq7q):VE X A (.Subscript a b pos) (XP X) (pl*>λl=>pi*>λi=>atI l i):=λv j=>by
 let#[l,B,j]:=AS j;let#[i,C,E]:=AS j
 refine(Uw ix_list (hl l B) (hi i C) hs).imp λT H Q #[G,F,hs,q]=>Eb #[G,F,hs,λu w U I J m L N=>?_]
 cases N
 cases L with
 | @fro _ p vs O P=>
  let#[y,R,S]:=PX P (Tu E);exact#[p,vs,i,y,rfl,rfl,(O.mono λb o u z=>m b _ z).sq,R,q y I (J.trans m) (m.rd S)]
theorem Xc(j:X.mg "len" = none) (h:VE X A e (rV X.K eF) pl) (m:↑(Gl X "len")) (w:↑(zSq X e)):VE X A (.Call (.Name "len" p) [e] [] pos) (XP X) (pl*>λl=>!(-l:Int)):=
 Np Jy LX j h (λv z H u B Q C E k=>by
  cases C
  cases E with
  | @fro _ q vs G I=>
   refine#[q,vs,rfl,.inl G.sq,?_];rw[<-I.length,AD]
   exact k _ B .refl (.int _)) upV m ∅ (by rfl) w
end
theorem law_trueN{P:Ao}{w:A3}{K:AB}{o:Str->⇑AE}{base:BG}{k:Nat}{B:AL}{fd:EA}{q:Z'->⇑Bool}(F:∀j,Ca P w K o base (CXG P w) k B fd ["script"] (spV [λH y=>RD K H (eF j) y] (rV K D.bl) (q j))) (h:∀j:Z',j.length<=63->q j=!true) :
  Ca P w K o base (CXG P w) k B fd ["script"] (bY K):=#[λvs H Q E #[a,j,e,_]=>by rw[e];rfl,by
 rintro A l s H m I vs Q E J L hb r ⟨a,j,e,N,O,R⟩
 subst e;refine(F j).run A l s H m I _ Q E J L hb r #[true,h j O,#[rfl,λi U x C S G T=>?_],λx G M r=>by cases r;exact R G]
 cases i with
 | zero=>cases C;cases S;exact T.rd (.fro N (A7.of_ints j))
 | succ i=>simp at C]
open L2
open L4 (Fw AS eT eP eP3 oL Op Ky MN Gf EqN NL Qh IE)
section
variable{X:Cx}{A:¬Sl}{a b:Expr}{p pos:Pos}{α β γ:Type}{pa pb:⇑Int}
theorem FR(j:VE X A a (XP X) pa)(hb:VE X A b (XP X) pb):VE X A (.BinOp a .Add b pos) (XP X) (pa*>λx=>pb*>λy=>!x+y):=bC nJ j hb
theorem Ip(j:VE X A a (XP X) pa)(hb:VE X A b (XP X) pb):VE X A (.BinOp a .Sub b pos) (XP X) (pa*>λx=>pb*>λy=>!x - y):=bC mq j hb
theorem lM(j:VE X A a (XP X) pa)(hb:VE X A b (XP X) pb):VE X A (.BinOp a .Mult b pos) (XP X) (pa*>λx=>pb*>λy=>Op x y):=Rt nB j hb
theorem Xg(j:VE X A a (XP X) pa)(hb:VE X A b (XP X) pb):VE X A (.BinOp a .FloorDiv b pos) (XP X) (pa*>λx=>pb*>λy=>Ky x y):=Rt ik j hb
theorem WE(j:VE X A a (XP X) pa)(hb:VE X A b (XP X) pb):VE X A (.BinOp a .Mod b pos) (XP X) (pa*>λx=>pb*>λy=>MN x y):=Rt nC j hb
theorem Nn(j:VE X A a (XP X) pa)(hb:VE X A b (XP X) pb):VE X A (.BinOp a .LShift b pos) (XP X) (pa*>λx=>pb*>λy=>Gf x y):=Rt m8 j hb
theorem qD{op:Nd}{j:Nat}{l:Pos}{k:Int}{g:Int->Int->⇑Int}{f:Int->Int}(h:VE X A (.BinOp a op (.Constant (.int k) j l) pos) (XP X) (pa*>λx=>(!k)*>λy=>g x y))(m:∀x,g x k=!f x):VE X A (.BinOp a op (.Constant (.int k) j l) pos) (XP X) (pa*>λx=>!f x):=by
 ext
theorem Ps{j:Nat}{l:Pos}{k:Int}(o:(decide (0 < k)&&decide (k<=1000000)))(w:VE X A a (XP X) pa):VE X A (.BinOp a .FloorDiv (.Constant (.int k) j l) pos) (XP X) (pa*>λx=>!x / k):=by
 let m:=DN _ _▸o
 exact qD (Xg w A1) λx=>qX #[of_decide_eq_true m.1,Int.lt_of_le_of_lt (of_decide_eq_true m.2) (by ext)]
theorem Mu{j:Nat}{l:Pos}{k:Int}(m:decide (0 < k))(o:VE X A a (XP X) pa):VE X A (.BinOp a .Mod (.Constant (.int k) j l) pos) (XP X) (pa*>λx=>!x % k):=qD (WE o A1) λx=>qX (of_decide_eq_true m)
theorem jx(j:VE X A a (XP X) pa)(hb:VE X A b (XP X) pb):VB X A (.Compare a [.Lt] [b] pos) (pa*>λx=>pb*>λy=>!decide (x < y)):=bK cX j hb (GO _)
theorem qG(j:VE X A a (XP X) pa)(hb:VE X A b (XP X) pb):VB X A (.Compare a [.Gt] [b] pos) (pa*>λx=>pb*>λy=>!decide (y < x)):=bK rC j hb (GO _)
theorem qH(j:VE X A a (XP X) pa)(hb:VE X A b (XP X) pb):VB X A (.Compare a [.GtE] [b] pos) (pa*>λx=>pb*>λy=>!decide (y<=x)):=bK rE j hb (GO _)
section
variable{enc:α->D}[DecidableEq α]{qa qb:⇑α}{ql:⇑(¬α)}
theorem Lv(h:EqN 8 enc)(n:NL enc)(j:X.A.units+64 < Bf)(l:VE X A a (rV X.K enc) qa)(hb:VE X A b (rV X.K enc) qb):VB X A (.Compare a [.Eq] [b] pos) (qa*>λx=>qb*>λy=>!decide (x=y)):=UY (kC j) (λx y z q=>by cases q;exact Qh h n false x y []) l hb (GO _)
theorem jw(h:EqN 8 enc)(n:NL enc)(j:X.A.units+64 < Bf)(l:VE X A a (rV X.K enc) qa)(hb:VE X A b (rV X.K enc) qb):VB X A (.Compare a [.NotEq] [b] pos) (qa*>λx=>qb*>λy=>!not (decide (x=y))):=UY (rJ j) (λx y z q=>by cases q;exact Qh h n true x y []) l hb (GO _)
theorem qE(h:EqN 8 enc)(n:NL enc)(j:X.A.units+64 < Bf)(l:VE X A a (rV X.K enc) qa)(hb:VE X A b (rV X.K enc) qb):VE X A (.Compare a [.Eq] [b] pos) (rV X.K D.bl) (qa*>λx=>qb*>λy=>!decide (x=y)):=lN (kC j) (λx y z q=>by cases q;exact Qh h n false x y []) l hb (GO _)
theorem Wz(h:EqN 8 enc)(neg:Bool)(x:α)(l:¬α):inD neg (enc x) (eT enc l) []=.ok (.bl (if neg then not (decide (x∈l))else decide (x∈l))) []:=by
 unfold inD;rw[show iI (eT enc l) []=!l.map enc from rfl];symm;rw[IE h]
theorem gm(h:EqN 8 enc)(j:X.A.units+64 < Bf)(m:VE X A a (rV X.K enc) qa)(hb:VE X A b (rV X.K (eT enc)) ql)(o:autoParam (BV .In b=false) yq6q):VB X A (.Compare a [.In] [b] pos) (qa*>λx=>ql*>λl=>!decide (x∈l)):=UY (kB j) (λx l z q=>by cases q;exact Wz h false x l) m hb o
end
theorem G4(E:VE X A a (rV X.K G) I)(hb:VE X A b (rV X.K eb) J)(L:↑(AG [a,b] X.env=(false,A2 a X.env) :: AG [b] X.env))(N:↑(AG [b] X.env=(false,A2 b X.env) :: AG [] X.env)) :
  VE X A (.Tuple [a,b] k pos) (rV X.K (eP G eb)) (I*>λx=>J*>λy=>!(x,y)):=λv j=>by
 let#[x,O,j]:=AS j;let#[y,P,R]:=AS j;cases R;exact(TK (Bn (E x O) (Bn (hb y P) Du N) L)).imp (by rintro U H Q ⟨m,F,o,q⟩;exact#[m,F,o,λu Y B S=>#[m,_,o.grow B,λw Z C T=>#[Cu rfl,λp l=>q _ _ ((B.trans C).trans (BH l)) (.tup Ap (.cons ((BH l).rd (C.rd S)) (.cons ((BH l).rd T) .nil)))]]])
theorem S7{j:Nat}{l:Pos}{i:Int}{o:α->D}{ec:γ->D}{q:⇑α}{g:α->γ}{ds:α->¬D}(h:VE X A a (rV X.K o) q)(C:∀x,o x=.tup (ds x))(hi:∀x,atI (ds x) i=!ec (g x))(hs:autoParam (LQ (.Constant (.int i) j l)) yq7q):VE X A (.Subscript a (.Constant (.int i) j l) pos) (rV X.K ec) (q*>λx=>!g x):=λv E=>by
 let#[x,G,I]:=AS E;cases I
 refine(Uw dH (h x G) (A1 i rfl) hs).imp λY H Q #[J,F,hs,k]=>Eb #[J,F,hs,λu w L N O B m P=>?_]
 cases P;let m:RD X.K L (o x) u:=m;rw[C]at m
 cases m with
 | @tup _ p vs R S=>
  let#[y,T,U]:=PX S (hi x);exact#[p,vs,i,y,rfl,rfl,.inl (.inl (B _ _ R)),T,k y N (O.trans B) (B.rd U)]
theorem No{j:Nat}{l:Pos}{m:α->D}{eb:β->D}{q:⇑(α×β)}(h:VE X A a (rV X.K (eP m eb)) q):VE X A (.Subscript a (.Constant (.int 0) j l) pos) (rV X.K m) (q*>λx=>!x.1):=S7 h (λx=>rfl) (λx=>rfl)
theorem Sw{j:Nat}{l:Pos}{m:α->D}{eb:β->D}{q:⇑(α×β)}(h:VE X A a (rV X.K (eP m eb)) q):VE X A (.Subscript a (.Constant (.int 1) j l) pos) (rV X.K eb) (q*>λx=>!x.2):=S7 h (λx=>rfl) (λx=>rfl)
end
open L2
open L4 (Fw AS eT eU oL Ir EqN IE kR oDR dD Jq)
section
variable{X:Cx}{A:¬Sl}{e a b o:Expr}{pos apos cpos:Pos}{α τ:Type}{pa pb:⇑Int}
theorem WC(j:VE X A a (XP X) pa)(hb:VE X A b (XP X) pb):VE X A (.BinOp a .RShift b pos) (XP X) (pa*>λx=>pb*>λy=>Ir x y):=Rt mw j hb
theorem LF(j:VE X A a (XP X) pa)(hb:VE X A b (XP X) pb):VE X A (.BinOp a .BitAnd b pos) (XP X) (pa*>λx=>pb*>λy=>!BE x y):=bC nI j hb
theorem gc(m:VE X A o (XP X) pa)(j:↑(Bd o "bit_length" X.env (A2 o X.env)=A2 o X.env)) (l:↑((apos.endLine==cpos.line))):VE X A (.Call (.Attribute o "bit_length" apos) [] [] cpos) (XP X) (pa*>λx=>!(D5 x:Int)):=λv w=>by
 let#[x,B,C]:=AS w;cases C;exact(me PySem.F.plainAttrs_int PySem.F.slot_int_bit_length PySem.F.type_int_bit_length ir (m x B) j l).imp (by rintro J H Q ⟨E,F,G,k⟩;exact#[E,F,G,λu I kp r=>by cases r;exact#[rfl,_,rfl,rfl,k _ I kp (.int _)]])
theorem MF:VSs X A sts R none B:=λf j=>nomatch j
theorem dkR:OI (oDR enc) (eT D.int) enc:=dkT dD λk=>congrArg D.tup (by unfold kR;rw[Aw];rfl)
theorem hu1(h:n+64 < Bf):n+1 < Bf:=Il (Nat.add_le_add_left (by decide:1<=64) _) h
section
variable{enc:α->D}[DecidableEq α]{qa:⇑α}{ql:⇑(¬α)}
theorem Mw(h:EqN 8 enc)(j:X.A.units+64 < Bf)(m:VE X A a (rV X.K enc) qa)(hb:VE X A b (rV X.K (eT enc)) ql)(w:autoParam (BV .NotIn b=false) yq6q):VB X A (.Compare a [.NotIn] [b] pos) (qa*>λx=>ql*>λl=>!not (decide (x∈l))):=UY (cZ j) (λx l z q=>by cases q;exact Wz h true x l) m hb w
end
theorem fnU{P:Ao}{w:A3}{K:AB}{Y:Str->⇑AE}{base:BG}{x m:Str}{st:B5}{f:AL}{fd:EA}{N O:¬Str}{k:Nat}{R:¬(Hp->V->Prop)}{q:⇑(Fw Unit τ)}{B:τ->¬Sl}(F:Fun K x m st f fd)(Z:Hk N O (By st))(hn:-R=-O)
  (tK:∀(L:AE) (A:BR) (l:¬Env) (s:AK) (H:Hp) (E:XK),FK k (A.deeper (HN m (By st) s.heap.objs.size f L))->(A.deeper (HN m (By st) s.heap.objs.size f L)).units+64 < Bf->N.Nodup ->
   VSs (Qm (CXG P w) P w K Y base N m (By st) f L A l s H E).q (asl R (-N)) (FI st) (rV K eU) q B):Ca P w K Y base (CXG P w) (k+1) f fd O (spV R (rV K eU) (Jq q)):=by
 let#[oc,od,kV,doc,pm,an,L,ct,uz,rfl,lk,tR]:=F.ex;refine SJ lk tR Z (by rintro vs H Q E ⟨v,_,h,_⟩;rw[<-hn,h.1]) ?_;rintro A l s H vs Q E hr ⟨v,S,h2,h3⟩
 let T:∃G,q=!G/\((∃r,G=.rt r)∨∃t,G=.nx t):=by
  unfold Jq at S;split at S
  ·exact#[_,rfl,.inl #[_,rfl]]
  ·exact#[_,rfl,.inr #[_,rfl]]
  ·cases S
 let#[G,T,hf]:=T;let hb:=tK L A l s H E hr hr.units Z.nd _ T;refine#[_,λζ s' σ U D I q=>Da (hb ζ s' σ U D (I.with _) q) (λG s1 z=>?_) λe s1 z=>z.elim,H,_,Vs.start h2,?_]
 ·cases G with
  | next=>let#[j,C,J,z]:=z;exact#[j,C,J.without,z]
  | brk=>let#[j,C,J,z]:=z;exact#[j,C,J.without,z]
  | cont=>let#[j,C,J,z]:=z;exact#[j,C,J.without,z]
  | ret u=>let#[v,j,C,J,r,z]:=z;exact#[v,j,C,J.without,r,z]
 ·rcases hf with⟨r,rfl⟩ | ⟨t,rfl⟩
  ·exact h3
  ·exact λj F' U v' M=>h3 .non U v'.kp (.non)
end
open L2
open L4 (Fw AS eT eP oL oDK oDR N6 QY Kk FS GK Xs lY B4)
section
variable{X:Cx}{A:¬Sl}{e o i:Expr}{p pos:Pos}{α β ρ κ:Type}
theorem mB(l:Z'):Kc (l.map D.int)=!(CH l).map D.int:=by unfold Kc;rw[QY]
theorem l8:Kc ([]:¬D)=![]:=by show (!(CH []).map D.int)=_;ext
theorem qh(l:¬Z')(h:l.all (λr=>not r.isEmpty)):Kc (l.map Um)=!(IW l).map Um:=by
 cases l with
 | nil=>show Kc []=_;rw[l8];unfold IW;ext
 | cons x l=>unfold Kc;rw[show Kw (List.map Um (x :: l))=none from rfl,Kk _ h]
set_option tactic.hygienic true in
theorem qg(l k:¬Z')(h:FS l=!k):Kc (l.map (eT D.int))=!k.map (eT D.int):=by
 unfold FS at h;split at h
 ·rename_i j;cases h;exact qh l j
 ·cases h
theorem sD_P(l:¬YP):Kc (l.map (eP D.int D.int))=!(GK l).map (eP D.int D.int):=by
 rw[<-Xs];let:=qh (l.map λx=>[x.1,x.2]) (HI.mpr λr j=>by grind);rw[Aw]at this;exact this
theorem UQ(j:X.mg "sorted" = none) (m:VE X A e (rO X.K (oL D.int)) pl) (w:↑X.calm) (B:↑(Gl X "sorted")) (C:↑(zSq X e)):VE X A (.Call (.Name "sorted" p) [e] [] pos) (rN X.K (oL D.int)) (pl*>λl=>!CH l):=
 JQ qe j m (λl G h=>by cases h;exact mB l) w B C
theorem Nm(j:X.mg "sorted" = none) (m:VE X A e (rV X.K (eT D.int)) pl) (w:↑X.calm) (B:↑(Gl X "sorted")) (C:↑(zSq X e)):VE X A (.Call (.Name "sorted" p) [e] [] pos) (rN X.K (oL D.int)) (pl*>λl=>!CH l):=
 JQ srcT j m (λl G h=>by cases h;exact mB l) w B C
theorem US(j:X.mg "sorted" = none) (l:VE X A e (rO X.K (oL (eT D.int))) pl) (m:↑X.calm) (w:↑(Gl X "sorted")) (B:↑(zSq X e)):VE X A (.Call (.Name "sorted" p) [e] [] pos) (rN X.K (oL (eT D.int))) (pl.bind FS):=
 JQ qe j l qg m w B
theorem Yu{enc:α->D}{pl:⇑(¬(Int×α))}(j:X.mg "sorted" = none) (m:VE X A e (rO X.K (oDK enc)) pl) (w:↑X.calm) (B:↑(Gl X "sorted")) (C:↑(zSq X e)):VE X A (.Call (.Name "sorted" p) [e] [] pos) (rN X.K (oL D.int)) (pl*>λl=>!CH (l.map (·.1))):=
 JQ srcK j m (λl G h=>by cases h;rw[<-mB,Aw];rfl) w B C
theorem Fd[DecidableEq κ]{ob:¬(κ×β)->Ob}{B:κ->D}{enc:β->D}{C:⇑κ}{Z:AL->Prop}{n:Nat}{j:Pos}{l:¬(κ×β)}{pv:⇑β}{R:Rk ρ}(d:OI ob B enc)(E:X.A.units+1 < Bf)(G:PE X o (DI n))(hi:VE X A i (rV X.K B) C)(H:VE X A e (rV X.K enc) pv)(I:↑(A[n]?=!.g (pa X.K Z (ob l))))(hs:↑(BX e (!.Subscript o i j) pos.line X.env=pure false)) :
  VS X A (.Assign [.Subscript o i j] e pos) R (pv*>λv=>C*>λk=>B4 l k v*>λw=>!.nx w) (λw=>A.set n (.g (pa X.K Z (ob w)))):=λf m=>gJ d E G hi H I hs f (by
 let#[v,J,m]:=AS m;let#[k,L,m]:=AS m;rw[J,L];unfold B4 at m
 grind)
end
open L2
open L4 (Fw AS eT eP oL N6 Op EqN NL Qh Gg)
section
variable{X:Cx}{A:¬Sl}{e a b o i:Expr}{p pos:Pos}{α:Type}{pa pb:⇑Int}{enc:α->D}
theorem qF{op:UC}{g:Int->Int->Bool}(m:OpR X (Bk op) (rI0 λi j=>.bl (g i j)))(B:VE X A a (XP X) pa)(hb:VE X A b (XP X) pb)(C:BV op b=false):VE X A (.Compare a [op] [b] pos) (rV X.K D.bl) (pa*>λx=>pb*>λy=>!g x y):=λv l=>by
 let#[x,E,l]:=AS l;let#[y,G,I]:=AS l;cases I
 exact(TM m (B x E) (hb y G) C).imp λT H Q #[J,F,L,q]=>Eb #[J,F,L,λu w U N O P R S=>by cases R;cases S;exact#[x,y,rfl,rfl,q _ N (O.trans P) (.bl _)]]
theorem a7(j:VE X A a (XP X) pa)(hb:VE X A b (XP X) pb):VE X A (.Compare a [.Lt] [b] pos) (rV X.K D.bl) (pa*>λx=>pb*>λy=>!decide (x < y)):=qF cX j hb (GO _)
theorem jv{x:Str}{id:String}{g:Int->Int->Int}(L:IG X (.builtin id) (λxs H Q=>∃i j,xs=[.int i,.int j]/\Q (.int (g i j)) H))(N:ES x=!.builtin id)(O:X.mg x=none)(P:VE X A a (XP X) pa)(hb:VE X A b (XP X) pb)(R:Gl X x)(S:x≠"__name__") (l:(x==("__debug__" : Str))=false) (E:AG [a,b] X.env=(false,A2 a X.env) :: AG [b] X.env) (m:AG [b] X.env=(false,A2 b X.env) :: AG [] X.env) (B:(Cv pos (AG [b] X.env)).any (·.1)=false) :
  VE X A (.Call (.Name x p) [a,b] [] pos) (XP X) (pa*>λx=>pb*>λy=>!g x y):=λv C=>by
 let#[x,T,C]:=AS C;let#[y,U,Y]:=AS C;cases Y;exact(QN L R O N (Bn (P x T) (Bn (hb y U) Du m) E) S l E B).imp (by rintro σ H Q ⟨G,F,I,q⟩;exact#[G,F,I,λu H1 J Z=>#[G,_,I.grow J,λw H2 k2 r2=>by cases Z;cases r2;exact#[x,y,rfl,q _ H2 (J.trans k2) (.int _)]]])
theorem Sy(m:X.mg "min" = none) (w:VE X A a (XP X) pa) (hb:VE X A b (XP X) pb) (B:↑X.calm) (C:↑(Gl X "min")) (E:↑(AG [a,b] X.env=(false,A2 a X.env) :: AG [b] X.env)) (j:↑(AG [b] X.env=(false,A2 b X.env) :: AG [] X.env)) (l:↑((Cv pos (AG [b] X.env)).any (·.1)=false)) :
  VE X A (.Call (.Name "min" p) [a,b] [] pos) (XP X) (pa*>λx=>pb*>λy=>!(if y < x then y else x)):=jv (Zn B) sW m w hb C ∅ (by rfl) E j l
theorem gU(m:X.mg "max" = none) (w:VE X A a (XP X) pa) (hb:VE X A b (XP X) pb) (B:↑X.calm) (C:↑(Gl X "max")) (E:↑(AG [a,b] X.env=(false,A2 a X.env) :: AG [b] X.env)) (j:↑(AG [b] X.env=(false,A2 b X.env) :: AG [] X.env)) (l:↑((Cv pos (AG [b] X.env)).any (·.1)=false)) :
  VE X A (.Call (.Name "max" p) [a,b] [] pos) (XP X) (pa*>λx=>pb*>λy=>!(if y > x then y else x)):=jv (Zo B) sX m w hb C ∅ (by rfl) E j l
set_option tactic.hygienic true in
theorem Xj(J:VE X A a (rO X.K (oL enc)) pl)(hb:VE X A b (rO X.K (oL enc)) L):VE X A (.BinOp a .Add b pos) (rN X.K (oL enc)) (pl*>λl=>L*>λk=>Gg l k):=λv C=>by
 let#[l,N,C]:=AS C;let#[k,O,B]:=AS C;unfold Gg at B;split at B
 ·rename_i P
  cases B
  refine(X5 nG (J l N) (hb k O)).imp λσ H Q #[R,F,S,q]=>Eb #[R,F,S,λu w H1 H2 E j #[T,U,vs,Y,G] #[b1,Z,ws,g3,I]=>?_]
  refine#[T,b1,vs,ws,U,Z,j _ _ Y,g3,N6 (by rw[<-G.length,<-I.length,AD,AD];exact P),λr m=>q _ _ ((E.trans j).trans (BH m)) #[r,rfl,?_,_,Ap,?_]]
  ·cases e0:H r with
   | none=>rfl
   | some o=>rw[(E.trans j) r o e0]at m;cases m
  ·rw[Bv]
   exact((G.keep (λb M z=>j b _ z) λb M M z=>j b _ z).append I).keep (λb M z=>BH m b _ z) λb M M z=>BH m b _ z
 ·cases B
theorem IV(h:VE X A e (rV X.K D.bl) q)(l:autoParam (∀j,KN e X.env j=(do let v <-j;JD e.pos;F7 [v] (NZ v))) yq2q):VB X A e q:=by
 let:=Pt (g:=id) h truB l;ext
end
open PySem.SeqAt L2
open L4 (Fw AS eT eP oL EqN IE LM)
section
variable{X:Cx}{A:¬Sl}{e a b c i:Expr}{p pos:Pos}{α:Type}{enc:α->D}{qa:⇑α}{ql:⇑(¬α)}
def qt(K:AB)(neg:Bool):R2:=λx y H Q=>∃d ds p j c,y=.ref p/\SqL K H p j/\RD K H d x/\A7 K [] H ds j/\K6 d ds=!c/\Q (.bl (if neg then not c else c)) H
theorem nD(J:X.A.units+64 < Bf):OpR X (Bk .In) (qt X.K false):=by
 intro L s N H x y v u Q I j l h;let#[d,ds,p,O,c,rfl,sq,m,o,w,k]:=h;cases l;let#[B,C,E,_]:=I.list sq;let#[e,G,rfl]:=K5 I (A:=X.A.in1) (by rw[F3];lia) m j o C w;exact in_listAt e E.isList (λz P=>G z (by grind)) #[.bl (B.toArray.any e),H,I,rfl,by ext]
theorem lO[DecidableEq α](o:OpR X (Bk op) (qt X.K neg))(h:EqN 8 enc)(B:VE X A a (rV X.K enc) qa)(hb:VE X A b (rO X.K (oL enc)) ql)(C:BV op b=false):VB X A (.Compare a [op] [b] pos) (qa*>λx=>ql*>λl=>!(if neg then not (decide (x∈l))else decide (x∈l))):=λv j=>by
 let#[x,E,j]:=AS j;let#[l,G,I]:=AS j;cases I
 exact(NE o (B x E) (hb l G) C).imp λU H Q #[J,F,L,q]=>Eb #[J,F,L,λu w Y N O m P #[p,R,vs,S,T]=>#[_,_,p,vs,_,R,.inl (.inl S),m.rd P,T,IE h x l,_,rfl,q N (O.trans m)]]
theorem lR[DecidableEq α](h:EqN 8 enc)(j:X.A.units+64 < Bf)(m:VE X A a (rV X.K enc) qa)(hb:VE X A b (rO X.K (oL enc)) ql)(o:autoParam (BV .In b=false) yq6q):VB X A (.Compare a [.In] [b] pos) (qa*>λx=>ql*>λl=>!decide (x∈l)):=lO (nD j) h m hb o
mutual
theorem qm{K}{H}{r}:∀{d:D} {v:V},DU K [] H d v->DU K r H d v
 | _,_,h=>by
  cases h with
  | non=>exact .non
  | bl b=>exact .bl b
  | int i=>exact .int i
  | str x=>exact .str x
  | tup h q=>exact .tup h (Nx q)
  | fro h q=>exact .fro h (Nx q)
  | ref h=>simp at h
  | exc h q=>exact .exc h q
theorem Nx{K}{H}{r}:∀{d:¬D} {v:¬V},A7 K [] H d v->A7 K r H d v
 | _,_,h=>by
  cases h with
  | nil=>exact .nil
  | cons h q=>exact .cons (qm h) (Nx q)
end
def bx(K:AB)(neg:Bool):R2:=λx y H Q=>∃r S a b c,Ow K r S H/\DU K r H a x/\DU K r H b y/\eqD neg a b S=.ok (.bl c) S/\Q (.bl c) H
set_option tactic.hygienic true in
theorem nE(l:X.A.units+64 < Bf):OpR X (Bk .Eq) (bx X.K false):=by
 intro G s J H x y v u Q I m o h;let#[r,S,a,b,d,w,B,C,j,k]:=h;unfold eqD at j;split at j
 ·rename_i c E
  cases j;exact(Tn I l w B C m o E).1 _ _ _ _ #[.bl c,H,I,rfl,k]
 ·cases j
set_option tactic.hygienic true in
theorem nA(l:X.A.units+64 < Bf):OpR X (Bk .NotEq) (bx X.K true):=by
 intro G s J H x y v u Q I m o h;let#[r,S,a,b,d,w,B,C,j,k]:=h;unfold eqD at j;split at j
 ·rename_i c E
  cases j;exact(Tn I l w B C m o E).2 _ _ _ _ #[.bl (not c),H,I,rfl,k]
 ·cases j
end
end L7
namespace L7
open L2
open L4 (Fw AS eT oL)
section
variable{X:Cx}{A:¬Sl}{e a b:Expr}{p pos:Pos}{α:Type}{enc:α->D}
theorem Xi{lo hi}{p2}{pl}{q r}(h:VE X A e (rV X.K (eT enc)) pl)(hl:VO X A lo q)(O:VO X A hi r):VE X A (.Subscript e (.Slice lo hi none p2) pos) (rV X.K (eT enc)) (pl*>λl=>q*>λu=>r*>λv=>!Ot l u v):=λz m=>by
 let#[l,P,m]:=AS m;let#[u,R,m]:=AS m;let#[v,S,T]:=AS m;cases T
 refine(cL (l5.or l0) (h l P) (hl u R) (O v S)).imp λσ H Q #[B,F,C,k]=>#[B,F,C,λx H1 o U=>#[B,_,C.grow o,λH2 J=>#[B,_,(C.grow o).grow J,λH3 Y=>?_]]]
 let j:=J.trans Y;let E:=U
 cases E with
 | @tup _ a vs G L=>
  let Z:-vs=-l:=by rw[<-L.length,AD]
  let N:=L.keep (λb M z=>j b _ z) λb M M z=>j b _ z
  by_cases w:HT.sIx (-vs) 0 u=0/\HT.sIx (-vs) (-vs) v=-vs
  ·refine .inl #[a,vs,rfl,.inl (.inl (j _ _ G)),w,k _ _ (o.trans j) ?_]
   let:Ot l u v=l:=by
    unfold Ot;rw[Z]at w;rw[w.1,w.2,List.drop_zero,Nat.sub_zero,List.take_length]
   rw[this];exact .tup (j _ _ G) N
  ·exact .inr #[a,vs,rfl,.inl (.inl (j _ _ G)),w,λp I=>k _ _ ((o.trans j).trans (BH I)) (.tup Ap ((jQ N).keep (λb M z=>BH I b _ z) λb M M z=>BH I b _ z))]
theorem Xx{K}{r}{H}:∀{j:¬Bool} {vs:¬V},A7 K r H (j.map D.bl) vs->vs=j.map V.bl
 | [],_,.nil=>rfl
 | _ :: _,_,.cons h t=>by cases h;rw[Xx t];rfl
theorem bG{pl}(j:X.mg "all" = none) (h:VE X A e (rO X.K (oL D.bl)) pl) (m:↑X.calm) (o:↑(Gl X "all")) (w:↑(zSq X e)):VE X A (.Call (.Name "all" p) [e] [] pos) (rV X.K D.bl) (pl*>λl=>!l.all id):=
 Np (Zr m) sf j h (by
  rintro v z H u I Q B ⟨a,C,vs,E,G⟩ k
  cases B;cases Xx G
  exact#[a,v,by rw[C],.inl (.inl (.inl E)),k _ _ .refl (.bl _)]) upV o ∅ (by rfl) w
end
open L2
open L4 (Fw AS eT oL Ld)
section
variable{K:AB}{H H' H0:Hp}{F F' S:AL->Prop}{σ:L2.St}{A:¬Sl}{α β ρ:Type}
theorem VR.hold(h:VR H0 A σ F G H)(k:Kp H H'):VR H0 A σ F G H':=
 #[h.kp.trans k,h.f0,λa q=>let #[o,e]:=h.fh a q;#[o,k a o e],λi s m=>let #[x,l,w]:=h.sl i s m;#[x,l,Sl.mono w #[λI z=>z,k.fr] λa B=>let #[o,j]:=(h.gn i a B).2;by rw[j,k a o j]],λi a q=>let #[l,o,j]:=h.gn i a q;#[l,o,k a o j],h.ds]
theorem St.set_same(j:σ[i]?=!(!y)):σ.set i (!y)=σ:=by
 let#[l,e]:=AI.mp j;rw[<-e];exact K9 l
def rG(P:α->Hp->(AL->Prop)->Hp->V->Prop):Rk α:=λv H x H'=>∃S,(∀b,S b->H b=none/\∃o,H' b=!o)/\∀H0,Kp H0 H->∀j,Fr (λa=>H a=none/\(∃o,H' a=!o)/\Not (S a)) H' j->(∀a,S a->j a=H' a)->P v H0 S j x
def lP(P:α->Hp->V->Prop)(l:¬α)(H:Hp)(y:V):Prop:=∃a vs,y=.ref a/\H a=!.lst vs/\-vs=-l/\∀(i:Nat) v x,l[i]?=!v->vs[i]?=!x->P v H x
def tO(K:AB)(ob:α->Ob):α->Hp->V->Prop:=λv H x=>∃a,x=.ref a/\OB K H a (ob v)
def pn(K:AB)(ob:α->Ob)(l:¬α):Hp->(AL->Prop)->Hp->V->Prop:=λG S H y=>∃a bs,y=.ref a/\H a=!.lst (bs.map V.ref)/\(a :: bs).Nodup/\S=(λb=>b∈a :: bs)/\-bs=-l/\∀(i:Nat) v b,l[i]?=!v->bs[i]?=!b->OB K H b (ob v)
theorem pq(hi:A[i]?=!.g (pn K ob l)):Wk A (A.set i (.q λI H y=>lP (tO K ob) l H y)):=aX hi (by rintro S H0 H y _ ⟨a,bs,w,B,_,_,G,C⟩;exact #[a,_,w,B,by ext,λj v x E m=>by
 rw[Ai]at m
 cases o:bs[j]? with
 | none=>ext
 | some b=>rw[o]at m;cases m;exact#[b,rfl,C j v b E o]])
theorem frz_of(h:∀H',Fr F H H'->∃u,H' a=!.lst u)(l:H a=!.lst vs):F a:=BY λn=>by
 let#[u,j]:=h (upd H a (.own 0)) #[λb m e=>by rw[AQ (λc=>by ext)];exact e,λb o z e=>by rw[AQ (λc=>by ext)];exact e,λb o f e=>by rw[AQ (show b≠a from λc=>n (c▸f))];exact e];rw[Ap]at j;cases j
theorem nZ(m:∀H',Fr F H H'->lP P l H' (.ref a)):(∃vs,SqL K H a vs)/\JOk P l F H (Itl K a):=by
 let#[_,vs,e,j,C,R]:=m H Kp.refl.fr;cases e;let w:=frz_of (λH' f=>let #[_,u,e,g,_]:=m H' f;by cases e;exact#[u,g]) j;refine#[#[vs,.inl (.inl j)],λF' H' fe i=>?_];let o:=fe.fr.fix a _ w j;refine#[λE=>#[vs,.inl (.inl o),by rw[C];exact B6.mp E],λv G=>?_];let#[T,_]:=AI.mp G;let I:vs[i]?=!vs[i]'∅:=AJ _;refine#[#[vs,_,.inl (.inl o),I],λx U J=>?_];let#[rfl,L]:=J;let X:=L vs (.inl (.inl o));refine#[.refl,λN f=>?_]
 let B:=fe.fr.trans f λb z=>.inl (fe.le b z)
 let#[_,O,e,Q,Y,Z]:=m N B;cases e;rw[B.fix a _ w j]at Q
 grind
section
variable{X:Cx}{e e1 o tg:Expr}{p pos vz apos cpos:Pos}
theorem qB(h:PE X e (DI i))(hi:↑(A[i]?=!(.q λI H y=>lP P l H y))):VI X A tg e P (!l):=λI m=>(NG h).imp<|by
 rintro σ H R ⟨H0,F,w,k⟩
 cases m;let#[y,B,j]:=w.at hi;let#[a,_,rfl,_]:=j H Kp.refl.fr
 let C:∀H',Fr (gF F H H) H H'->lP P l H' (.ref a):=λH' f=>j H' #[f.tup,f.frz,λb o z=>f.fix b o (.inl z)]
 let#[E,G]:=nZ C;exact#[_,B,a,rfl,E,k _ H .refl G]
theorem jo{st:B5}{P:α->Hp->(AL->Prop)->Hp->V->Prop}{R:Rk ρ}{p:⇑α}{i:Nat}(h:VEA X A i st (rG P) p):VS X A st R (p*>λv=>!.nx v) (λv=>A.set i (.g (P v))):=λf m=>by
 let#[v,w,B]:=AS m;cases B
 refine(h v w).imp λD σ H #[H0,F,#[G,j],k]=>#[H0,F,#[G,j],λx H' kp #[S,l,C]=>?_]
 let ne:∀b o,H b=!o->Not (S b):=λb o e z=>by ext
 let fe:Fe F H (λb=>gF F H H' b/\Not (S b)) H':=#[λb f=>#[.inl f,let #[o,e]:=j.fh b f;ne b o e],kp.fr];exact k _ _ _ #[_,j.own i (S':=S) fe (λb o e I=>kp b o e) (λb f=>f.1.imp id λz=>z.1) (λb f=>f.1.elim (λz=>let #[o,e]:=j.fh b z;#[o,kp b o e]) λz=>z.2) (λb z=>#[.inr (l b z).1,λq=>q.2 z,(l b z).2]) λE f z=>C H0 j.kp E #[f.tup,f.frz,λa o q=>f.fix a o #[.inr #[q.1,q.2.1],q.2.2]] z] fe
def Wo(l:¬α):⇑(¬¬β):=if -l<=1000000 then !(l.map λG=>[])else none
set_option tactic.hygienic true in
theorem ip(ht:VP g P n A T)(hT:∀v,Ws (T v) (Bj n .u++A))(O:Wo l=!out)(h:tE A (rG (pn K (oL eb))) out σ H Q) :
  Xp n (λσ H R=>∃H0 F,Vs H0 A σ F H/\∀J w,Kp H w->JOk P l (gF F H w) w J->R J w) g (λM H Q=>Q true H) (qR qN) σ H Q:=by
 unfold Wo at O
 split at O <;> cases O
 rename_i hlen;let#[H0,F,#[U,hv0],q]:=h;refine#[H0,F,#[U,hv0],λJ w kp yK p Y=>?_];let Z:=hv0.grow kp
 let p0:Not (gF F H w p):=λz=>by let#[o,e]:=Z.fh p z;ext
 let pg:∀i,Not (U i p):=λi z=>by let#[o,e]:=(Z.gn i p z).2;lia
 let nn:∀b,w b=none->H b=none:=λb e1=>by
  cases e:H b with
  | none=>rfl
  | some o=>rw[kp b o e]at e1;cases e1
 refine#[λi m G H' xs=>m=-l - i/\i<=-l/\∃(pre:L2.St) (F':AL->Prop) (bs:¬AL),G=pre++σ/\-pre=n/\VR H0 (Bj n .u++A) (pre++σ) F' (λi a=>n<=i/\U (i - n) a) H'/\Fe (gF F H w) w F' H'/\Kp w H'/\Not (F' p)/\H' p=!.lst xs/\xs=bs.map V.ref/\-bs=i/\(p :: bs).Nodup/\∀b∈bs,w b=none/\H' b=!.lst [],
  #[_,rfl,Bc _,_,_,[],rfl,by simp,(Z.pre ∅).hold (BH Y),#[λM z=>z,(BH Y).fr],BH Y,p0,Ap,rfl,rfl,by simp,λb hb=>by cases hb],?_]
 rintro i m G H' xs ⟨rfl,hle,pre,F',bs,rfl,hk,hv,fe,kq,np,I,rfl,hbl,vA,hb⟩;refine#[I,?_];let#[j1,j2]:=yK F' H' fe i
 cases N:l[i]? with
 | none=>
  let hn:=B6.mp N;refine .inl #[j1 N,q _ _ (kp.trans kq) #[λb=>b∈p :: bs,λb z=>?_,λH0 M L f z=>#[p,bs,rfl,by ext,vA,rfl,by rw[AD];lia,λj v b e1 e2=>?_]]]
  ·grind
  ·let hm:=Az e2
   rw[Ai]at e1
   cases e3:l[j]? with
   | none=>ext
   | some u=>rw[e3]at e1;cases e1;exact#[[],by ext,.nil]
 | some v=>
  let#[my,tQ]:=AI.mp N;let#[j3,j4]:=j2 v N;refine .inr #[j3,by rw[AD];exact Ld ∅,λx L hy=>?_];let#[B,r2]:=j4 x L hy;let e2:=B _ _ I
  refine ht H0 pre σ _ _ L v x _ hk (hv.grow B) r2 λuB tT hv3=>?_
  symm;rw[qX rfl];refine#[Bc _,λb C=>?_]
  let bp:p≠b:=λc=>by ext
  let n2:Not (gF F' H' L p):=λz=>z.elim np λz=>by ext
  let e3:upd L b (.lst []) p=!.lst (bs.map V.ref):=by rw[AQ bp];exact e2
  let h4:=((hT v).vr hv3).hold (BH (o:=.lst []) C);let up:=h4.upd (u:=.lst (bs.map V.ref++[.ref b])) n2 (λi z=>pg _ z.2) (λuZ q=>by ext) (λob u q=>by ext)
  let nb:b∉bs:=λz=>by rw[B _ _ (hb b z).2]at C;cases C
  let h1b:w b=none:=by
   cases e:w b with
   | none=>rfl
   | some o=>rw[B _ _ (kq b o e)]at C;cases C
  refine#[e3,_,by grind,rfl,my,uB,_,bs++[b],rfl,tT,up.1,(fe.trans (B.fe)).trans (Fe.trans #[λM z=>z,(BH C).fr] up.2),λc o e=>?_,n2,Ap,by simp,by simp[hbl],?_,λc E=>?_]
  ·rw[AQ (λz=>by ext)]
   exact BH C _ _ (B _ _ (kq c o e))
  ·grind
  ·let cp:c≠p:=λz=>by
    ext
   rw[AQ cp]
   rcases Aj.mp E with E | E
   ·exact#[(hb c E).1,by rw[AQ (show c≠b from λz=>nb (z▸E))];exact B _ _ (hb c E).2]
   ·cases Av.mp E;exact#[h1b,Ap]
theorem gr(I:K8 X scope own N')(hi:VI X A w iter P pl)(J:∀B C j m E pn,PG (DD X scope N' B C j m E pn) w g)(L:VP g P (-own) A T)(O:∀v,Ws (T v) (Bj (-own) .u++A))
  (Q:↑X.calm) (hs:autoParam (∀x,B8 iter X.env x=pure x) yq2q) (R:autoParam X.N.Nodup yq5q) (U:↑(X.N[i]?=!y)) (Y:autoParam (Loc X.env.scope y) yq4q) (G:↑(BX (.ListComp (.List [] Z) [#[w,iter,[],0]] scope pos) (!.Name y py) uh.line X.env=pure true)) (hf:autoParam (X.fn y=true∨X.env.scope.names.lookup y=!.local) yq3q):VEA X A i (.Assign [.Name y py] (.ListComp (.List [] Z) [#[w,iter,[],0]] scope pos) uh) (rG (pn X.K (oL eb))) (pl.bind Wo):=λout hv=>by
 let#[l,h1,h2]:=AS hv
 exact(X3 Q G R U Y I (hi l h1) J (λB C s H E pn=>Uu) (λB C s H E pn=>cM Du) hs hf).imp λD σ H h=>ip L O h2 h
def Tv(l:¬¬α)(j:Int)(v:α):⇑(¬¬α):=if 0<=j/\j.toNat < -l/\-l.getD j.toNat [] < 1000000 then !l.set j.toNat (l.getD j.toNat []++[v])else none
set_option tactic.hygienic true in
theorem XW{i:Nat}{enc:α->D}{l:¬¬α}{R:Rk ρ}{pj:⇑Int}{p:⇑α}(ho:PE X o (DI i))(h1:VE X A e1 (XP X) pj)(h:VE X A e (rV X.K enc) p)(hi:↑(A[i]?=!.g (pn X.K (oL enc) l)))(zF:autoParam (LQ e1) yq7q)(J:↑(Bd (.Subscript o e1 vz) "append" X.env (A2 (.Subscript o e1 vz) X.env)=A2 (.Subscript o e1 vz) X.env))
  (O:↑(((Cv cpos (AG [e] X.env)).all (λx=>not x.1)&&(LV cpos (G1 [] X.env)).all (λx=>x.1.isSome)
    &&decide (-[e]+-([]:¬IJ)+(if ([]:¬IJ).isEmpty then 0 else 1) < 30))))
  (L:↑((apos.endLine==cpos.line))) (hs:↑(zSq X e)) (C:↑((Cv cpos (AG [] X.env)).any (·.1)=false)) (hsw:↑(BX (.Call (.Attribute (.Subscript o e1 vz) "append" apos) [e] [] cpos) none pos.line X.env=pure false)) :
  VS X A (.Expr (.Call (.Attribute (.Subscript o e1 vz) "append" apos) [e] [] cpos) pos) R (pj*>λj=>p*>λv=>Tv l j v*>λl'=>!.nx l') (λl'=>A.set i (.g (pn X.K (oL enc) l'))):=λf hf=>by
 let#[j,q1,Q]:=AS hf;let#[v,q2,T]:=AS Q;let#[l',q3,q4]:=AS T
 clear hf Q T
 unfold Tv at q3;split at q3
 rotate_left
 ·cases q3
 rename_i hj;cases q4;cases q3;let#[j0,jl,jr]:=hj;refine(PM (cR JH RI RH N3 (Uw ix_list ho (h1 j q1) zF) (Bn (h v q2) Du hs) J O L hs C) hsw).imp ?_;rintro D σ H ⟨H0,F,⟨G,hs⟩,k⟩;let#[y,g1,g2]:=hs.atG hi
 let#[a,bs,rfl,g3,gn,gS,gl,g4]:=g2 H Kp.refl.fr λM M=>rfl
 let jb:j.toNat < -bs:=by ext
 generalize hb:bs[j.toNat]=b at *
 let eb:bs[j.toNat]?=!b:=by rw[AJ jb,hb]
 let el:l[j.toNat]?=!l.getD j.toNat []:=by rw[B2,AJ jl];rfl
 let mb:=Az eb
 let ab:a≠b:=λc=>(BO.mp gn).1 (c▸mb)
 let Gb:G i b:=by rw[gS];exact AN _ mb
 refine#[_,g1,H0,F,#[G,hs],λy1 N E r1=>?_];cases r1;let#[vs,o1,o2]:=g4 j.toNat _ b el eb;refine#[a,_,j,.ref b,rfl,rfl,.inl (.inl (E _ _ g3)),?_,.inl #[rfl,vs,.inl (.inl (E _ _ o1))],H0,_,#[G,hs.grow E],λz B U r2=>?_]
 ·unfold atI ixN
  ext
 let Y:=(hs.grow E).grow U;let Z:=E.trans U;let b2:=Z _ _ o1;let o3:=o2.keep (λc M z=>Z c _ z) (λc M M z=>Z c _ z);refine#[b,vs,z,rfl,rfl,b2,by rw[<-o3.length,AD];exact Ld jr,?_]
 let kt:∀c xs,B c=!.tup xs->upd B b (.lst (vs++[z])) c=!.tup xs:=λc xs q=>by rw[AQ (λu=>by ext)];exact q
 let kf:∀c ob u,B c=!.frz ob u->upd B b (.lst (vs++[z])) c=!.frz ob u:=λc ob u q=>by rw[AQ (λu=>by ext)];exact q
 let nF:=(Y.gn i b Gb).1
 let ne:∀c,gF (gF F H N) N B c->c≠b:=λc hc u=>nF (u▸hc)
 let fe:Fe (gF (gF F H N) N B) B (gF (gF F H N) N B) (upd B b (.lst (vs++[z]))):=#[λM z=>z,kt,kf,λc o f e=>by rw[AQ (ne c f)];exact e]
 let fin:=Y.own i (S':=G i) (P:=pn X.K (oL enc) (l.set j.toNat (l.getD j.toNat []++[v]))) fe (λc o e q=>by rw[AQ (show c≠b from λu=>q (u▸Gb))];exact e) (λc f=>.inl f) (λc f=>by rw[AQ (ne c f)];exact Y.fh c f) (λc q=>#[.inl q,(Y.gn i c q).1,by
  by_cases u:c=b
  ·rw[u];exact#[_,Ap]
  ·rw[AQ u];exact(Y.gn i c q).2]) λH3 f q=>by
   let S:∀c,c∈a :: bs->H3 c=upd B b (.lst (vs++[z])) c:=λc hc=>q c (by rw[gS];exact hc)
   refine#[a,bs,rfl,by rw[S a (Aa ..),AQ ab];exact Z _ _ g3,gn,gS,by grind,λm u c e1 I=>?_];let mc:=Az I;let Sc:=S c (AN _ mc);rw[Dc]at e1
   by_cases cj:j.toNat=m
   ·subst cj
    rw[qX rfl,qX jl]at e1;rw[eb]at I;cases e1;cases I;refine#[vs++[z],by rw[Sc];exact Ap,?_];rw[Bv];exact((o3.keep kt kf).append (.cons (r2.keep kt kf) .nil)).keep f.tup f.frz
   ·rw[qY cj]at e1
    let cb:c≠b:=λu=>by
     subst u;let#[hm,I]:=AI.mp I;exact cj ((J4 (BO.mp gn).2).mp (hb.trans I.symm))
    let f2:=(hs.grow E |>.grow U |> λM=>(E.fe).fr.trans ((U.fe).fr.trans (fe.fr.trans f (λM z=>z)) λM z=>.inl z) λM z=>.inl z);refine f2.ob ?_ (g4 m u c e1 I);rw[Sc,AQ cb];let#[w,hw]:=(g4 m u c e1 I).at;rw[hw,Z _ _ hw]
 rw[St.set_same g1]at fin;exact k _ _ _ #[_,fin] (E.fe.trans (U.fe.trans fe))
end
end
open L2
open L4 (Fw AS eT eP oL oDP oDR kP kR GK FS)
section
variable{X:Cx}{A:¬Sl}{e:Expr}{p pos:Pos}{β κ:Type}{K:AB}
theorem qf{enc:β->D}{j:κ->¬Key}{m:κ->D}(o:∀k,m k=.tup ((j k).map dB)):Vb K (rO K (λl:¬(κ×β)=>.dT (l.map λx=>(j x.1,enc x.2)))) (λl=>l.map λx=>m x.1):=by rintro v H x E ⟨a,w,vs,B,C⟩;exact#[a,w,λG k=>.inr (.inr #[vs,B,λbs hb=>k _ (by
 let:=VG C hb;rw[Aw]at this
 rwa [show((λx:¬Key×D=>D.tup (x.1.map dB))∘λx:κ×β=>(j x.1,enc x.2))=λx=>m x.1 from funext λx=>(o _).symm]at this)])]
theorem Yt{enc:β->D}{pl:⇑(¬(YP×β))}(j:X.mg "sorted" = none) (m:VE X A e (rO X.K (oDP enc)) pl) (o:↑X.calm) (w:↑(Gl X "sorted")) (B:↑(zSq X e)):VE X A (.Call (.Name "sorted" p) [e] [] pos) (rN X.K (oL (eP D.int D.int))) (pl*>λl=>!GK (l.map (·.1))):=
 JQ (qf λG=>rfl) j m (λl G h=>by cases h;rw[<-sD_P,Aw];rfl) o w B
theorem Mt(h:PE X e (DI i))(hi:↑(A[i]?=!.g (pa X.K Z (ob v)))):VE X A e (rO X.K ob) (!v):=λG j=>h.imp (by
 rintro w H Q ⟨B,F,l,q⟩;cases j;let#[a,m,o,_]:=l.put hi
 exact#[_,m,q _ H .refl #[a,rfl,o]])
theorem S5(h:VE X A e R q)(c:∀v,r=!v->∃u,q=!u/\∀H x H',R u H x H'->S v H x H'):VE X A e S r:=λv j=>by
 let#[u,l,m]:=c v j;exact(h u l).imp (by rintro B H Q ⟨o,F,w,k⟩;exact#[o,F,w,λx H' kp z=>k x H' kp (m H x H' z)])
end
open L2
open L4 (Fw AS eT eP oL oDK oDP oDR oFK DE Ka NP)
section
variable{X:Cx}{A:¬Sl}{e o tg:Expr}{elts:¬Expr}{x1:Nat}{p pos Ο:Pos}{α ρ τ:Type}{K:AB}{H H':Hp}{F:AL->Prop}{enc:α->D}
def VF(X:Cx)(A:¬Sl)(e:Expr)(enc:α->D)(p:⇑(¬α)):Prop:=∀l,p=!l->PE X e (λm H Q=>∃w F,Vs w A m F H/\∀a j,Kp H j->(∀H',Fr (gF F H j) j H'->OB X.K H' a (oL enc l))->Q (.ref a) j)
theorem ap(h:PE X e (DI i))(j:∀m H y,P m H y->∃a,y=.ref a/\OB X.K H a (oL enc l))(hi:↑(A[i]?=!.q P)):VF X A e enc (!l):=λG B=>h.imp<|by
 rintro I H R ⟨m,F,C,k⟩
 cases B;let#[y,E,w]:=C.at hi;let#[a,rfl,J]:=j _ _ _ (w H Kp.refl.fr);refine#[_,E,k a H .refl λH' f=>?_];let#[L,e,N]:=j _ _ _ (w H' #[f.tup,f.frz,λb o z=>f.fix b o (.inl z)])
 ext
theorem gR(h:PE X e (DI i))(hi:↑(A[i]?=!sy X.K (oL enc l))):VF X A e enc (!l):=ap h (by rintro _ _ _ ⟨a,j,_,m⟩;exact#[a,j,m]) hi
theorem gQ(h:PE X e (DI i))(hi:↑(A[i]?=!sz X.K (oL enc l))):VF X A e enc (!l):=ap h (λG G G z=>z) hi
theorem jq(h:VF X A e enc q):VI X A tg e (rd X.K enc) q:=λl m=>(NG (h l m)).imp (by rintro C H R ⟨w,F,B,k⟩;exact#[w,F,B,λa j kp r=>#[a,rfl,(let #[vs,g,_]:=r j Kp.refl.fr;#[vs,.inl (.inl g)]),k _ j kp (Tc r)]])
theorem dF(h:∀H',Fr F H H'->∃vs,sq H' vs/\A7 K [] H' (l.map enc) vs):JOk (rd K (eP D.int enc)) (DE l) F H (Ite sq):=λO H' fe i=>by
 let#[vs,j,m]:=h H' fe.fr
 let E:(DE l)[i]?=(l[i]?).map λr=>((i:Int),r):=by
  unfold DE;rw[Ai,Lq]
  cases l[i]? <;> simp
 refine#[λP=>#[vs,j,by rw[<-m.length,AD];grind],λv w=>?_];rw[E]at w;let#[u,G,rfl]:=C9.mp w;let#[y,B,I]:=m.get (by rw[Ai,G];rfl);refine#[#[vs,y,j,B],?_];rintro x Q ⟨p,R,C,J,L,N⟩;let:=N vs j;rw[B]at this;cases this;subst J L;exact#[BH C,λS f=>f.rd (.tup Ap (.cons (.int _) (.cons ((BH C).rd I) .nil)))]
theorem Xa(m:X.mg "enumerate" = none) (h:VF X A e enc q) (w:↑(Gl X "enumerate")) (hs:↑(AG [e] X.env=[(false,A2 e X.env)])):VI X A (.Tuple elts x1 Ο) (.Call (.Name "enumerate" p) [e] [] pos) (rd X.K (eP D.int enc)) (q*>λl=>!DE l):=λL B=>by
 let#[l,C,E]:=AS B;cases E;exact(iV w m (Bn (h l C) Du hs) hs).imp (by rintro N H R ⟨G,F,hs,k⟩;exact#[G,F,hs,λa j kp r=>#[a,rfl,.inl #[(let #[vs,g,_]:=r j Kp.refl.fr;#[vs,.inl (.inl g)]),k _ j kp (dF λH' f=>let #[vs,I,J]:=r H' f;#[vs,.inl (.inl I),J])]]])
theorem ao(I:X.mg "reversed" = none) (h:VF X A e enc q) (J:↑(Gl X "reversed")) (hs:↑(AG [e] X.env=[(false,A2 e X.env)])):VI X A tg (.Call (.Name "reversed" p) [e] [] pos) (rd X.K enc) (q*>λl=>!l.reverse):=λY j=>by
 let#[l,L,N]:=AS j;cases N
 exact(mR J I (Bn (h l L) Du hs) hs).imp λZ H R #[O,F,hs,k]=>#[O,F,hs,λa C kp r=>by
  let#[vs,P,Q]:=r C Kp.refl.fr;refine#[a,vs,rfl,.inl (.inl P),k _ C kp λF' H' fe i=>?_];let#[m,w,B]:=r H' fe.fr
  let j:-m=-vs:=by rw[<-B.length,Q.length]
  let E:=B.reverse;rw[<-O3]at E;refine#[λhn=>#[m,.inl (.inl w),j,by rw[<-j,<-B.length,AD,<-Md];ext],λv S=>?_];let#[y,G,T]:=E.get (by rw[Ai,S];rfl);refine#[#[m,y,.inl (.inl w),j,G],λx H2 q=>?_];let#[rfl,U]:=q;let:=U m (.inl (.inl w));rw[G]at this;cases this
  exact#[.refl,λH3 f=>f.rd T]]
theorem a9(m:X.mg "list" = none) (h:VE X A e (rO X.K (oL enc)) pl) (w:↑(Gl X "list")) (B:↑(zSq X e)):VE X A (.Call (.Name "list" p) [e] [] pos) (rN X.K (oL enc)) pl:=by
 let:=S6 (g:=some) (S:=rN X.K (oL enc)) (pos:=pos) (p:=p) NT boot_list m h (λv z H u J Q C E k=>by
  cases C;let#[q,rfl,vs,G,I]:=E
  exact#[q,vs,rfl,.inl (.inl (.inl G)),λl j=>k _ _ (BH j) #[l,rfl,j,vs,Ap,I.keep (λb M z=>BH j b _ z) λb M M z=>BH j b _ z]]) upN w ∅ (by rfl) B
 ext
theorem a8(m:X.mg "list" = none) (h:VE X A e (rV X.K (eT enc)) pl) (w:↑(Gl X "list")) (B:↑(zSq X e)):VE X A (.Call (.Name "list" p) [e] [] pos) (rN X.K (oL enc)) pl:=by
 let:=S6 (g:=some) (S:=rN X.K (oL enc)) (pos:=pos) (p:=p) NT boot_list m h (λv z H u J Q C E k=>by
  cases C
  cases E with
  | @tup _ q vs G I=>exact#[q,vs,rfl,.inr (.inl (.inl G)),λl j=>k _ _ (BH j) #[l,rfl,j,vs,Ap,I.keep (λb M z=>BH j b _ z) λb M M z=>BH j b _ z]]) upN w ∅ (by rfl) B
 ext
theorem Xe(j:X.mg "int" = none) (h:VE X A e (rV X.K D.bl) pl) (l:↑(Gl X "int")) (m:↑(zSq X e)):VE X A (.Call (.Name "int" p) [e] [] pos) (XP X) (pl*>λx=>!(if x=true then 1 else 0)):=
 S6 Zq boot_int j h (λv z H u w Q B C k=>by cases B;cases C;exact .inr #[v,rfl,k _ w .refl (.int _)]) upV l ∅ (by rfl) m
def TyR(K:AB)(R:Rk α)(T:String):Prop:=∀v H x H',R v H x H'->NU K H' x (.type T)
theorem tyI:TyR K (rV K D.int) "int":=λv H x H' h=>by cases h;exact .int _
theorem tyP3:TyR K (rV K (L4.eP3 enc eb ec)) "tuple":=λv H x H' h=>by cases h with | tup j _=>exact .tup j
theorem tyL:TyR K (rO K (oL enc)) "list":=by rintro v H x H' ⟨a,h,vs,e,_⟩;subst h;exact .lst e
theorem Xd{T t:String}{y:Str}{q:Pos}{R:Rk α}{pa:⇑α}{r:Bool}(B:TyR X.K R T)(C:∀A b,isB t A=!b->Do X.K (.type A) (.type t)=!b)(E:ES y=!.type t)(G:X.mg "isinstance" = none) (I:X.mg y=none) (h:VE X A e R pa) (hb:autoParam (isB t T=!r) yq8q) (J:↑(Gl X "isinstance")) (j:↑(Gl X y)) (L:↥(y≠"__name__")) (N:↥((y==("__debug__" : Str))=false)) (w:↑(AG [e,.Name y q] X.env=(false,A2 e X.env) :: AG [.Name y q] X.env)) (l:↑(AG [.Name y q] X.env=(false,A2 (.Name y q) X.env) :: AG [] X.env)) (m:↑((Cv pos (AG [.Name y q] X.env)).any (·.1)=false)) :
  VE X A (.Call (.Name "isinstance" p) [e,.Name y q] [] pos) (rV X.K D.bl) (pa*>λM=>!r):=λv O=>by
 let#[x,P,S]:=AS O;cases S;exact(QN (dw (c:=.ty t) λM r=>r) J G sZ (Bn (h x P) (Bn (ig (v:=.ty t) j I E rfl L N) Du l) w) ∅ (by rfl) w m).imp (by rintro Z H Q ⟨U,F,Y,k⟩;exact#[U,F,Y,λu H' kp z=>#[u,_,_,rfl,B _ _ _ _ z,C T _ hb,k _ H' kp (.bl _)]])
theorem dkF:∀(K:AB) (H:Hp) (a:AL) (l:¬(Int×α)) (k:Int) y,OB K H a (oFK enc l)->RD K H (D.int k) y->∃o,K7 H a y o/\(AR l k=none->o=none)/\∀v,AR l k=!v->∃x,o=!x/\RD K H (enc v) x:=by
 rintro K H a l k y ⟨ob,j,w,B⟩ r
 cases r;let#[m,C]:=KVR.val (Dw k) B;rw[Ka NP]at m C;refine#[_,.inl #[j,.inl k,.inr #[ob,w],rfl,rfl],λe=>m (by rw[e];rfl),λv e=>?_]
 grind
theorem bE(B:X.A.units+1 < Bf)(C:VE X A o (rO X.K (oFK enc)) pl)(hi:VE X A i (XP X) E)(hs:autoParam (Zt i) yq7q):VE X A (.Subscript o i pos) (rV X.K enc) (pl*>λl=>E*>λk=>AR l k):=λv j=>by
 let#[l,G,j]:=AS j;let#[k,I,J]:=AS j
 refine(X7 B (C l G) (hi k I) hs).imp λZ H Q #[L,F,hs,q]=>Eb #[L,F,hs,λu w H1 N O m P R=>?_]
 let#[a,rfl,S]:=P;let#[_,T,_,U]:=dkF _ _ _ _ _ _ (m.ob S) R;let#[x,rfl,Y]:=U v J;exact#[a,x,rfl,T,q x N (O.trans m) Y]
theorem lC(h:PE X e (DI i))(hi:↑(A[i]?=!sy X.K (oFK enc l))):VI X A tg e (rd X.K D.int) (!l.map (·.1)):=λS G=>(iW h).imp<|by
 rintro T H R ⟨U,F,I,k⟩
 cases G;let#[y,J,L]:=I.at hi;let#[a,rfl,_,ob,j,w,N]:=L H Kp.refl.fr;refine#[_,J,a,ob,rfl,.inl #[j,w,k _ H .refl λY H' fe i=>?_]];let B:=fe.fr.frz _ _ _ w
 let C:A7 X.K [] H' ((l.map (·.1)).map D.int) (j.map λx=>kV x.1):=by
  let:=(NN N).keep fe.fr.tup fe.fr.frz;rw[Aw]at this;rwa [Aw]
 refine#[λO=>#[B,by rw[<-C.length,AD];exact B6.mp O],λv P=>?_];let#[x,E,Q]:=C.get (by rw[Ai,P];rfl);refine#[#[B,(AI.mp E).1],λy Z m=>?_];let#[rfl,m]:=m;rw[E]at m;cases m;exact#[.refl,λH3 f=>f.rd Q]
set_option tactic.hygienic true in
theorem gM(h:VR I A J F G H)(L:J[i]?=!(!.ref a))(m:∀b,G i b↔b=a)(R:H a=!u)(S:∀xs,u≠.tup xs)(T:∀o z,u≠.frz o z)(N:∀H',Fr F (upd H a (.frz ob u)) H'->P I H' (.ref a)):Vs I (A.set i (.q P)) J F (upd H a (.frz ob u))/\Fe F H F (upd H a (.frz ob u)):=by
 let w:=(h.gn i a ((m a).mpr rfl)).1;let fe:Fe F H F (upd H a (.frz ob u)):=#[λM z=>z,λb xs e=>by rw[AQ (λc=>by ext)];exact e,λb o z e=>by rw[AQ (λc=>by ext)];exact e,λb o f e=>by rw[AQ (show b≠a from λc=>w (c▸f))];exact e];refine#[#[λj=>if j=i then λM=>False else G j,λb o e=>by rw[AQ (show b≠a from λc=>w (c▸h.f0 b o e))];exact h.kp b o e,h.f0,λb f=>by rw[AQ (show b≠a from λc=>w (c▸f))];exact h.fh b f,λj s B=>?_,λj b z=>?_,λj l b C E=>?_],fe]
 ·rcases HV B with⟨rfl,rfl,U⟩ | ⟨c,B⟩
  ·exact#[_,L,_,rfl,N]
  ·let#[x,O,Q]:=h.sl j s B
   rw[qY (CU c)];exact#[x,O,Sl.mono Q fe λb hb=>AQ λz=>c (h.ds i j b ((m b).mpr z) hb)]
 ·split at z
  ·exact z.elim
  ·rename_i c
   rw[AQ λq=>c (h.ds j i b z ((m b).mpr q))];exact h.gn j b z
 ·split at C
  ·exact C.elim
  ·split at E
   ·exact E.elim
   ·exact h.ds j l b C E
theorem p9{st:B5}{R:Rk ρ}{q:⇑(Fw ρ τ)}{B:τ->¬Sl}{l:¬(Int×α)}(i:Nat)(h:VS X (A.set i (sy X.K (oFK enc l))) st R q B)(L:↑(A[i]?=!sw X.K (oDK enc l))):VS X A st R q B:=by
 rintro f N O s Q H D I ⟨j,F,⟨G,m⟩,k⟩
 let#[y,S,T]:=m.atG L
 let#[a,rfl,J,#[C,E,U],_]:=T H Kp.refl.fr λM M=>rfl
 let#[_,_,us,kv,o,es,ep,Y,_]:=(I.hok a _ E)
 let Z:j a=none:=by
  cases e:j a with
  | none=>rfl
  | some u=>exact zX (m.f0 a u e) (m.gn i a (by rw[J])).1
 let#[v1,v2]:=gM m (P:=λj H y=>∃a,y=.ref a/\j a=none/\OB X.K H a (oFK enc l)) S (λb=>by rw[J]) E (λM z=>nomatch z) (λM M z=>nomatch z) λH' f=>#[a,rfl,Z,o,C,f.frz _ _ _ Ap,(Tb (λxs z=>by ext) (λo z q=>by ext) U) |> λz=>Ez.mapP z λM M w=>#[w.1,w.2.keep f.tup f.frz]]
 exact h f N O s Q _ D (I.fz Y E trivial) (M4 #[j,F,F,H,v1,v2,k])
theorem qK(l:¬(Int×α))(H:Hp)(x:V)(H':Hp)(h:rO K (oDK enc) l H x H'):Va K x H' (not l.isEmpty):=by
 let#[a,rfl,vs,j,m]:=h;refine .inr (.inr #[vs,j,?_])
 cases l <;> cases m <;> rfl
end
open L2
open L4 (Fw AS eT eP oL oDK oDP oDR EqN NL IE LM)
section
variable{X:Cx}{A:¬Sl}{e a b o f:Expr}{rest:¬Expr}{p pos apos cpos:Pos}{α β κ:Type}{K:AB}{H H':Hp}{enc:α->D}
theorem WD(h:VE X A a R q):VE X A (.BoolOp op [a] pos) R q:=λv j=>mW (h v j)
theorem Xk(m:VE X A a (rV X.K D.bl) q)(hb:VE X A (.BoolOp .And (b :: rest) pos) (rV X.K D.bl) r):VE X A (.BoolOp .And (a :: b :: rest) pos) (rV X.K D.bl) (q*>λt=>if t=true then r else !false):=λv C=>by
 let#[t,w,B]:=AS C
 cases t with
 | true=>exact(cT (m _ w) (hb v B)).imp (by rintro E H Q ⟨j,F,l,k⟩;exact#[j,F,l,λx H' kp r=>by cases r;exact#[true,rfl,by rw[qX rfl];exact#[j,_,l.grow kp,λy G I J=>k y G (kp.trans I) J]]])
 | false=>cases B;exact(cT (m _ w) (tb:=λM M M=>False) (λM M M M M M z=>z.elim)).imp (by rintro E H Q ⟨j,F,l,k⟩;exact#[j,F,l,λx H' kp r=>by cases r;exact#[false,rfl,by rw[qY An];exact k _ H' kp (.bl _)]])
theorem lL(m:VE X A a (rV X.K D.bl) q)(hb:VE X A (.BoolOp .Or (b :: rest) pos) (rV X.K D.bl) r):VE X A (.BoolOp .Or (a :: b :: rest) pos) (rV X.K D.bl) (q*>λt=>if t=true then !true else r):=λv C=>by
 let#[t,w,B]:=AS C
 cases t with
 | false=>exact(kA (m _ w) (hb v B)).imp (by rintro E H Q ⟨j,F,l,k⟩;exact #[j,F,l,λx H' kp r=>by cases r;exact#[false,rfl,by rw[qY An];exact#[j,_,l.grow kp,λy G I J=>k y G (kp.trans I) J]]])
 | true=>cases B;exact(kA (m _ w) (tb:=λM M M=>False) (λM M M M M M z=>z.elim)).imp (by rintro E H Q ⟨j,F,l,k⟩;exact #[j,F,l,λx H' kp r=>by cases r;exact#[true,rfl,by rw[qX rfl];exact k _ H' kp (.bl _)]])
theorem Xb(j:VE X A a (rV X.K D.bl) q):VE X A (.UnaryOp .Not a pos) (rV X.K D.bl) (q*>λb=>!not b):=λv l=>by
 let#[t,m,w]:=AS l;cases w;exact(mX (j t m)).imp (by rintro E H Q ⟨B,F,C,k⟩;exact#[B,F,C,λx H' kp r=>by cases r;exact#[t,rfl,k _ H' kp (.bl _)]])
section
variable[DecidableEq α]{ql qk:⇑(¬α)}
def EI(enc:α->D):Prop:=∀(K:AB) (H:Hp) (v w:α) (x:V),RD K H (enc v) x->RD K H (enc w) x->v=w
theorem kO{u w:V}{x l:¬α}{neg:Bool}{k:VK}{z:Bool}(h:EqN 8 enc)(R:EI enc)(S:∃p,u=.ref p/\OB K H p (oL enc x))(T:∃p,w=.ref p/\OB K H p (oL enc l))(q:k (.bl (if neg then not (decide (x=l))else decide (x=l))) H):bx K neg u w H k:=by
 let#[I,rfl,O,J,E]:=S;let#[P,rfl,vs,L,N]:=T
 by_cases c:I=P
 ·subst c
  let:x=l:=by
   rw[J]at L;cases L
   let U:-x=-l:=by let:=E.length.trans N.length.symm;rwa [AD,AD]at this
   refine eZ U λi B C=>?_
   let#[y,Y,Z]:=E.get (by rw[Ai,AJ B];rfl);let#[y',Q,e4]:=N.get (by rw[Ai,AJ C];rfl);rw[Y]at Q;cases Q;exact R K H _ _ y Z e4
  subst this;refine#[[I],[oL enc x],.ref 0,.ref 0,_,#[rfl,?_,?_],.ref rfl,.ref rfl,LM h neg rfl rfl,q]
  ·intro i j a B C
   match i,j with
   | 0,0=>rfl
   | _+1,_=>simp at B
   | _,_+1=>simp at C
  ·intro n o a m G
   match n with
   | 0=>cases m;cases G;exact#[O,J,Nx E]
   | _+1=>simp at m
 ·refine#[[I,P],[oL enc x,oL enc l],.ref 0,.ref 1,_,#[rfl,?_,?_],.ref rfl,.ref rfl,LM h neg rfl rfl,q]
  ·intro i j a B C
   match i,j with
   | 0,0=>rfl
   | 1,1=>rfl
   | 0,1=>ext
   | 1,0=>ext
   | _+2,_=>simp at B
   | _,_+2=>simp at C
  ·intro n o a m G
   match n with
   | 0=>cases m;cases G;exact#[O,J,Nx E]
   | 1=>cases m;cases G;exact#[vs,L,Nx N]
   | _+2=>simp at m
theorem gp{op:UC}{neg:Bool}(B:OpR X (Bk op) (bx X.K neg))(h:EqN 8 enc)(C:EI enc)(E:VE X A a (rO X.K (oL enc)) qk)(hb:VE X A b (rO X.K (oL enc)) ql)(G:BV op b=false):VB X A (.Compare a [op] [b] pos) (qk*>λx=>ql*>λl=>!(if neg then not (decide (x=l))else decide (x=l))):=λv j=>by
 let#[x,I,j]:=AS j;let#[l,J,L]:=AS j;cases L
 exact(NE B (E x I) (hb l J) G).imp λZ H Q #[N,F,O,q]=>Eb #[N,F,O,λu w H1 P R m #[S,T,U] Y=>kO (z:=true) h C #[S,T,m.ob U] Y #[_,rfl,q P (R.trans m)]]
theorem gY{op:UC}{neg:Bool}(B:OpR X (Bk op) (bx X.K neg))(h:EqN 8 enc)(C:EI enc)(E:VE X A a (rO X.K (oL enc)) qk)(hb:VE X A b (rO X.K (oL enc)) ql)(G:BV op b=false):VE X A (.Compare a [op] [b] pos) (rV X.K D.bl) (qk*>λx=>ql*>λl=>!(if neg then not (decide (x=l))else decide (x=l))):=λv j=>by
 let#[x,I,j]:=AS j;let#[l,J,L]:=AS j;cases L
 exact(TM B (E x I) (hb l J) G).imp λZ H Q #[N,F,O,q]=>Eb #[N,F,O,λu w H1 P R m #[S,T,U] Y=>kO (z:=true) h C #[S,T,m.ob U] Y (q _ P (R.trans m) (.bl _))]
theorem gj(h:EqN 8 enc)(j:EI enc)(m:X.A.units+64 < Bf)(w:VE X A a (rO X.K (oL enc)) qk)(hb:VE X A b (rO X.K (oL enc)) ql):VB X A (.Compare a [.NotEq] [b] pos) (qk*>λx=>ql*>λl=>!not (decide (x=l))):=gp (nA m) h j w hb (GO _)
theorem Xh(h:EqN 8 enc)(j:EI enc)(m:X.A.units+64 < Bf)(w:VE X A a (rO X.K (oL enc)) qk)(hb:VE X A b (rO X.K (oL enc)) ql):VE X A (.Compare a [.Eq] [b] pos) (rV X.K D.bl) (qk*>λx=>ql*>λl=>!decide (x=l)):=gY (nE m) h j w hb (GO _)
end
theorem K1:EI D.int:=λK H v w x j l=>by cases j;cases l;rfl
theorem di(C:EI enc):EI (eT enc):=λK H v w x E G=>by
 cases E with
 | @tup _ a R I j=>cases G with
  | @tup _ _ vs l m=>
   rw[I]at l;cases l
   let J:-v=-w:=by let:=j.length.trans m.length.symm;rwa [AD,AD]at this
   refine eZ J λi L N=>?_
   let#[y,O,P]:=j.get (by rw[Ai,AJ L];rfl);let#[S,B,Q]:=m.get (by rw[Ai,AJ N];rfl);rw[O]at B;cases B;exact C K H _ _ y P Q
theorem jN(B:EI enc)(C:EI eb):EI (eP enc eb):=λK H v w x E G=>by
 cases E with
 | @tup _ a P I j=>cases G with
  | @tup _ _ vs m l=>
   rw[I]at m;cases m
   cases j with
   | cons J j=>cases j with
    | cons L j=>cases l with
     | cons N l=>cases l with
      | cons O l=>exact Lm (B _ _ _ _ _ J N) (C _ _ _ _ _ L O)
theorem nc{ob:¬(κ×β)->Ob}{l:¬(κ×β)}{a:AL}(B:(∃m,ob l=.dK m)∨∃m,ob l=.dT m)(h:OB K H a (ob l)):IsD H a:=by
 rcases B with⟨m,e⟩ | ⟨m,e⟩
 ·rw[e]at h;let#[j,w,_]:=h;exact .inl #[j,.inl w]
 ·rw[e]at h;let#[j,w,_]:=h;exact .inr #[j,.inl w]
theorem Xf[DecidableEq κ]{ob:¬(κ×β)->Ob}{I:κ->D}{eb:β->D}{pl:⇑(¬(κ×β))}{J:⇑κ}{L:⇑β}(d:OI ob I eb)(O:∀l,(∃m,ob l=.dK m)∨∃m,ob l=.dT m)(P:X.A.units+1 < Bf)(R:VE X A o (rO X.K ob) pl)(S:VE X A e (rV X.K I) J)(T:VE X A f (rV X.K eb) L)(U:autoParam (M2 X o "get" apos e f cpos) yq14q) :
  VE X A (.Call (.Attribute o "get" apos) [e,f] [] cpos) (rV X.K eb) (pl*>λl=>J*>λk=>L*>λz=>!(AR l k).getD z):=λv Y=>by
 let#[l,Z,vO]:=AS Y;let#[k,h2,vQ]:=AS vO;let#[z,h3,h4]:=AS vQ;cases h4
 refine(cQ P (R l Z) (S k h2) (T z h3) U).imp λσ H Q #[j,F,B,q]=>#[j,F,B,λx H1 C #[a,e1,N]=>#[a,e1,nc (O l) N,j,_,B.grow C,λy H2 E r2=>#[j,_,(B.grow C).grow E,λw H3 G r3=>?_]]]
 let#[o',g1,g0,g2]:=d.get _ _ _ _ _ _ ((E.trans G).ob N) (G.rd r2);refine#[o',g1,q _ H3 (C.trans (E.trans G)) ?_]
 cases e:AR l k with
 | none=>rw[g0 e];exact r3
 | some u=>let#[x',rfl,g3]:=g2 u e;exact g3
end
open L2
open L4 (Fw AS eT eP oL oDK oDP oDR)
section
variable{X:Cx}{A:¬Sl}{e o i:Expr}{pos:Pos}{α β κ:Type}
theorem pgn(i:Nat)(j:X.N.Nodup)(hi:↑(X.N[i]?=!x))(l:autoParam (Loc X.env.scope x) yq4q)(m:autoParam (zFn X x) yq3q):PG X (.Name x pos) (Ie i):=iX j hi l m
section
theorem PB(h:VE X A e (XP X) q)(l:autoParam (∀j,KN e X.env j=(do let v <-j;JD e.pos;F7 [v] (NZ v))) yq2q):VB X A e (q*>λv=>!v != 0):=Pt h truI l
theorem gh(h:VE X A e (rV X.K (eT enc)) q)(l:autoParam (∀j,KN e X.env j=(do let v <-j;JD e.pos;F7 [v] (NZ v))) yq2q):VB X A e (q*>λv=>!not v.isEmpty):=Pt h truT l
theorem gi(h:VE X A e (rO X.K (oL enc)) q)(l:autoParam (∀j,KN e X.env j=(do let v <-j;JD e.pos;F7 [v] (NZ v))) yq2q):VB X A e (q*>λv=>!not v.isEmpty):=Pt h truL l
theorem bI(h:VE X A e (rO X.K (oDK enc)) q)(l:autoParam (∀j,KN e X.env j=(do let v <-j;JD e.pos;F7 [v] (NZ v))) yq2q):VB X A e (q*>λv=>!not v.isEmpty):=Pt h qK l
end
theorem vv{x:Str}{enc:α->D}{v:α}(i:Nat)(j:↑(X.N[i]?=!x))(l:autoParam (Vis X.env.scope x) yq13q)(m:↥((x==("__debug__" : Str))=false)) (w:↥((x==("__classdict__" : Str))=false)) (hi:↑(A[i]?=!sv X.K (enc v))):VE X A (.Name x pos) (rV X.K enc) (!v):=au (pv i j l m w) hi
theorem Ce{β:Type}{es:¬Expr}{enc:α->D}{pa:⇑α}{j:⇑β}{l:β->¬(Hp->V->Prop)}(m:VE X A e (rV X.K enc) pa)(hb:VA X A es j l)(hs:↑(zSp X e es)):VA X A (e :: es) (pa*>λx=>j*>λy=>!(x,y)) (λz=>(λH u=>RD X.K H (enc z.1) u) :: l z.2):=Ct m arV hb hs
theorem DQ{ρ j:Type}{st:B5}{R:Rk ρ}{p:⇑(L4.Fw ρ j)}{B C:j->¬Sl}(h:VS X A st R p B)(w:∀s,Wk (B s) (C s)):VS X A st R (L4.BQ (λs=>s) p) C:=GJ h w
abbrev aV(K:AB)(d:D):Hp->V->Prop:=λH y=>RD K H d y
abbrev aO(K:AB)(o:Ob):Hp->V->Prop:=λH y=>∃a,y=.ref a/\OB K H a o
theorem C3(h:VE X A e R q)(j:↑(q=q')):VE X A e R q':=j▸h
theorem lQ[DecidableEq α]{enc:α->D}{a b:Expr}{j:⇑α}{q:⇑(α×α)}(h:L4.EqN 8 enc)(m:X.A.units+64 < Bf)(w:VE X A a (rV X.K enc) j)(hb:VE X A b (rV X.K (eP enc enc)) q)(B:autoParam (BV .In b=false) yq6q):VB X A (.Compare a [.In] [b] pos) (j*>λx=>q*>λy=>!decide (x∈[y.1,y.2])):=UY (kB m) (λx l z q=>by cases q;exact Wz h false x [l.1,l.2]) w hb B
section
variable[DecidableEq κ]{ob:¬(κ×β)->Ob}{ek:κ->D}{eb:β->D}{pl:⇑(¬(κ×β))}{pk:⇑κ}
theorem some_of{l:¬(κ×β)}{k:κ}{K:AB}{H:Hp}{o':⇑V}(j:AR l k=none->o'=none)(m:∀v,AR l k=!v->∃x,o'=!x/\RD K H (eb v) x):o'.isSome=(AR l k).isSome:=by
 cases e:AR l k with
 | none=>rw[j e];rfl
 | some v=>let#[x,rfl,_]:=m v e;rfl
theorem gZ(d:OI ob ek eb)(B:X.A.units+1 < Bf)(hi:VE X A i (rV X.K ek) pk)(C:VE X A o (rO X.K ob) pl)(E:autoParam (BV .NotIn o=false) yq6q):VE X A (.Compare i [.NotIn] [o] pos) (rV X.K D.bl) (pk*>λk=>pl*>λl=>!not (AR l k).isSome):=λv j=>by
 let#[k,G,j]:=AS j;let#[l,I,J]:=AS j;cases J
 refine(md (SA B (hi k G) (C l I)) E).imp λσ H Q #[L,F,N,q]=>Eb #[L,F,N,λu w H1 O P m R S=>?_]
 let#[a,rfl,T]:=S;let#[U,Y,Z,g2]:=d.get _ _ _ _ _ _ T (m.rd R);exact#[a,U,rfl,Y,by rw[some_of Z g2];exact q _ O (P.trans m) (.bl _)]
end
end
end L7
namespace L4
open L2
section
variable{κ α:Type}[DecidableEq κ]
set_option tactic.hygienic true in
theorem CN(l:¬(κ×α))(k:κ)(v:α)(k':κ):AR (Cz l k v) k'=if k'=k then !v else AR l k':=by
 let j:∀l:¬(κ×α),AR (l.map λm=>if m.1=k then(m.1,v)else m) k'=if k'=k then(AR l k').map (λG=>v)else AR l k':=by
  intro l
  induction l with
  | nil=>unfold AR;simp
  | cons x l o=>
   unfold AR at o ⊢
   grind
 unfold Cz;split
 ·rename_i h
  rw[j]
  by_cases c:k'=k
  ·rw[qX c,qX c]
   subst c
   let:(AR l k').isSome:=by
    unfold AR;rw[Et,aL];let#[x,w,A]:=HH.mp h;exact#[x,w,A]
   let#[b,hb]:=CF.mp this;rw[hb];rfl
  ext
 ·rename_i h
  unfold AR
  grind
theorem GP(l:¬(κ×α))(k:κ)(v:α):(Cz l k v).map (·.1)=if k∈l.map (·.1)then l.map (·.1)else l.map (·.1)++[k]:=by
 let m:(l.any λo=>decide (o.1=k))=true↔k∈l.map (·.1):=by
  rw[HH,Ay];exact#[by rintro⟨x,j,e⟩;exact#[x,j,of_decide_eq_true e],by rintro⟨x,j,e⟩;exact#[x,j,wX e]]
 unfold Cz
 by_cases c:k∈l.map (·.1)
 ·rw[qX c,qX (m.mpr c),Aw]
  refine B0 λx G=>?_
  show(if x.1=k then(x.1,v)else x).1=x.1
  split <;> rfl
 ext
theorem C6(l:¬(κ×α))(k:κ):(AR l k).isSome=true↔k∈l.map (·.1):=by
 unfold AR
 ext
end
def hb(bits x:Int):Bool:=BE (bits / 2 ^ x.toNat) 1 != 0
abbrev HL:=¬YP
abbrev QL:=¬(Int×Bool)
def Od(st:HL->Int->QL->⇑(Bool×HL×QL))(g:Int):Z'->HL->QL->⇑(Bool×HL×QL)
 | [],H,Q=>!(false,H,Q)
 | x :: r,H,Q=>if (AR Q x).isSome then Od st g r H Q else(B4 Q x true).bind λj=>AR H x*>λl=>st H l j*>λz=>if z.1 then(B4 z.2.1 x g).bind λm=>!(true,m,z.2.2)else Od st g r z.2.1 z.2.2
def G6(T:Int->Z')(bits:Int):Nat->HL->Int->QL->⇑(Bool×HL×QL)
 | 0,_,_,_=>none
 | n+1,H,g,Q=>match((T g).filter λx=>hb bits x&&not (AR Q x).isSome).find? (λx=>not (AR H x).isSome)with
  | some x=>B4 H x g*>λj=>!(true,j,Q)
  | none=>Od (G6 T bits n) g ((T g).filter λx=>hb bits x&&not (AR Q x).isSome) H Q
section
abbrev w0(T:Int->Z')(bits g:Int):Z':=(T g).filter (hb bits)
structure KOk{α:Type}(U:Z')(l:¬(Int×α)):Prop where
 nd:(l.map (·.1)).Nodup
 sub:∀x∈l.map (·.1),x∈U
theorem KOk.len{j:Type}{l:¬(Int×j)}(h:KOk U l):-l<=-U:=by
 let:=Gz h.nd h.sub;ext
theorem KOk.put{m:Type}{l:¬(Int×m)}(h:KOk U l){x:Int}(w:x∈U)(v:m):KOk U (Cz l x v):=by
 by_cases c:x∈l.map (·.1)
 ·exact#[by rw[GP,qX c];exact h.nd,by rw[GP,qX c];exact h.sub]
 ·refine#[?_,?_]
  ·rw[GP,qY c]
   unfold IR;rw[A6];exact#[h.nd,by simp,λa A b o z=>c (by grind)]
  ·rw[GP,qY c]
   intro y j
   rcases Aj.mp j with j | j
   ·exact h.sub y j
   ext
theorem KOk.more{j:Type}{l:¬(Int×j)}{x:Int}(c:(AR l x).isSome=false)(v:j):-Cz l x v=-l+1:=by
 let m:x∉l.map (·.1):=λz=>by rw[(C6 l x).mpr z]at c;cases c
 let:=congrArg Dp (GP l x v);rw[qY m,AD,AT,AD]at this;exact this
def MOn(T:Int->Z')(bits:Int)(P:Int->Prop)(H:HL):Prop:=(∀x,P x->∀a,AR H x=!a->x∈w0 T bits a)/\∀x y a,P x->P y->AR H x=!a->AR H y=!a->x=y
abbrev sn(Q:QL)(x:Int):Prop:=(AR Q x).isSome=true
def Good(T:Int->Z')(bits:Int)(H:HL)(g:Int)(Q:QL)(H':HL):Prop:=
 (∀x,sn Q x->AR H' x=AR H x)/\(MOn T bits (λx=>Not (sn Q x)) H->(∀x,Not (sn Q x)->AR H x≠!g)->MOn T bits (λx=>Not (sn Q x)) H'/\∀a,(∃x,Not (sn Q x)/\AR H' x=!a)↔a=g∨∃x,Not (sn Q x)/\AR H x=!a)
def Clo(T:Int->Z')(bits:Int)(H:HL)(Q j:QL):Prop:=∀x,sn j x->sn Q x∨∃a,AR H x=!a/\∀y∈w0 T bits a,sn j y
structure sH(T:Int->Z')(bits:Int)(U:Z')(Gd:Int->Prop)(H:HL)(g:Int)(Q:QL)(z:Bool×HL×QL):Prop where
 h1:KOk U z.2.1
 h2:KOk U z.2.2
 h3:∀x a,AR z.2.1 x=!a->Gd a
 h4:∀x,sn Q x->sn z.2.2 x
 h5:z.1=false->z.2.1=H/\(∀x∈w0 T bits g,sn z.2.2 x)/\Clo T bits H Q z.2.2
 h6:z.1->Good T bits H g Q z.2.1
theorem TF{j:Type}{l:¬(Int×j)}(h:KOk U l)(m:-U < 1000000)(x:Int)(v:j):B4 l x v=!Cz l x v:=qX (Il h.len m)
theorem Iq:sn (Cz Q x true) y↔y=x∨sn Q y:=by
 unfold sn;rw[CN]
 grind
theorem Ui(hT:∀g,Gd g->∀x∈T g,x∈U)(hU:-U < 1000000):∀(n:Nat) (H:HL) (g:Int) (Q:QL),KOk U H->KOk U Q->(∀x a,AR H x=!a->Gd a)->Gd g->-U < n+-Q->Ok (G6 T bits n H g Q) (sH T bits U Gd H g Q):=by
 intro n
 induction n with
 | zero=>intro H g Q hH hQ hG hg hn;exact zX hQ.len (by ext)
 | succ n ih=>
  intro H g Q hH hQ hG hg hn;unfold G6
  let wm:∀x,x∈(T g).filter (λx=>hb bits x&&not (AR Q x).isSome)↔x∈w0 T bits g/\Not (sn Q x):=by
   intro x;unfold w0 sn;rw[BA,BA]
   cases AR Q x <;> simp
  generalize (T g).filter (λx=>hb bits x&&not (AR Q x).isSome)=w at wm
  let wU:∀x∈w,x∈U:=λx N=>hT g hg x (BA.mp ((wm x).mp N).1).1
  cases hf:w.find? (λx=>not (AR H x).isSome)with
  | some x=>
   let N:=Se hf
   let yj:AR H x=none:=by
    let:=fL hf
    cases q:AR H x with
    | none=>rfl
    | some a=>ext
   let#[x1,R]:=(wm x).mp N;show Ok ((B4 H x g).bind _) _;rw[TF hH hU];refine .pure #[hH.put (wU x N) g,hQ,λy a j=>?_,λM h=>h,λz=>(by cases z),λM=>#[λy j=>?_,λm ng=>#[#[λy j a e=>?_,λy z a j L e1 J=>?_],λa=>#[?_,?_]]]]
   ·rw[show AR (true,Cz H x g,Q).2.1 y=if y=x then !g else AR H y from CN _ _ _ _]at j
    grind
   ·rw[CN,qY λc:y=x=>R ∅]
   ·rw[show AR (true,Cz H x g,Q).2.1 y=if y=x then !g else AR H y from CN _ _ _ _]at e
    split at e
    ·lia
    ·exact m.1 y j a e
   ·rw[show AR (true,Cz H x g,Q).2.1 y=if y=x then !g else AR H y from CN _ _ _ _]at e1
    rw[show AR (true,Cz H x g,Q).2.1 z=if z=x then !g else AR H z from CN _ _ _ _]at J;split at e1
    ·ext
    ·split at J
     ·ext
     ·exact m.2 y z a j L e1 J
   ·rintro⟨y,j,e⟩
    rw[show AR (true,Cz H x g,Q).2.1 y=if y=x then !g else AR H y from CN _ _ _ _]at e;split at e
    ·ext
    ·exact .inr #[y,j,e]
   ·rintro(rfl | ⟨y,j,e⟩)
    ·exact#[x,R,by show AR (Cz H x a) x=_;rw[CN,qX rfl]]
    ·refine#[y,j,?_]
     rw[CN,qY λc=>by ext];exact e
  | none=>
   let held:∀x∈w,∃a,AR H x=!a:=by
    intro x N;let:=Z9.mp hf x N
    cases q:AR H x with
    | none=>ext
    | some a=>ext
   let key:∀(r:Z') (B:QL),(∀x∈r,x∈w)->KOk U B->(∀x,sn Q x->sn B x)->-Q<=-B->Clo T bits H Q B->(∀x∈w,x∈r∨sn B x)->Ok (Od (G6 T bits n) g r H B) (sH T bits U Gd H g Q):=by
    intro r
    induction r with
    | nil=>
     intro B _ xX S hl hc hw;refine .pure #[hH,xX,hG,S,λM=>#[rfl,λx N=>?_,hc],λz=>(by cases z)]
     grind
    | cons x r ih2=>
     intro B hr xX S hl hc hw;unfold Od
     by_cases c:(AR B x).isSome=true
     ·rw[qX c]
      refine ih2 B (λy j=>hr y (AN _ j)) xX S hl hc λy j=>?_
      grind
     ·rw[qY c,TF xX hU]
      let zG:=hr x Aa;let#[x1,R]:=(wm x).mp zG;let#[a,O]:=held x zG;let hQ1:=xX.put (wU x zG) true;let nR:=KOk.more (by cases q:(AR B x).isSome;rfl;ext) true;let#[z,ez,L]:=ih H a (Cz B x true) hH hQ1 hG (hG x a O) ∅;rw[O];show Ok ((G6 T bits n H a (Cz B x true)).bind _) _;rw[ez];show Ok (if z.1 then _ else _) _
      cases hb':z.1 with
      | true=>
       rw[qX rfl,TF L.h1 hU];let#[g1,g2]:=L.h6 hb';refine .pure #[L.h1.put (wU x zG) g,L.h2,λy b j=>?_,λy j=>L.h4 y (Iq.mpr (.inr (S y j))),λq=>(by cases q),λM=>#[λy j=>?_,λm ng=>?_]]
       ·rw[show AR (true,Cz z.2.1 x g,z.2.2).2.1 y=if y=x then !g else AR z.2.1 y from CN _ _ _ _]at j
        split at j
        ·ext
        ·exact L.h3 y b j
       ·rw[CN,qY λq:y=x=>R ∅]
        exact g1 y (Iq.mpr (.inr (S y j)))
       ·let C:∀y,Not (sn (Cz B x true) y)->Not (sn Q y)/\y≠x/\Not (sn B y):=λy j=>#[λq=>j (Iq.mpr (.inr (S y q))),λq=>j (Iq.mpr (.inl q)),λq=>j (Iq.mpr (.inr q))]
        let#[m1,X]:=g2 #[λy j b e=>m.1 y (C y j).1 b e,λy l b j E e A=>m.2 y l b (C y j).1 (C l E).1 e A] λy j e=>(C y j).2.1 (m.2 y x a (C y j).1 R e O)
        let o:∀y,y=x∨(y≠x/\AR z.2.1 y=AR H y/\sn B y)∨Not (sn (Cz B x true) y):=λy=>by
         by_cases q:y=x
         ·exact .inl q
         ·by_cases Y:sn B y
          ·exact .inr (.inl #[q,g1 y (Iq.mpr (.inr Y)),Y])
          ·exact .inr (.inr λq3=>(Iq.mp q3).elim q Y)
        let G:∀y,y≠x->AR (Cz z.2.1 x g) y=AR z.2.1 y:=λy q=>by rw[CN,qY q]
        let η:AR (Cz z.2.1 x g) x=!g:=by rw[CN,qX rfl]
        refine#[#[λy j b e=>?_,λy l b j E e A=>?_],λb=>#[?_,?_]]
        ·rcases o y with rfl | ⟨q,Z,Y⟩ | q
         ·lia
         ·rw[G y q,Z]at e;exact m.1 y j b e
         ·rw[G y (C y q).2.1]at e;exact m1.1 y q b e
        ·rcases o y with rfl | ⟨q,Z,Y⟩ | q
         ·rw[η]at e
          cases e
          rcases o l with rfl | ⟨p,p1,P⟩ | p
          ·rfl
          ·rw[G l p,p1]at A;exact zX A (ng l E)
          ·rw[G l (C l p).2.1]at A
           rcases(X g).mp #[l,p,A]with rfl | ⟨I,P,J⟩
           ·exact zX O (ng y j)
           ·exact zX J (ng I (C I P).1)
         ·rw[G y q,Z]at e
          rcases o l with rfl | ⟨p,p1,P⟩ | p
          ·ext
          ·rw[G l p,p1]at A;exact m.2 y l b j E e A
          ·rw[G l (C l p).2.1]at A
           rcases(X b).mp #[l,p,A]with rfl | ⟨I,P,J⟩
           ·exact zX (m.2 y x b j R e O) q
           ·let:=m.2 y I b j (C I P).1 e J
            grind
         ·rw[G y (C y q).2.1]at e
          rcases o l with rfl | ⟨p,p1,P⟩ | p
          ·rw[η]at A
           cases A
           rcases(X g).mp #[y,q,e]with rfl | ⟨I,P,J⟩
           ·exact zX O (ng l E)
           ·exact zX J (ng I (C I P).1)
          ·rw[G l p,p1]at A
           rcases(X b).mp #[y,q,e]with rfl | ⟨I,p3,J⟩
           ·exact zX (m.2 l x b E R A O) p
           ·let:=m.2 l I b E (C I p3).1 A J
            grind
          ·rw[G l (C l p).2.1]at A
           exact m1.2 y l b q p e A
        ·rintro⟨y,j,e⟩
         rcases o y with rfl | ⟨q,Z,Y⟩ | q
         ·ext
         ·rw[G y q,Z]at e;exact .inr #[y,j,e]
         ·rw[G y (C y q).2.1]at e
          rcases(X b).mp #[y,q,e]with rfl | ⟨I,P,J⟩
          ·exact .inr #[x,R,O]
          ·exact .inr #[I,(C I P).1,J]
        ·rintro(rfl | ⟨y,j,e⟩)
         ·exact#[x,R,η]
         ·rcases o y with rfl | ⟨q,Z,Y⟩ | q
          ·rw[O]at e
           cases e;let#[l,p,A]:=(X a).mpr (.inl rfl);exact#[l,(C l p).1,by rw[G l (C l p).2.1];exact A]
          ·exact#[y,j,by rw[G y q,Z];exact e]
          ·let#[l,p,A]:=(X b).mpr (.inr #[y,q,e])
           exact#[l,(C l p).1,by rw[G l (C l p).2.1];exact A]
      | false=>
       rw[qY An];let#[f1,f2,f3]:=L.h5 hb';rw[f1]
       let up:∀y,sn B y->sn z.2.2 y:=λy j=>L.h4 y (Iq.mpr (.inr j))
       refine ih2 z.2.2 (λy j=>hr y (AN _ j)) L.h2 (λy j=>up y (S y j)) ?_ (λy j=>?_) λy j=>?_
       ·let h1:∀k∈B.map (·.1),k∈z.2.2.map (·.1):=λk hk=>(C6 _ _).mp (up k ((C6 _ _).mpr hk))
        let:=Gz xX.nd h1;rw[AD,AD]at this
        lia
       ·rcases f3 y j with h | h
        ·rcases Iq.mp h with rfl | h
         ·exact .inr #[a,O,f2]
         ·rcases hc y h with h | ⟨b,e,k⟩
          ·exact .inl h
          ·exact .inr #[b,e,λl E=>up l (k l E)]
        ·exact .inr h
       ·rcases hw y j with h | h
        ·rcases Ak.mp h with rfl | h
         ·exact .inr (L.h4 _ (Iq.mpr (.inl rfl)))
         ·exact .inl h
        ·exact .inr (up y h)
   exact key w Q (λM h=>h) hQ (λM h=>h) (AM _) (λx N=>.inl N) λx N=>.inl N
end
def OR(bits:Int):Z'->HL->⇑HL
 | [],H=>!H
 | g :: r,H=>if hb bits g then(B4 H g g).bind λj=>OR bits r j else OR bits r H
def OY(T:Int->Z')(bits:Int)(n:Nat):Z'->HL->⇑Bool
 | [],_=>!true
 | g :: r,H=>if hb bits g then OY T bits n r H else(G6 T bits n H g []).bind λz=>if z.1 then OY T bits n r z.2.1 else !false
def Qb(T:Int->Z')(bits:Int)(n:Nat)(j:Z'):⇑Bool:=OR bits j []*>λH=>OY T bits n j H
def Sdr(T:Int->Z')(bits:Int)(j:Z'):Prop:=∃f:Int->Int,(∀g∈j,f g∈w0 T bits g)/\∀a∈j,∀b∈j,f a=f b->a=b
section
variable{T:Int->Z'}{bits:Int}{U:Z'}{Gd:Int->Prop}
theorem Y4(m:-U < 1000000):∀(j:Z') (H:HL),(∀g∈j,g∈U)->KOk U H->Ok (OR bits j H) λH'=>KOk U H'/\∀x,AR H' x=if x∈j/\hb bits x then !x else AR H x:=by
 intro j
 induction j with
 | nil=>intro H _ h;exact .pure #[h,λx=>by rfl]
 | cons g j o=>
  intro H l h;unfold OR
  cases c:hb bits g with
  | true=>
   rw[qX rfl,TF h m]
   refine(o (Cz H g g) (λy w=>l y (AN _ w)) (h.put (l g Aa) g)).imp λH' #[A,B]=>#[A,λx=>?_]
   rw[B x,CN]
   grind
  | false=>
   grind
theorem ci{j:Type}:KOk U ([]:¬(Int×j)):=#[IQ,λG h=>(nomatch h)]
theorem ZC(hT:∀g,Gd g->∀x∈T g,x∈U)(hU:-U < 1000000)(hn:-U < n)(hg:∀g∈gs,Gd g)(vA:gs.Nodup):∀(r pre:Z') (H:HL),gs=pre++r->KOk U H->(∀x a,AR H x=!a->Gd a)->MOn T bits (λM=>True) H->(∀a,(∃x,AR H x=!a)↔a∈gs/\(a∈pre∨hb bits a=true))->Ok (OY T bits n r H) λb=>b=true↔Sdr T bits gs:=by
 intro r
 induction r with
 | nil=>
  intro pre H e L N B o;rw[BP]at e;subst e;refine .pure #[λM=>?_,λM=>rfl]
  let E:∀a:Int,∃x:Int,a∈gs->AR H x=!a:=λa=>by
   by_cases c:a∈gs
   ·let#[x,j]:=(o a).mpr #[c,.inl c]
    exact#[x,λM=>j]
   ·exact#[0,λz=>zX z c]
  refine#[λa=>GZ (E a),λa P=>B.1 _ trivial a (Jg (E a) P),λa P b w e=>?_]
  grind
 | cons g r Q=>
  intro pre H e L N B o
  let J:g∈gs:=by rw[e];simp
  let hgp:g∉pre:=λz=>by
   grind
  unfold OY
  cases c:hb bits g with
  | true=>
   rw[qX rfl]
   refine Q (pre++[g]) H (by rw[e];simp) L N B λa=>?_
   rw[o a]
   grind
  | false=>
   rw[qY An];let#[z,ez,G]:=Ui hT hU n H g [] L ci N (hg g J) (by simpa using hn);rw[ez];show Ok (if z.1 then _ else _) _
   let no:∀x,Not (sn ([]:QL) x):=λx h=>by unfold sn at h;cases h
   let R:∀x,AR H x≠!g:=λx q=>by
    grind
   cases w:z.1 with
   | true=>
    rw[qX rfl];obtain⟨-,g2⟩:=G.h6 w
    let#[S,Y]:=g2 #[λx M a q=>B.1 x trivial a q,λx y a M M q I=>B.2 x y a trivial trivial q I] λx M=>R x
    refine Q (pre++[g]) z.2.1 (by rw[e];simp) G.h1 G.h3 #[λx M a q=>S.1 x (no x) a q,λx y a M M q I=>S.2 x y a (no x) (no y) q I] λa=>?_
    constructor
    ·rintro⟨x,j⟩
     rcases(Y a).mp #[x,no x,j]with rfl | ⟨y,_,A⟩
     ·exact#[J,.inl ∅]
     grind
    ·rintro⟨Z,m⟩
     let:a=g∨∃x,Not (sn ([]:QL) x)/\AR H x=!a:=by
      rcases m with m | m
      ·rcases Aj.mp m with m | m
       ·let#[x,j]:=(o a).mpr #[Z,.inl m]
        exact .inr #[x,no x,j]
       ·exact .inl (Av.mp m)
      ·let#[x,j]:=(o a).mpr #[Z,.inr m]
       exact .inr #[x,no x,j]
     let#[x,_,j]:=(Y a).mpr this
     grind
   | false=>
    rw[qY An];let#[f1,f2,f3]:=G.h5 w;refine .pure #[λq=>(by cases q),?_];rintro⟨f,fw,fi⟩
    exfalso
    let X:=z.2.2.map (·.1)
    let hold:∀x∈z.2.2.map (·.1),∃a,AR H x=!a/\∀y∈w0 T bits a,sn z.2.2 y:=λx j=>by
     rcases f3 x ((C6 _ _).mpr j)with h | h
     ·exact zX h (no x)
     ·exact h
    let E:∀x:Int,∃a:Int,x∈z.2.2.map (·.1)->AR H x=!a/\∀y∈w0 T bits a,sn z.2.2 y:=λx=>by
     by_cases q:x∈z.2.2.map (·.1)
     ·let#[a,h]:=hold x q
      exact#[a,λM=>h]
     ·exact#[0,λI=>zX I q]
    let hc:=λx=>Jg (E x)
    generalize hh:(λx=>GZ (E x))=h at hc
    let C:∀x∈z.2.2.map (·.1),AR H x=!h x/\∀y∈w0 T bits (h x),sn z.2.2 y:=λx j=>by rw[<-hh];exact hc x j
    let nd:(f g :: (z.2.2.map (·.1)).map λx=>f (h x)).Nodup:=by
     rw[BO]
     let l:∀x∈z.2.2.map (·.1),h x∈gs:=λx j=>((o (h x)).mp #[x,(C x j).1]).1
     refine#[λq=>?_,?_]
     ·let#[x,j,O]:=Ay.mp q
      let:=fi (h x) (l x j) g J O;exact R x (by rw[(C x j).1,this])
     ·unfold IR
      rw[BL]
      refine G.h2.nd.imp_of_mem λ{x y} j A ne O=>ne ?_
      let:=fi (h x) (l x j) (h y) (l y A) O;exact B.2 x y (h x) trivial trivial (C x j).1 (by rw[this];exact(C y A).1)
    let sub:∀y∈(f g :: (z.2.2.map (·.1)).map λx=>f (h x)),y∈z.2.2.map (·.1):=by
     intro y A
     rcases Ak.mp A with rfl | A
     ·exact(C6 _ _).mp (f2 _ (fw g J))
     ·let#[x,j,rfl]:=Ay.mp A
      exact(C6 _ _).mp ((C x j).2 _ (fw _ ((o (h x)).mp #[x,(C x j).1]).1))
    let:=Gz nd sub;rw[Au,AD]at this;lia
set_option tactic.hygienic true in
theorem Zc(w:∀g,Gd g->∀x∈T g,x∈U)(A:-U < 1000000)(B:-U < n)(j:∀g∈gs,Gd g/\g∈T g)(C:gs.Nodup):Ok (Qb T bits n gs) λb=>b=true↔Sdr T bits gs:=by
 unfold Qb
 refine(Y4 A gs [] (λg h=>w g (j g h).1 g (j g h).2) ci).bind λH #[E,G]=>?_
 let l:∀x a,AR H x=!a->a=x/\x∈gs/\hb bits x:=λx a e=>by
  rw[G x]at e;split at e
  ·rename_i q;cases e;exact#[rfl,q]
  ·cases e
 refine ZC w A B (λg h=>(j g h).1) C gs [] H rfl E (λx a e=>?_) #[λx J a e=>?_,λx y a J J e I=>?_] λa=>#[?_,?_]
 ·let#[rfl,q,_]:=l x a e;exact(j _ q).1
 ·let#[rfl,m,o]:=l x a e
  exact BA.mpr #[(j _ m).2,o]
 ·rw[<-(l x a e).1,<-(l y a I).1]
 ·rintro⟨x,e⟩
  let#[rfl,m,o]:=l x a e;exact#[m,.inr o]
 grind
end
end L4
namespace L7
open L2
open L4 (Fw AS eT eP oL oDK)
section
variable{X:Cx}{A:¬Sl}{e a b c:Expr}{pos:Pos}{α ρ τ τ':Type}{K:AB}{H H' H0:Hp}{F:AL->Prop}{σ:L2.St}
def VBw(X:Cx)(A:¬Sl)(e:Expr)(p:⇑(Bool×τ))(B:τ->¬Sl):Prop:=∀v,p=!v->PT X e (λσ H Q=>∃H0 F,Vs H0 A σ F H/\∀j H',Vs H0 (B v.2) σ j H'->Fe F H j H'->Q v.1 H')
theorem aZ{o w:¬B5}{R:Rk ρ}{p:⇑(Bool×τ)}{q r:τ->⇑(Fw ρ τ')}{B:τ->¬Sl}{C:τ'->¬Sl}(E:VBw X A c p B)(J:∀s,VSs X (B s) o R (q s) C)(hb:∀s,VSs X (B s) w R (r s) C):VS X A (.If c o w pos) R (p*>λv=>if v.1 then q v.2 else r v.2) C:=λf L=>by
 let#[#[v,s],G,I]:=AS L
 cases v with
 | true=>exact(X2 (E _ G) (J s f I) JV).imp (by rintro D σ H ⟨H0,F,j,k⟩;exact#[H0,F,j,λl H' m fe=>by show tV (B s) R C f D σ H';exact M4 #[H0,l,F,H,m,fe,k]])
 | false=>exact(X2 (E _ G) JV (hb s f I)).imp (by rintro D σ H ⟨H0,F,j,k⟩;exact#[H0,F,j,λl H' m fe=>by show tV (B s) R C f D σ H';exact M4 #[H0,l,F,H,m,fe,k]])
theorem ge(h:VBw X A a p B):VBw X A (.UnaryOp .Not a pos) (p*>λv=>!(not v.1,v.2)) B:=λv j=>by
 let#[x,l,m]:=AS j;cases m;exact(cB (h x l)).imp (by rintro σ H Q ⟨H0,F,o,q⟩;exact#[H0,F,o,q])
theorem gf(o:VB X A a q)(hb:VBw X A b r B)(w:Wk A (B s0)):VBw X A (.BoolOp .And [a,b] pos) (q*>λt=>if t=true then r else !(false,s0)) B:=λv E=>by
 let#[t,C,l]:=AS E
 cases t with
 | true=>exact(PW.imp (TD (o _ C) (X1 (hb v l))) (by rintro σ H Q ⟨H0,F,j,k⟩;exact#[H0,F,j,λH' kp=>by symm;rw[qX rfl];exact#[H0,_,j.grow kp,λm G I J=>k m G I (kp.fe.trans J)]])).pt
 | false=>cases l;exact(PW.imp (TD (o _ C) (TV λM M M z=>z)) (by rintro σ H Q ⟨H0,F,j,k⟩;exact#[H0,F,j,λH' kp=>by
   symm;rw[qY An];let#[m,l,L]:=w H0 σ _ H' (j.grow kp)
   exact k m H' l (kp.fe.trans L)])).pt
theorem WB{L:AL->Prop}{G:Nat->AL->Prop}{B:¬Sl}(h:VR H0 A σ F G H)(w:∀a,L a->Not (F a))(l:∀a o,H a=!o->Not (L a)->H' a=!o)(C:∀a xs,L a->H a≠!.tup xs)(E:∀a ob z,L a->H a≠!.frz ob z)(Q:∀i a,G i a->L a->∃o,H' a=!o)
  (I:∀(j:Nat) t,B[j]?=!t->(A[j]?=!t/\∀a,L a->Not (G j a))∨∃x,σ[j]?=!x/\t.ok H0 (gF F H H') (G j) H' x):VR H0 B σ (gF F H H') G H'/\Fe F H (gF F H H') H':=by
 let fe:Fe F H (gF F H H') H':=#[λM z=>.inl z,λa xs e=>l a _ e λz=>C a xs z e,λa ob z e=>l a _ e λy=>E a ob z y e,λa o f e=>l a o e λz=>w a z f];refine#[#[λa o e=>l a o (h.kp a o e) λz=>w a z (h.f0 a o e),λa o e=>.inl (h.f0 a o e),λa z=>z.elim (λf=>let #[o,e]:=h.fh a f;#[o,l a o e λy=>w a y f]) λy=>y.2,λj t J=>?_,λi a z=>?_,h.ds],fe]
 ·rcases I j t J with⟨m,R⟩ | m
  ·let#[x,N,O]:=h.sl j t m
   exact#[x,N,Sl.mono O fe λa P=>let #[o,e]:=(h.gn j a P).2;by grind]
  ·exact m
 ·let#[m,o,e]:=h.gn i a z
  refine#[λy=>y.elim m λy=>(by rw[e]at y;exact nomatch y.1),?_]
  grind
def Qp(H:Hp)(x y:AL):Hp:=λa=>if a=x∨a=y then none else H a
theorem Ig{x y a}(h:a≠x)(h':a≠y):Qp H x y a=H a:=qY λz=>z.elim h h'
theorem OA{x y a}{o}(h:Qp H x y a=!o):a≠x/\a≠y/\H a=!o:=by
 unfold Qp at h
 ext
theorem Ib{enc:α->D}{l:¬(Int×α)}{a:AL}(h:OB K H a (oDK enc l)):(∀xs,H a≠!.tup xs)/\∀ob z,H a≠!.frz ob z:=by
 let#[j,m,_]:=h
 ext
theorem XV{R:Rk α}{S:Rk ρ}{q:⇑α}{g:α->ρ}{B:τ->¬Sl}(h:VE X A e R q)(l:∀v H0 σ F H x H',Vs H0 A σ F H->Kp H H'->R v H x H'->S (g v) H0 x H'):VS X A (.Return (!e) pos) S (q*>λv=>!.rt (g v)) B:=λf m=>by
 let#[v,o,w]:=AS m;cases w;exact(TH (h v o)).imp (by rintro D σ H ⟨H0,F,j,k⟩;exact#[H0,F,j,λx H' kp r=>k x H' (j.kp.trans kp) (l _ _ _ _ _ _ _ j kp r)])
end
open L2
open L4 (Fw AS eT eP oL oDK oDR)
set_option genInjectivity true in
inductive Fv where
 | dat (d:D) | own (o:Ob) | fz (o:Ob)
section
variable{K:AB}{H0 H H2 H3:Hp}{S S':AL->Prop}{x c:AL}{L:¬(Str×Fv)}{fs:¬(Str×V)}{f:Str}{fv:Fv}{v y:V}{o o':Ob}
def Qz(K:AB)(H0:Hp)(S:AL->Prop)(H:Hp)(x:AL)(v:V):Fv->Prop
 | .dat d=>RD K H d v
 | .own o=>∃a,v=.ref a/\S a/\a≠x/\OB K H a o
 | .fz o=>∃a,v=.ref a/\H0 a=none/\Not (S a)/\OB K H a o
structure PFs(K:AB)(H0:Hp)(S:AL->Prop)(H:Hp)(x:AL)(L:¬(Str×Fv))(fs:¬(Str×V)):Prop where
 keys:fs.map (·.1)=L.map (·.1)
 no:∀f,L.lookup f=none->fs.lookup f=none
 get:∀f fv,L.lookup f=!fv->∃v,fs.lookup f=!v/\Qz K H0 S H x v fv
 dis:∀f g o o' a,L.lookup f=!.own o->L.lookup g=!.own o'->fs.lookup f=!.ref a->fs.lookup g=!.ref a->f=g
def pF(K:AB)(C x:AL)(L:¬(Str×Fv)):Hp->(AL->Prop)->Hp->V->Prop:=λH0 S H y=>y=.ref x/\S x/\∃j fs,H x=!.ins C j fs/\PFs K H0 S H x L fs
theorem YB(ne:∀a,a≠c->H2 a=H3 a)(j:∀xs,H3 c≠!.tup xs)(l:∀ob z,H3 c≠!.frz ob z):(∀a xs,H3 a=!.tup xs->H2 a=!.tup xs)/\∀a ob z,H3 a=!.frz ob z->H2 a=!.frz ob z:=
 #[λa xs e=>by grind,λa ob z e=>by grind]
theorem Qz.move(h:Qz K H0 S H3 x v fv)(E:S x)(ne:∀a,a≠x->H2 a=H3 a)(G:∀xs,H3 x≠!.tup xs)(I:∀ob z,H3 x≠!.frz ob z):Qz K H0 S H2 x v fv:=by
 let#[l,m]:=YB ne G I
 cases fv with
 | dat d=>exact h.keep l m
 | own o=>let#[a,A,B,j,C]:=h;exact#[a,A,B,j,C.keep l m (ne a j)]
 | fz o=>let#[a,A,B,j,C]:=h;exact#[a,A,B,j,C.keep l m (ne a λw=>j (w▸E))]
theorem Qz.wide(h:Qz K H0 S H x v fv)(sub:∀a,S a->S' a)(A:∀o a,fv=.fz o->v=.ref a->S' a->S a):Qz K H0 S' H x v fv:=by
 cases fv with
 | dat d=>exact h
 | own o=>let#[a,j,l,m,w]:=h;exact#[a,j,sub a l,m,w]
 | fz o=>let#[a,j,l,m,w]:=h;exact#[a,j,l,λz=>m (A o a rfl j z),w]
theorem N0:∀(fs:¬(Str×V)) (g:Str),(putF f y fs).lookup g=if g=f then !y else fs.lookup g:=λfs g=>Ku f g y fs
theorem R8:∀(fs:¬(Str×V)),fs.lookup f=none->(putF f y fs).map (·.1)=fs.map (·.1)++[f]
 | [],_=>rfl
 | (g,u) :: r,h=>by
  rw[CI]at h
  by_cases c:g=f
  ·ext
  ·let:(f==g)=false:=by rw[beq_eq_false_iff_ne];exact CU c
   rw[this]at h;unfold putF;rw[qY c,Al,Al,R8 r h];rfl
theorem PFs.len(h:PFs K H0 S H x L fs):-fs=-L:=by
 let:=congrArg Dp h.keys
 ext
theorem NM(g:Str):∀(L:¬(Str×Fv)),(L++[(f,fv)]).lookup g=(match L.lookup g with
  | some u=>!u
  | none=>if g=f then !fv else none)
 | []=>by
  show Lp g [(f,fv)]=_;rw[CI]
  grind
 | (k,u) :: L=>by
  rw[List.cons_append,CI,CI]
  by_cases c:g=k
  ·ext
  ·rw[beq_eq_false_iff_ne.mpr c];exact NM g L
set_option tactic.hygienic true in
theorem PFs.add(h:PFs K H0 S H x L fs)(J:L.lookup f=none)(sub:∀a,S a->S' a)(N:∀g o a,L.lookup g=!.fz o->fs.lookup g=!.ref a->S' a->S a)(mv:∀v fv,Qz K H0 S' H x v fv->Qz K H0 S' H2 x v fv)(R:Qz K H0 S' H2 x y fv)(T:∀a o,fv=.own o->y=.ref a->Not (S a)):PFs K H0 S' H2 x (L++[(f,fv)]) (putF f y fs):=by
 let O:=h.no f J
 let m:∀g G,L.lookup g=!G->g≠f:=λg G e c=>by lia
 refine#[by rw[R8 fs O,Bv,h.keys];rfl,λg e=>?_,λg G e=>?_,λg k o o' a j l A B=>?_]
 ·rw[NM]at e
  rw[N0]
  cases j:L.lookup g with
  | some u=>ext
  | none=>
   rw[j]at e;dsimp only at e;split at e
   ·cases e
   ·rename_i c;rw[qY c];exact h.no g j
 ·rw[NM]at e
  rw[N0]
  cases j:L.lookup g with
  | some u=>
   rw[j]at e;cases e;rw[qY (m g _ j)];let#[v,E,I]:=h.get g _ j;exact#[v,E,mv _ _ (I.wide sub λo a l A=>N g o a (l▸j) (A▸E))]
  | none=>
   ext
 ·rw[NM]at j l
  rw[N0]at A B
  cases C:L.lookup g with
  | some u=>
   rw[C]at j;cases j;rw[qY (m g _ C)]at A
   cases w:L.lookup k with
   | some P=>
    rw[w]at l;cases l;rw[qY (m k _ w)]at B;exact h.dis g k o o' a C w A B
   | none=>
    rw[w]at l;dsimp only at l;split at l
    ·rename_i c
     cases l;rw[qX c]at B;cases B;let#[v,E,b,I,Q,_]:=h.get g _ C
     ext
    ·cases l
  | none=>
   rw[C]at j;dsimp only at j;split at j
   ·rename_i c
    cases j;rw[qX c]at A;cases A
    cases w:L.lookup k with
    | some P=>
     rw[w]at l;cases l;rw[qY (m k _ w)]at B;let#[v,E,b,I,Q,_]:=h.get k _ w
     ext
    | none=>
     ext
   ·cases j
def Kd(f:Str)(fv:Fv)(L:¬(Str×Fv)):¬(Str×Fv):=L.map λp=>if p.1=f then(p.1,fv)else p
theorem Ju(g:Str):∀(L:¬(Str×Fv)),(Kd f fv L).lookup g=if g=f then(L.lookup g).map λG=>fv else L.lookup g
 | []=>by show none=_;split <;> rfl
 | (k,u) :: L=>by
  show Lp g ((if k=f then(k,fv)else(k,u)) :: Kd f fv L)=_
  by_cases c:g=k
  ·grind
  ·let e:∀w:Fv,Lp g ((k,w) :: Kd f fv L)=(Kd f fv L).lookup g:=λw=>by rw[CI,beq_eq_false_iff_ne.mpr c]
   let j:Lp g ((k,u) :: L)=L.lookup g:=by rw[CI,beq_eq_false_iff_ne.mpr c]
   rw[j,<-Ju g L]
   grind
set_option tactic.hygienic true in
theorem PFs.chg(h:PFs K H0 S H3 x L fs)(m:L.lookup f=!.own o)(A:fs.lookup f=!.ref a)(ne:∀b,b≠a->H2 b=H3 b)(U:∀xs,H3 a≠!.tup xs)(X:∀ob z,H3 a≠!.frz ob z)(Y:OB K H2 a o'):PFs K H0 S H2 x (Kd f (.own o') L) fs:=by
 let#[B,C]:=YB ne U X;let#[v,O,a',Z,P,ax,_]:=h.get f _ m;rw[A]at O;cases O;cases Z;refine#[by rw[h.keys];unfold Kd;rw[Aw];exact B0 λp M=>by lia,λg e=>?_,λg Q e=>?_,λg k E R b e1 e2 e3 e4=>?_]
 ·rw[Ju]at e
  split at e
  ·ext
  ·exact h.no g e
 ·rw[Ju]at e
  split at e
  ·rename_i c
   subst c;rw[m]at e;cases e;exact#[_,A,a,rfl,P,ax,Y]
  ·rename_i c
   let#[v,T,G]:=h.get g Q e;refine#[v,T,?_]
   cases Q with
   | dat d=>exact G.keep B C
   | own o=>let#[b,I,J,l,N]:=G;subst I;exact#[b,rfl,J,l,N.keep B C (ne b λw=>c (h.dis g f _ _ b e m T (w▸A)))]
   | fz o=>let#[b,I,J,l,N]:=G;exact#[b,I,J,l,N.keep B C (ne b λw=>l (w▸P))]
 ·let j:∀g E,(Kd f (.own o') L).lookup g=!.own E->∃R,L.lookup g=!.own R:=λg E e=>by
   rw[Ju]at e
   grind
  let#[_,k1]:=j g _ e1;let#[_,k2]:=j k _ e2;exact h.dis g k _ _ b k1 k2 e3 e4
end
section
variable{X:Cx}{A:¬Sl}{e o i:Expr}{pos pos' apos:Pos}{α β κ ρ:Type}{C z:AL}{L:¬(Str×Fv)}{f:Str}
theorem Su{R:Rk α}{Rr:Rk ρ}{q:⇑α}{j:Nat}{Y:α->Fv}(N:Hp->Hp->V->AL->Prop)(hc:Cls X.K C)(hn:Cy X.K C f)(ho:PE X o (DI j))(h:VE X A e R q)(hj:A[j]?=!.g (pF X.K C z L))(hf:L.lookup f=none)(hl:-L < 1000)
  (Z:∀v H y l b,R v H y l->N H l y b->H b=none/\∃o,l b=!o) (hfv:∀v Q (S:AL->Prop) H y l m,Kp Q H->Kp H l->R v H y l->(∀b,S b->∃o,H b=!o)->S z->Fr (λb=>(H b=none/\∃o,l b=!o)/\Not (N H l y b)) l m->(∀b,N H l y b->m b=l b)->Qz X.K Q (λb=>S b∨N H l y b) m z y (Y v)) (hd:∀v H y l a o,R v H y l->Y v=.own o->y=.ref a->H a=none)
  (hs:↑(BX e (!.Attribute o f pos') pos.line X.env=pure false)):VS X A (.Assign [.Attribute o f pos'] e pos) Rr (q*>λv=>!.nx v) (λv=>A.set j (.g (pF X.K C z (L++[(f,Y v)])))):=λg hg=>by
 let#[v,h1,h2]:=AS hg;cases h2
 refine(cF ho (h v h1) hs).imp λD σ H #[Q,F,#[G,hs],k]=>#[Q,F,#[G,hs],λy l kp r=>?_]
 let#[y0,g1,g2]:=hs.atG hj
 let#[rfl,E,I,fs,J,g4]:=g2 H Kp.refl.fr λM M=>rfl
 refine#[_,g1,z,C,I,fs,rfl,kp _ _ J,hc,hn,by rw[g4.len];exact hl,?_]
 let nz:Not (N H l y z):=λw=>by rw[(Z v H y l z r w).1]at J;cases J
 let zt:∀B,l z≠!.tup B:=λB w=>by rw[kp _ _ J]at w;cases w
 let zf:∀ob u,l z≠!.frz ob u:=λob u w=>by rw[kp _ _ J]at w;cases w
 let Fz:=(hs.gn j z E).1
 let zn:∀b o,H b=!o->Not (N H l y b):=λb o e w=>by rw[(Z v H y l b r w).1]at e;cases e
 let gz:∀b,gF F H l b->b≠z:=λb w c=>by subst c;exact w.elim Fz λw=>by ext
 let fe:Fe F H (λb=>gF F H l b/\Not (N H l y b)) (L2.upd l z (.ins C I (putF f y fs))):=
  #[λb w=>#[.inl w,let #[o,e]:=hs.fh b w;zn b o e],λb B e=>by rw[AQ (λc=>by ext)];exact kp _ _ e,λb ob u e=>by rw[AQ (λc=>by ext)];exact kp _ _ e,λb o w e=>by rw[AQ (show b≠z from λc=>Fz (c▸w))];exact kp _ _ e]
 let T:=hs.own j (S':=λb=>G j b∨N H l y b) (P:=pF X.K C z (L++[(f,Y v)])) fe (λb o e w=>by rw[AQ (show b≠z from λc=>w (c▸E))];exact kp _ _ e) (λb w=>w.1.imp id λw=>w.1) (λb w=>by
   rw[AQ (gz b w.1)]
   exact w.1.elim (λw=>let #[o,e]:=hs.fh b w;#[o,kp _ _ e]) λw=>w.2) (λb w=>#[w.imp id λw=>(Z v H y l b r w).1,λu=>w.elim (λw=>u.1.elim (hs.gn j b w).1 λu=>(let #[o,e]:=(hs.gn j b w).2;by ext)) u.2,by
   by_cases c:b=z
   ·rw[c];exact#[_,Ap]
   ·rw[AQ c];exact w.elim (λw=>let #[o,e]:=(hs.gn j b w).2;#[o,kp _ _ e]) λw=>(Z v H y l b r w).2]) λm O s2=>by
   let U:=s2 z (.inl E);rw[Ap]at U;refine#[rfl,.inl E,I,_,U,?_];let h3:Fr F H (L2.upd m z (.ins C I fs)):=#[λb B e=>by rw[AQ (λc=>by lia)];exact O.tup b B (fe.fr.tup b B e),λb ob u e=>by rw[AQ (λc=>by lia)];exact O.frz b ob u (fe.fr.frz b ob u e),λb o w e=>by rw[AQ (show b≠z from λc=>Fz (c▸w))];exact O.fix b o (fe.le b w) (fe.fr.fix b o w e)]
   let s3:∀a,G j a->L2.upd m z (.ins C I fs) a=H a:=λa w=>by
    by_cases c:a=z
    ·rw[c,Ap,J]
    ·rw[AQ c,s2 a (.inl w),AQ c]
     let#[o,e]:=(hs.gn j a w).2;rw[e,kp _ _ e]
   let#[_,_,yL,uY,q1,q2]:=g2 _ h3 s3;rw[Ap]at q1;cases q1
   let ne:∀a,a≠z->m a=L2.upd m z (.ins C I fs) a:=λa c=>(AQ c).symm
   refine q2.add hf (λa w=>.inl w) (λg' o' a e1 e2 w=>w.elim id λw=>?_) (λv' xq w=>w.move (.inl E) ne (λB w=>by ext) λob u w=>by ext) (hfv v Q (G j) H y l m hs.kp kp r (λb w=>(hs.gn j b w).2) E #[λb B e=>?_,λb ob u e=>?_,λb o w e=>?_] λb w=>?_) λa o e1 e2 w=>?_
   ·let#[v',l1,b,l2,_,_,l3]:=g4.get g' _ e1
    rw[e2]at l1;cases l1;cases l2;let#[u,hu]:=l3.at;ext
   ·exact O.tup b B (by rw[AQ (λc=>by ext)];exact e)
   ·exact O.frz b ob u (by rw[AQ (λc=>by ext)];exact e)
   ·exact O.fix b o #[.inr w.1,w.2] (by rw[AQ (gz b (.inr w.1))];exact e)
   ·rw[s2 b (.inr w),AQ (λc=>nz (by ext))]
   ·let#[u,hu]:=(hs.gn j a w).2
    grind
 rw[St.set_same g1]at T;exact k _ _ _ #[_,T] fe
section
variable{R:Rk ρ}{j:Nat}
theorem qA{enc:α->D}{q:⇑α}(l:Cls X.K C)(m:Cy X.K C f)(B:PE X o (DI j))(h:VE X A e (rV X.K enc) q)(E:↑(A[j]?=!.g (pF X.K C z L)))(G:↑(L.lookup f=none))(hl:autoParam (-L < 1000) yq10q)(hs:↑(BX e (!.Attribute o f pos') pos.line X.env=pure false)) :
  VS X A (.Assign [.Attribute o f pos'] e pos) R (q*>λv=>!.nx v) (λv=>A.set j (.g (pF X.K C z (L++[(f,.dat (enc v))])))):=
 Su (λM M M M=>False) l m B h E G hl (λM M M M M M w=>w.elim) (λv J S H y N O M M r M M I M=>I.rd r) (λM M M M M M M e=>nomatch e) hs
theorem ae{ob:α->Ob}{q:⇑α}(G:Cls X.K C)(I:Cy X.K C f)(J:PE X o (DI j))(h:VE X A e (rN X.K ob) q)(N:↑(A[j]?=!.g (pF X.K C z L)))(O:↑(L.lookup f=none))(hl:autoParam (-L < 1000) yq10q)(hs:↑(BX e (!.Attribute o f pos') pos.line X.env=pure false)) :
  VS X A (.Assign [.Attribute o f pos'] e pos) R (q*>λv=>!.nx v) (λv=>A.set j (.g (pF X.K C z (L++[(f,.own (ob v))])))):=
 Su (λM M y b=>y=.ref b) G I J h N O hl (λv H y E b #[a,l,B,m] w=>by rw[l]at w;cases w;exact#[B,m.at]) (λv Q S H y E T _ _ #[a,l,B,m] U Y P w=>#[a,l,.inr l,(λc=>by grind),P.ob (w a l) m]) (λv H y E a o #[b,l,B,m] _ e=>by ext) hs
theorem aa{ob:α->Ob}{q:⇑α}(G:Cls X.K C)(I:Cy X.K C f)(J:PE X o (DI j))(h:VE X A e (rN X.K ob) q)(N:↑(A[j]?=!.g (pF X.K C z L)))(O:↑(L.lookup f=none))(hl:autoParam (-L < 1000) yq10q)(hs:↑(BX e (!.Attribute o f pos') pos.line X.env=pure false)) :
  VS X A (.Assign [.Attribute o f pos'] e pos) R (q*>λv=>!.nx v) (λv=>A.set j (.g (pF X.K C z (L++[(f,.fz (ob v))])))):=
 Su (λM M M M=>False) G I J h N O hl (λM M M M M M w=>w.elim) (by
  rintro v P S H y Y Z Q _ ⟨a,T,l,B⟩ hS _ E _
  let#[u,m]:=B.at;refine#[a,T,?_,λw=>w.elim (λw=>by grind) id,E.ob (by rw[E.fix a u #[#[l,u,m],id] m,m]) B]
  cases U:P a with
  | none=>rfl
  | some o=>rw[Q a o U]at l;cases l) (λM M M M M M M e=>nomatch e) hs
theorem jt(T:Cls X.K C)(U:Cy X.K C f)(Y:PE X o (DI j))(B:↑(L.lookup f=!.fz (oL enc l)))(Z:↑(A[j]?=!.g (pF X.K C z L)))(hb:↑(Bd o f X.env (A2 o X.env)=A2 o X.env)):VF X A (.Attribute o f pos) enc (!l):=λl' hl=>by
 cases hl;refine(Jm Y hb).imp ?_;rintro σ H Q ⟨H0,F,⟨G,hs⟩,k⟩;let#[y0,g1,E]:=hs.atG Z
 let#[rfl,Sz,dx,fs,I,g4]:=E H Kp.refl.fr λM M=>rfl
 let#[v',J,b,l2,_,N,l3]:=g4.get f _ B;subst l2;let#[vs,e1,e2]:=l3
 let Fb:=BY λn=>by
  let zb:z≠b:=λc=>N (c▸Sz)
  let#[_,_,yL,uY,O,q2]:=E (L2.upd H b (.own 0)) #[λa xs e=>by rw[AQ (λc=>by ext)];exact e,λa ob u e=>by rw[AQ (λc=>by ext)];exact e,λa o w e=>by rw[AQ (λc=>n (c▸w))];exact e] λa w=>AQ (λc=>N (c▸w))
  rw[AQ zb,I]at O;cases O;let#[v',P,b',m2,_,_,us,S,_]:=q2.get f _ B;rw[J]at P;cases P;cases m2;rw[Ap]at S;cases S
 exact#[_,g1,z,C,dx,fs,_,rfl,I,T,U,J,k b H .refl λH' m=>#[vs,m.fix b _ (.inl Fb) e1,e2.keep m.tup m.frz]]
theorem XX{O H}{F}{G}{Q}{K}{oo o'}{a S}{u}{fs}(hs:VR O A Q F G H)(hj:A[j]?=!.g (pF K C z L))(T:L.lookup f=!.own oo)(U:H z=!.ins C S fs)(Y:fs.lookup f=!.ref a)(Z:∀xs,H a≠!.tup xs)(nf:∀ob w,H a≠!.frz ob w)(hu:OB K (L2.upd H a u) a o') :
  Vs O (A.set j (.g (pF K C z (Kd f (.own o') L)))) Q F (L2.upd H a u)/\Fe F H F (L2.upd H a u):=by
 let#[y0,g1,g2]:=hs.atG hj
 let#[rfl,Sz,yL,uY,zH,g4]:=g2 H Kp.refl.fr λM M=>rfl
 rw[U]at zH;cases zH;let#[v',l1,b,l2,E,az,l3]:=g4.get f _ T;rw[Y]at l1;cases l1;cases l2;let I:=(hs.gn j a E).1;let fe:Fe F H F (L2.upd H a u):=#[λM w=>w,λb xs e=>by rw[AQ (show b≠a from λc=>Z xs (c▸e))];exact e,λb ob w e=>by rw[AQ (show b≠a from λc=>nf ob w (c▸e))];exact e,λb o w e=>by rw[AQ (show b≠a from λc=>I (c▸w))];exact e];let#[ho,J]:=l3.at
 let m:=hs.own j (S':=G j) (P:=pF K C z (Kd f (.own o') L)) fe (λb o e w=>by rw[AQ (show b≠a from λc=>w (c▸E))];exact e) (λb w=>.inl w) (λb w=>by rw[AQ (show b≠a from λc=>I (c▸w))];exact hs.fh b w) (λb w=>#[.inl w,(hs.gn j b w).1,by
   by_cases c:b=a
   ·rw[c];exact#[_,Ap]
   ·rw[AQ c];exact(hs.gn j b w).2]) λH2 B N=>by
  let l:=N z Sz;rw[AQ (CU az),U]at l;let fr:Fr F H (L2.upd H2 a ho):=#[λb xs e=>by rw[AQ (show b≠a from λc=>Z xs (c▸e))];exact B.tup b xs (fe.fr.tup b xs e),λb ob w e=>by rw[AQ (show b≠a from λc=>nf ob w (c▸e))];exact B.frz b ob w (fe.fr.frz b ob w e),λb o w e=>by rw[AQ (show b≠a from λc=>I (c▸w))];exact B.fix b o w (fe.fr.fix b o w e)]
  let#[_,_,dx2,fs2,q1,q2]:=g2 _ fr λb w=>by
   by_cases c:b=a
   ·rw[c,Ap,J]
   ·rw[AQ c,N b w,AQ c]
  rw[AQ (CU az),l]at q1;cases q1;refine#[rfl,Sz,S,fs,l,q2.chg T Y (λb c=>(AQ c).symm) (λxs w=>by rw[Ap]at w;ext) (λob w q=>by rw[Ap]at q;grind) (B.ob (N a E) hu)]
 rw[St.set_same g1]at m;exact#[#[_,m],fe]
set_option tactic.hygienic true in
theorem gD{β κ:Type}[DecidableEq κ]{ob:¬(κ×β)->Ob}{I:κ->D}{enc:β->D}{J:⇑κ}{pv:⇑β}{l:¬(κ×β)}{p2:Pos}(d:OI ob I enc)(hu:X.A.units+1 < Bf)(hc:Cls X.K C)(hn:Cy X.K C f)(ho:PE X o (DI j))(hi:VE X A i (rV X.K I) J)(hv:VE X A e (rV X.K enc) pv)(N:↑(L.lookup f=!.own (ob l)))(O:↑(A[j]?=!.g (pF X.K C z L)))(hb:↑(Bd o f X.env (A2 o X.env)=A2 o X.env))(hs:↑(BX e (!.Subscript (.Attribute o f apos) i pos') pos.line X.env=pure false)) :
  VS X A (.Assign [.Subscript (.Attribute o f apos) i pos'] e pos) R (pv*>λv=>J*>λk=>L4.B4 l k v*>λw=>!.nx w) (λw=>A.set j (.g (pF X.K C z (Kd f (.own (ob w)) L)))):=λg P=>by
 let#[v,q1,Q]:=AS P;let#[k,q2,S]:=AS Q;let#[w,B,q4]:=AS S
 clear P Q S
 unfold L4.B4 at B;split at B
 rotate_left
 ·cases B
 rename_i hl;cases q4;cases B
 refine(TJ hu (Jm ho hb) (hi k q2) (hv v q1) hs).imp λD σ H #[T,F,#[G,hs],q]=>#[T,F,#[G,hs],λx H1 U r1=>?_]
 let E:=hs.grow U;let#[y0,g1,g2]:=E.atG O
 let#[rfl,Sz,dx,fs,Y,g4]:=g2 H1 Kp.refl.fr λM M=>rfl
 let#[v',Z,a,l2,Sa,az,l3]:=g4.get f _ N;subst l2;refine#[_,g1,z,C,dx,fs,_,rfl,Y,hc,hn,Z,T,_,#[G,E],λy H2 m r2=>?_];let#[nt,nf,u,g5,g6]:=d.put _ _ _ _ _ _ _ _ (m.ob l3) r2 (m.rd r1) hl;let#[w1,w2]:=XX (E.grow m) O N (m _ _ Y) Z nt nf g6;exact#[a,_,rfl,g5,q _ _ _ w1 ((U.fe.trans m.fe).trans w2)]
def XA(g:Int->Int->Int)(l:Z')(k y:Int):⇑Z':=if 0<=k/\k.toNat < -l then !l.set k.toNat (g (l.getD k.toNat 0) y)else none
set_option tactic.hygienic true in
theorem gH{op:Nd}{g:Int->Int->Int}{Q S:⇑Int}{l:Z'}{p2:Pos}(hp:PIp X op (ipI g))(hc:Cls X.K C)(hn:Cy X.K C f)(ho:PE X o (DI j))(hi:VE X A i (XP X) Q)(hv:VE X A e (XP X) S)(T:↑(L.lookup f=!.own (oL D.int l)))(U:↑(A[j]?=!.g (pF X.K C z L)))(hb:↑(Bd o f X.env (A2 o X.env)=A2 o X.env))(ha:autoParam (∀E I new,augStore i E I new=(do F7 [new,E,I] (aF E I new);release [new,E,I] [];pure .next)) yq12q) :
  VS X A (.AugAssign (.Subscript (.Attribute o f apos) i pos') op e pos) R (Q*>λk=>S*>λy=>XA g l k y*>λJ=>!.nx J) (λJ=>A.set j (.g (pF X.K C z (Kd f (.own (oL D.int J)) L)))):=λgg Y=>by
 let#[k,q1,Z]:=AS Y;let#[y,q2,uG]:=AS Z;let#[J,N,q4]:=AS uG
 clear Y Z uG
 unfold XA at N;split at N
 rotate_left
 ·cases N
 rename_i hk;cases q4;cases N;let#[k0,kl]:=hk;refine(iP (Jm ho hb) (hi k q1) dX (hv y q2) hp bg ha).imp ?_;rintro Dd σ H ⟨H0,F,⟨G,O⟩,q⟩;let#[y0,g1,g2]:=O.atG U
 let#[rfl,Sz,dx,fs,g3,g4]:=g2 H Kp.refl.fr λM M=>rfl
 let#[v',l1,a,l2,Sa,az,vs,l3,l4]:=g4.get f _ T;subst l2;refine#[_,g1,z,C,dx,fs,_,rfl,g3,hc,hn,l1,H0,F,#[G,O],λy1 H1 m r1=>?_];cases r1;let m3:=m _ _ l3
 let m4:=l4.keep (λb M w=>m b _ w) λb M M w=>m b _ w
 let el:l[k.toNat]?=!l.getD k.toNat 0:=by rw[B2,AJ kl];rfl
 let#[x,hx,rx]:=m4.get (by rw[Ai,el];rfl);cases rx;refine#[a,vs,k,_,rfl,rfl,k0,m3,hx,H0,_,#[G,O.grow m],λy2 H2 B r2=>?_];cases r2;let s2:=(O.grow m).grow B;let n3:=B _ _ m3
 let n4:=m4.keep (λb M w=>B b _ w) λb M M w=>B b _ w
 let P:ixN (-vs) k=!k.toNat:=by
  unfold ixN;rw[qX k0,qX (by rw[<-n4.length,AD];ext)]
 let#[w1,w2]:=XX (o':=oL D.int (l.set k.toNat (g (l.getD k.toNat 0) y))) s2 U T (B _ _ (m _ _ g3)) l1 (λxs w=>by lia) (λob w q=>by lia) #[_,Ap,by
  rw[List.map_set]
  exact((n4.set (.int (g (l.getD k.toNat 0) y)) k.toNat)).keep (λb xs w=>by rw[AQ (λc=>by lia)];exact w) λb ob w q=>by rw[AQ (λc=>by lia)];exact q]
 exact#[_,_,rfl,rfl,a,vs,k,k.toNat,rfl,rfl,n3,P,q _ _ _ w1 ((m.fe.trans B.fe).trans w2)]
end
end
open L2
open L4 (Fw AS Bx oL)
section
variable{P:Ao}{w:A3}{H H':Hp}{h h':BG}{m:AL}{u u1 u2 u3:HO}{fs ex:¬AL}
theorem dN(x:HOk P w H h)(j:H m=!u)(l:Mut (!u))(new:CZ P w (upd H m u1) h m u1):HOk P w (upd H m u1) h:=λb o e=>by
 by_cases c:b=m
 ·subst c;rw[Ap]at e;ext
 ·rw[AQ c]at e
  exact(x b o e).stay (λG G G q=>q) (λa q=>by rw[AQ (λz=>by rw[z,j]at q;cases q;exact l)];exact q) λa A q=>by rw[AQ (λz=>by rw[z,j]at q;cases q;exact l)];exact q
theorem lV(U:Un fs ex (upd H m u1) H' h h')(C:H m=!u)(E:Mut (!u)):Un fs ex H H' h h':=by
 let j:∀b,H b=none->upd H m u1 b=none:=λb e=>by rw[AQ (λz=>by ext)];exact e
 let l:∀b o,H b=!o->Not (Mut (!o))->upd H m u1 b=!o:=λb o e n=>by rw[AQ (λz=>by ext)];exact e
 exact#[λb o e n=>U.keep b o e (j b n),λb o e n=>U.slot b o e (j b n),λb o e n=>U.free b o e (j b n),U.there,λb A e=>U.tups b A (l b _ e id),λb o z e=>U.frzs b o z (l b _ e id),λb B e=>U.tbls b B (l b _ e id)]
theorem gy(U:Un fs ex H H' h h')(E:H' m=!u2)(G:Mut (!u2)):Un fs ex H (upd H' m u3) h h':=by
 let l:∀b,H' b=none->upd H' m u3 b=none:=λb e=>by rw[AQ (λz=>by ext)];exact e
 let j:∀b o,H' b=!o->Not (Mut (!o))->upd H' m u3 b=!o:=λb o e n=>by rw[AQ (λz=>by ext)];exact e
 exact#[U.keep,U.slot,λb o e n A=>l b (U.free b o e n A),U.there,λb B e=>j b _ (U.tups b B e) id,λb o z e=>j b _ (U.frzs b o z e) id,λb C e=>let #[more,q]:=U.tbls b C e;#[more,j b _ q id]]
end
section
variable{P:Ao}{w:A3}{K:AB}{mg:Str->⇑AE}{base:BG}{k:Nat}{f:AL}{fd:EA}{ps:¬Str}{zI sp2:Sp}
theorem jG(F:Czq P w K mg base k f fd ps zI)(C:∀vs H Q E,sp2 vs H Q E->-vs=-ps)(h:∀vs H Q E,sp2 vs H Q E->∃m u,H m=!u/\Mut (!u)/\∀L,CZ P w H L m u->∃B,CZ P w (upd H m B) L m B/\zI vs (upd H m B) Q (λM M M=>False)):Czq P w K mg base k f fd ps sp2:=
 #[C,λA l s H G R vs Q E S j hb r q=>by
  let#[m,u,I,N,q]:=h vs H Q E q;let#[B,T,U]:=q s.heap (j.hok m u I)
  let O:∀b,H b=none->upd H m B b=none:=λb e=>by rw[AQ (λz=>by lia)];exact e
  refine Ey (F.run A l s (upd H m B) G R vs Q (λM M M=>False) S #[j.frames,j.mod,λb o e=>#[(j.bs b o e).1,O b (j.bs b o e).2],j.bsz,j.funs,λb e=>O b (j.frf b e),dN j.hok I N T,j.bare] hb r U) λJ s' z=>?_
  cases J with
  | ok X=>cases X with
   | ret u=>let#[v,Y,Z,c2,c3,c4,c5,c6]:=z;exact#[v,Y,Z,c2,lV c3 I N,c4,c5,c6]
   | next=>exact z.elim
   | brk=>exact z.elim
   | cont=>exact z.elim
  | error e=>let#[_,_,_,_,_,_,_,_,_,z]:=z;exact z.elim]
theorem VM(F:Czq P w K mg base k f fd ps zI)(l:∀vs H Q E,sp2 vs H Q E->-vs=-ps)(h:∀vs H Q E,sp2 vs H Q E->zI vs H (λx H'=>∃m u B,H' m=!u/\Mut (!u)/\(∀G,CZ P w H' G m u->CZ P w (upd H' m B) G m B)/\Q x (upd H' m B)) (λM M M=>False)):Czq P w K mg base k f fd ps sp2:=
 #[l,λA j s H o J vs Q E L N hb r q=>by
  refine Ey (F.run A j s H o J vs _ (λM M M=>False) L N hb r (h vs H Q E q)) λC X z=>?_
  cases C with
  | ok O=>cases O with
   | ret u=>let#[v,H',R,S,T,I,U,m,u,B,d1,d2,d3,d4]:=z;exact#[v,_,R,S,gy T d1 d2,dN I d1 d2 (d3 _ (I m u d1)),U,d4]
   | next=>exact z.elim
   | brk=>exact z.elim
   | cont=>exact z.elim
  | error e=>let#[_,_,_,_,_,_,_,_,_,z]:=z;exact z.elim]
end
section
variable{X:Cx}{A:¬Sl}{e o:Expr}{es:¬Expr}{pos pos':Pos}{α γ ρ:Type}{C z:AL}{f:Str}
def rF(Pd:α->Hp->V->Prop):Rk α:=λv H x j=>∀l,Fr (λa=>H a=none/\∃o,j a=!o) j l->Pd v l x
theorem p8{st:B5}{Pd:α->Hp->V->Prop}{R:Rk ρ}{q:⇑α}{i:Nat}(h:VEA X A i st (rF Pd) q):VS X A st R (q*>λv=>!.nx v) (λv=>A.set i (.q λM H y=>Pd v H y)):=λg l=>by
 let#[v,m,B]:=AS l;cases B;exact(h v m).imp (by rintro D I H ⟨E,F,j,k⟩;exact#[E,F,j,λx J kp r=>k _ _ _ ((j.grow kp).set i λG f=>r G #[f.tup,f.frz,λa o w=>f.fix a o (.inr w)]) kp.fe])
theorem fx{x:Str}{Pd:α->Hp->V->Prop}{R:Rk ρ}{q:⇑α}(i:Nat)(h:VE X A e (rF Pd) q)(j:autoParam X.N.Nodup yq5q)(hi:↑(X.N[i]?=!x))(l:autoParam (Loc X.env.scope x) yq4q)(hs:↑(BX e (!.Name x pos') pos.line X.env=pure false))(m:autoParam (zFn X x) yq3q) :
  VS X A (.Assign [.Name x pos'] e pos) R (q*>λv=>!.nx v) (λv=>A.set i (.q λG H y=>Pd v H y)):=p8 (bL h j hi l hs m)
theorem qC(w:∀v H x,Pd v H x->j v H x)(h:VE X A e (rP Pd) q):VE X A e (rP j) q:=λv l=>(h v l).imp (by rintro J H Q ⟨m,F,B,k⟩;exact#[m,F,B,λx E kp r=>k x E kp λG I=>w _ _ _ (r G I)])
theorem arP(v:α)(H:Hp)(x:V)(H':Hp)(h:rP Pd v H x H')(j:Hp)(k:Kp H' j):Pd v j x:=h j k
def iF(C:AL)(w:¬(Hp->V->Prop))(Pd:α->Hp->V->Prop)(q:⇑α):Sp:=λvs H Q E=>∃x B j v,vs=.ref x :: j/\H x=!.ins C B []/\q=!v/\eQ w (Ec H x) j/\∀l,Kp (Ec H x) l->(∀m,Fr (λa=>Ec H x a=none/\∃o,l a=!o) l m->Pd v m (.ref x))->Q .non l
theorem fnIF{P:Ao}{w:A3}{K:AB}{mg:Str->⇑AE}{base:BG}{x L:Str}{st:B5}{f:AL}{fd:EA}{N ps:¬Str}{k:Nat}{C:AL}{As:¬(Hp->V->Prop)}{R:Rk Unit}{q:⇑(Fw Unit α)}{Pd:α->Hp->V->Prop}{B:AL->α->¬Sl}{Pg:AL->α->Hp->(AL->Prop)->Hp->V->Prop}(F:Fun K x L st f fd)(Sc:Hk N ps (By st))(hn:-As+1=-ps)(hB:∀z v,(B z v)[0]?=!.g (Pg z v))
  (hP:∀z v U S H',Pg z v U S H' (.ref z)->(∀a,S a->U a=none/\∃o,H' a=!o)->∀O,Fr (λa=>U a=none/\∃o,H' a=!o) H' O->Pd v O (.ref z))
  (hz:∀z v U S H y,Pg z v U S H y->y=.ref z)
  (tK:∀(z:AL) (Y:AE) (A:BR) (m:¬Env) (s:AK) (H:Hp) (E:XK),FK k (A.deeper (HN L (By st) s.heap.objs.size f Y))->(A.deeper (HN L (By st) s.heap.objs.size f Y)).units+64 < Bf->N.Nodup ->
   VSs (Qm (CXG P w) P w K mg base N L (By st) f Y A m s H E).q (.g (pF K C z []) :: asl As (-N - 1)) (FI st) R q (B z)):Czq P w K mg base (k+1) f fd ps (iF C As Pd (Oo q)):=by
 let#[oc,od,kV,doc,pm,an,Y,ct,uz,rfl,lk,tR]:=F.ex;refine SJ lk tR Sc (by rintro vs H Q E ⟨x,dx,args,v,e,_,_,h,_⟩;rw[<-hn,e,Au,h.1]) ?_;rintro A m s H vs Q E hr ⟨x,dx,args,v,e,hx,h1,h2,h3⟩;subst e
 let hq:q=!.nx v:=by
  unfold Oo at h1;split at h1
  ·cases h1;rfl
  ·cases h1
 let hb:=tK x Y A m s H E hr hr.units Sc.nd _ hq
 let hl:1<=-N:=by
  let:=congrArg Dp Sc.pre;rw[Cc]at this;lia
 let#[_,g]:=Vs.start h2
 let fe:∀a o,Ec H x a=!o->H a=!o:=λa o z=>(HF z).2
 let e0:L2.start N (.ref x :: args)=(!.ref x) :: L2.start N.tail args:=by
  unfold L2.start;rw[J2,Au,show -N - (-args+1)=-N - 1 - -args by lia];rfl
 let hv:Vs (Ec H x) (.g (pF K C x []) :: asl As (-N - 1)) (L2.start N (.ref x :: args)) (λa=>∃o,Ec H x a=!o) H:=by
  refine#[λi a=>i=0/\a=x,fe,λa o z=>#[o,z],by rintro a ⟨o,z⟩;exact#[o,fe a o z],λi s Z=>?_,λi a #[_,z]=>?_,λi j a z1 z2=>z1.1.trans z2.1.symm]
  ·rw[e0]
   cases i with
   | zero=>
    cases Z;exact#[_,rfl,.ref x,rfl,λH' f z=>#[rfl,#[rfl,rfl],dx,[],by ext,rfl,λM M=>rfl,(λM M e=>nomatch e),λM M M M M e=>nomatch e]]
   | succ i=>
    rw[<-J2]at Z;let#[y,q1,q2]:=g.sl i s Z;refine#[y,q1,?_]
    cases s with
    | u=>trivial
    | q P=>let#[y,r1,r2]:=q2;exact#[y,r1,λH' f=>r2 H' #[λa xs z=>f.tup a xs (fe _ _ z),λa o u z=>f.frz a o u (fe _ _ z),λa o M z=>f.fix a o #[o,z] (fe _ _ z)]]
    | g P=>
     unfold asl at Z
     rcases Aj.mp (Az Z)with q | q
     ·let#[_,_,q]:=Ay.mp q;cases q
     ext
  ·subst z
   exact#[by rintro⟨o,q⟩;exact(by rw[MR]at q;cases q),_,hx]
 refine#[_,λζ s' σ H' D I q=>Da (hb ζ s' σ H' D (I.with _) q) (λfl s1 z=>?_) λe s1 z=>z.elim,Ec H x,_,hv,λl F' H' T e'=>?_]
 ·cases fl with
  | next=>let#[l,O,J,z]:=z;exact#[l,O,J.without,z]
  | brk=>let#[l,O,J,z]:=z;exact#[l,O,J.without,z]
  | cont=>let#[l,O,J,z]:=z;exact#[l,O,J.without,z]
  | ret u=>let#[v,l,O,J,r,z]:=z;exact#[v,l,O,J.without,r,z]
 ·let#[G,T]:=T
  let#[y,g1,g2]:=T.atG (hB x v)
  let g3:=g2 H' Kp.refl.fr λM M=>rfl
  let ey:=hz _ _ _ _ _ _ g3;subst ey;refine h3 H' T.kp (hP x v _ _ H' g3 λa w=>#[?_,(T.gn 0 a w).2])
  cases e1:Ec H x a with
  | none=>rfl
  | some u=>exact zX (T.f0 a u e1) (T.gn 0 a w).1
theorem a6{C f:AL}{x:Str}{fd:EA}{I:¬Str}{k k':Nat}{pc:Pos}{q:⇑γ}{g:γ->⇑α}{J:γ->¬(Hp->V->Prop)}{Pd:α->Hp->V->Prop}(M:Mk X.K C f)(F:∀z,Ca X.prog X.w X.K X.mg X.base (CXG X.prog X.w) k f fd I (iF C (J z) Pd (g z)))(hb:Binds X.K fd I [])(O:X.mg x=!.ref C)(R:FK (k'+1) X.A)(S:VA X A (e :: es) q J)
  (hk:↥(k<=k')) (T:↑(X.xe=λ_ _=>False)) (U:↑(Gl X x)) (j:↥((x==("__debug__" : Str))=false)) (Y:↑(zSp X e es)) (l:↑((Cv pos (AG es X.env)).any (·.1)=false)) :
  VE X A (.Call (.Name x pc) (e :: es) [] pos) (rF Pd) (q.bind g):=λv Z=>by
 let#[z,h1,h2]:=AS Z
 refine(X6 M (F z) (R.mono (by ext)) U O hb .nil (good_none T).pass (S z h1) j Y l).imp λσ H Q #[H0,F,hs,kq]=>#[H0,F,hs,λxs L kp r y dx hy hdx tq=>?_]
 rw[BP]
 let m:Kp L (Ec (L2.upd (L2.upd L dx (.own y)) y (.ins C dx [])) y):=λa o e=>by
  let N:a≠y:=λc=>by lia
  let n2:a≠dx:=λc=>by lia
  rw[Fl N,AQ N,AQ n2];exact e
 refine#[y,dx,xs,v,rfl,Ap,h2,#[r.1,λi P u e1 e2 B E=>r.2 i P u e1 e2 B (m.trans E)],λB E ho=>#[rfl,kq _ B (kp.trans (m.trans E)) λH3 G=>ho H3 #[G.tup,G.frz,λa o w=>G.fix a o #[?_,w.2]]]]
 cases e0:H a with
 | none=>rfl
 | some u=>rw[m a u (kp a u e0)]at w;cases w.1
def AtI(Pd:α->Hp->V->Prop)(C:AL)(f:Str)(Q:α->Hp->V->Prop):Prop:=∀v H x,Pd v H x->∃a j fs y,x=.ref a/\H a=!.ins C j fs/\fs.lookup f=!y/\Q v H y
theorem G5{Pd:α->Hp->V->Prop}{ob:γ->Ob}{g:α->γ}{v:α}{i:Nat}(j:Cls X.K C)(l:Cy X.K C f)(h:AtI Pd C f λv H y=>∃a,y=.ref a/\OB X.K H a (ob (g v)))(m:PE X o (DI i))(hi:↑(A[i]?=!(.q λJ H y=>Pd v H y)))(hb:↑(Bd o f X.env (A2 o X.env)=A2 o X.env)):VE X A (.Attribute o f pos) (rO X.K ob) (!g v):=
 gX j l (Jk m hi) (λv H x q=>let #[a,w,fs,y,B,E,G,I]:=h v H x q;#[a,w,fs,y,B,E,G,λJ J=>I]) hb
theorem lD{Pd:α->Hp->V->Prop}{enc:γ->D}{g:α->¬γ}{v:α}{i:Nat}(J:Cls X.K C)(L:Cy X.K C f)(h:AtI Pd C f λv H y=>∃a,y=.ref a/\OB X.K H a (oL enc (g v)))(N:PE X o (DI i))(hi:↑(A[i]?=!(.q λM H y=>Pd v H y)))(hb:↑(Bd o f X.env (A2 o X.env)=A2 o X.env)):VF X A (.Attribute o f pos) enc (!g v):=λl O=>by
 cases O;refine(Jm N hb).imp ?_;rintro σ H Q ⟨H0,F,P,k⟩;let#[y,R,E]:=P.at hi;let#[a,S,fs,y2,rfl,j,T,b,rfl,h4]:=h v H y (E H Kp.refl.fr)
 let Fa:=BY λn=>by
  let#[U,Y,Z,_,G,m,_]:=h v _ _ (E (L2.upd H a (.own 0)) #[λc xs e=>by rw[AQ (λz=>by rw[z,j]at e;cases e)];exact e,λc ob u e=>by rw[AQ (λz=>by rw[z,j]at e;cases e)];exact e,λc o w e=>by rw[AQ (λz=>n (z▸w))];exact e]);cases G;rw[Ap]at m;cases m
 refine#[_,R,a,C,S,fs,_,rfl,j,J,L,T,k b H .refl λI B=>?_];let#[U,Y,Z,y',G,m,e3,b',e4,e5]:=h v I _ (E I #[B.tup,B.frz,λc o w=>B.fix c o (.inl w)]);cases G;rw[B.fix a _ (.inl Fa) j]at m
 ext
end
end L7
namespace PySem
open SetTable
def Ou(m:Nat)(p:T6):T6:=if p.more > 0 then{ p with j:=p.j+1,more:=p.more - 1 } else{ p with j:=(UG m p.i p.perturb).1,more:=Fi m (UG m p.i p.perturb).1 - (UG m p.i p.perturb).1,i:=(UG m p.i p.perturb).1,perturb:=(UG m p.i p.perturb).2 }
theorem XC(t:D8)(p:T6):t.advance p=Ou t.mask p:=by rfl
def itq(m:Nat):Nat->T6->T6
 | 0,p=>p
 | s+1,p=>Ou m (itq m s p)
theorem Wx(m a b:Nat)(p:T6):itq m (a+b) p=itq m b (itq m a p):=by
 induction b with
 | zero=>rfl
 | succ b j=>exact congrArg (Ou m) j
def P2(m i pt:Nat):T6:=#[i,Fi m i - i,i,pt,none]
def lpq(m:Nat):Nat->Nat×Nat->Nat×Nat
 | 0,x=>x
 | k+1,x=>UG m (lpq m k x).1 (lpq m k x).2
theorem mD(m i:Nat):Fi m i - i<=9:=by unfold Fi;split <;> ext
theorem Ww{m i pt:Nat}:∀q,q<=Fi m i - i->itq m q (P2 m i pt)=#[i+q,Fi m i - i - q,i,pt,none]
 | 0,_=>rfl
 | q+1,h=>by
  show Ou m (itq m q (P2 m i pt))=_;rw[Ww q ∅];unfold Ou;rw[qX (by show Fi m i - i - q > 0;lia)];rfl
theorem YL{m i pt:Nat}:itq m (Fi m i - i+1) (P2 m i pt)=P2 m (UG m i pt).1 (UG m i pt).2:=by
 show Ou m (itq m (Fi m i - i) (P2 m i pt))=_;rw[Ww _ (AM _)];unfold Ou;rw[qY (by ext)];rfl
theorem kI{m i pt:Nat}:∀k,∃s,s<=10 * k/\itq m s (P2 m i pt)=P2 m (lpq m k (i,pt)).1 (lpq m k (i,pt)).2
 | 0=>#[0,AM _,rfl]
 | k+1=>by
  let#[s,l,j]:=kI k;refine#[s+(Fi m (lpq m k (i,pt)).1 - (lpq m k (i,pt)).1+1),?_,?_]
  ·let:=mD m (lpq m k (i,pt)).1;lia
  ·rw[Wx,j,YL];rfl
theorem kF{m i pt:Nat}:∀k,(lpq m k (i,pt)).2=pt / 32 ^ k
 | 0=>by simp[lpq]
 | k+1=>by
  show(lpq m k (i,pt)).2 / 32=_;rw[kF k,Nat.div_div_eq_div_mul,V2]
theorem cq{m:Nat}{x:Nat×Nat}(a:Nat):∀b,lpq m (a+b) x=lpq m b (lpq m a x)
 | 0=>rfl
 | b+1=>by
  show UG m (lpq m (a+b) x).1 (lpq m (a+b) x).2=_;rw[cq a b];rfl
def lcq(m:Nat):Nat->Nat->Nat
 | 0,i=>i
 | k+1,i=>(lcq m k i * 5+1) % (m+1)
theorem TZ{m:Nat}(a i:Nat):∀b,lcq m (a+b) i=lcq m b (lcq m a i)
 | 0=>rfl
 | b+1=>by show(lcq m (a+b) i * 5+1) % (m+1)=_;rw[TZ a i b];rfl
theorem YD{m i:Nat}:∀k,lpq m k (i,0)=(lcq m k i,0)
 | 0=>rfl
 | k+1=>by show UG m (lpq m k (i,0)).1 (lpq m k (i,0)).2=_;rw[YD k];simp[UG,lcq]
def orbq(m:Nat):Nat->Nat->¬Nat
 | 0,_=>[]
 | k+1,i=>i :: orbq m k ((i * 5+1) % (m+1))
theorem cU{m:Nat}:∀(k i j:Nat),j∈orbq m k i->∃b,b < k/\lcq m b i=j
 | 0,_,_,h=>by cases h
 | k+1,i,j,h=>by
  rcases Ak.mp h with rfl | h
  ·exact#[0,by ext,rfl]
  ·let#[b,o,l]:=cU k _ j h
   exact#[1+b,by lia,by rw[TZ];exact l]
def Msk(m:Nat):Prop:=m=7∨m=31∨m=127
theorem Msk.orb{m:Nat}(h:Msk m):(∀j,j < m+1->∃b,b < m+1/\lcq m b 0=j)/\lcq m (m+1) 0=0:=by
 let l:∀m,(A0 (m+1)).all (λj=>(PySem.orbq m (m+1) 0).contains j)->∀j,j < m+1->∃b,b < m+1/\lcq m b 0=j:=λm e j o=>cU _ _ _ (by
  ext)
 rcases h with rfl | rfl | rfl
 ·exact#[l _ (by rfl),by rfl]
 ·exact#[l _ (by rfl),by rfl]
 ·exact#[l _ (by rfl),by rfl]
theorem jU(h:Int):bits h < 2 ^ 64:=by
 unfold bits
 lia
theorem dP{m:Nat}(A:Msk m)(h:Int){j:Nat}(B:j < m+1):∃k,k < m+14/\(lpq m k (bits h % (m+1),bits h)).1=j:=by
 let#[l,C]:=A.orb
 let o:lpq m 13 (bits h % (m+1),bits h)=((lpq m 13 (bits h % (m+1),bits h)).1,0):=by
  let:(lpq m 13 (bits h % (m+1),bits h)).2=0:=by
   rw[kF];exact Nat.div_eq_of_lt (Ol (jU h) (by ext))
  rw[<-this]
 let w:(lpq m 13 (bits h % (m+1),bits h)).1 < m+1:=Nf _ (V0 _);generalize (lpq m 13 (bits h % (m+1),bits h)).1=i at o w;let#[a,H,E]:=l i w;let#[b,b1,b2]:=l j B
 let fin:∀r,r < m+1->lcq m (a+r) 0=j->∃k,k < m+14/\(lpq m k (bits h % (m+1),bits h)).1=j:=λr I G=>by
  refine#[13+r,by lia,?_];rw[cq,o,YD];rw[<-E,<-TZ];exact G
 by_cases c:a<=b
 ·exact fin (b - a) (by grind) ∅
 ·refine fin (m+1+b - a) ∅ ?_
  rw[show a+(m+1+b - a)=(m+1)+b by lia,TZ,C];exact b2
theorem ny{m:Nat}(l:Msk m)(h:Int){j:Nat}(o:j < m+1):∃s,s < 10 * (m+14)/\(itq m s (P2 m (bits h % (m+1)) (bits h))).j=j:=by
 let#[k,B,w]:=dP l h o;let#[s,C,A]:=kI k;exact#[s,by lia,by rw[A];exact w]
def p0q(m:Nat)(h:Int):T6:=P2 m (bits h % (m+1)) (bits h)
def sqq(m:Nat)(h:Int)(s:Nat):Nat:=(itq m s (p0q m h)).j
def Rch(m:Nat)(l:¬Nat)(q:Int×Nat):Prop:=∃s,sqq m q.1 s=q.2/\∀j,j < s->sqq m q.1 j∈l
structure Tbq(t:D8)(hs:Z'):Prop where
 msk:Msk t.mask
 dm:t.dummies = #[]
 up:Up t.place
 sz:t.place.size=-hs
 le:∀j∈t.place.toList,j<=t.mask
 few:-hs * 5 < t.mask * 3
 rch:∀q∈hs.zip t.place.toList,Rch t.mask t.place.toList q
theorem kK(m:Nat)(p:T6):∀s,(itq m s p).dummy=p.dummy
 | 0=>rfl
 | s+1=>by
  let:=kK m p s;show(Ou m (itq m s p)).dummy=_;unfold Ou
  split <;> exact this
theorem Nu{m i:Nat}(h:i<=m):Fi m i<=m:=by unfold Fi;split <;> ext
theorem N5(m i:Nat):i<=Fi m i:=by unfold Fi;split <;> ext
theorem kJ{m:Nat}(h:Int):∀s,(itq m s (p0q m h)).j+(itq m s (p0q m h)).more<=m
 | 0=>by
  let l:bits h % (m+1)<=m:=On (Nf _ (V0 _));let o:=Nu l;let w:=N5 m (bits h % (m+1));show bits h % (m+1)+(Fi m (bits h % (m+1)) - bits h % (m+1))<=m
  ext
 | s+1=>by
  let A:=kJ (m:=m) h s;show(Ou m (itq m s (p0q m h))).j+(Ou m (itq m s (p0q m h))).more<=m;unfold Ou;split
  ·symm;lia
  ·let l:(UG m (itq m s (p0q m h)).i (itq m s (p0q m h)).perturb).1<=m:=On (Nf _ (V0 _))
   let o:=Nu l;let w:=N5 m (UG m (itq m s (p0q m h)).i (itq m s (p0q m h)).perturb).1;ext
theorem Xr{m:Nat}(h:Int)(s:Nat):sqq m h s<=m:=by let:=kJ (m:=m) h s;unfold sqq;lia
theorem nO{j:Type}[DecidableEq j]:∀{l k:¬j},l.Nodup->(∀x∈l,x∈k)->-l<=-k
 | [],_,_,_=>Bc _
 | x :: l,k,o,h=>by
  let m:=h x Aa;let#[w,A]:=BO.mp o
  let:=nO A λy B=>(XQ (λz:y=x=>w (by ext))).mpr (h y (AN _ B))
  rw[T8 m]at this;let:=Vi m;rw[Au]
  grind
section
variable{t:D8}{hs:Z'}{h:Int}
theorem LH(u:Up t.place){j i:Nat}(e:t.place[i]?=!j):t.slot j=.live i:=by
 let l:i < t.place.size:=by
  rcases Gr i t.place.size with z | z
  ·exact z
  ·rw[J8 z]at e;cases e
 let o:t.place[i]=j:=by rw[Bp l]at e;exact Bw e
 let hb:=(K4 u j).eq #[KP l,λk m z=>o▸u.lt z l,λk m z=>by
  rcases Gr i k with c | c
  ·let:=u.lt c m;lia
  ·let:k=i:=by lia
   subst this;ext]
 unfold slot
 ext
theorem bb(l:t.dummies = #[]){j:Nat}(n:j∉t.place.toList):t.slot j=.empty:=by
 unfold slot;rw[qY,qY]
 ·rw[l];simp[has,FU]
 ·intro z
  let z:=eq_of_beq z
  exact n (by
   let:=Co z
   ext)
theorem sD{j:Nat}(h:j∈t.place.toList):∃i:Nat,t.place[i]?=!j:=by
 let#[i,l]:=HZ h
 grind
theorem Tbq.first(T:Tbq t hs)(h:Int):∃E,E < 10 * (t.mask+14)/\sqq t.mask h E∉t.place.toList/\∀s,s < E->sqq t.mask h s∈t.place.toList:=by
 let A:-t.place.toList<=t.mask:=by rw[Ad,T.sz];let:=T.few;lia
 obtain⟨j,l,G⟩:∃j,j < t.mask+1/\j∉t.place.toList:=by
  refine BY λz=>?_
  let all:∀j∈A0 (t.mask+1),j∈t.place.toList:=λj l=>BY λw=>z #[j,CG.mp l,w]
  let:=nO O2 all;rw[DB]at this
  lia
 let#[s,L,H]:=ny T.msk h l
 let m:∀n,(∃s,s<=n/\sqq t.mask h s∉t.place.toList)->∃E,E<=n/\sqq t.mask h E∉t.place.toList/\∀s,s < E->sqq t.mask h s∈t.place.toList:=λn=>by
  induction n with
  | zero=>rintro⟨s,B,C⟩;exact#[s,B,C,λN h=>zX h (by ext)]
  | succ n I=>
   rintro⟨s,B,C⟩
   by_cases c:∃s,s<=n/\sqq t.mask h s∉t.place.toList
   ·let#[E,J,o]:=I c;exact#[E,by lia,o]
   grind
 let#[E,J,o]:=m s #[s,AM _,by show(itq t.mask s (p0q t.mask h)).j∉_;rw[show(itq t.mask s (p0q t.mask h)).j=j from H];exact G];exact#[E,by lia,o]
theorem Tbq.go(T:Tbq t hs){E:Nat}(C:sqq t.mask h E∉t.place.toList)(hl:∀s,s < E->sqq t.mask h s∈t.place.toList){m:Nat->Int}:∀(f s:Nat),s<=E->E < s+f ->
  (LU t m h f (itq t.mask s (p0q t.mask h))=!.empty (sqq t.mask h E) none/\∀s' i,s<=s'->s' < E->t.place[i]?=!sqq t.mask h s'->m i≠h) ∨
  ∃s' i,s<=s'/\s' < E/\t.place[i]?=!sqq t.mask h s'/\m i=h/\LU t m h f (itq t.mask s (p0q t.mask h))=!.candidate (sqq t.mask h s') i (itq t.mask (s'+1) (p0q t.mask h))/\∀l i,s<=l->l < s'->t.place[i]?=!sqq t.mask h l->m i≠h
 | 0,s,H,G=>zX G ∅
 | f+1,s,H,G=>by
  by_cases c:s=E
  ·subst c
   refine .inl #[?_,λs' M w o=>zX o ∅];unfold LU;rw[show(itq t.mask s (p0q t.mask h)).j=sqq t.mask h s from rfl,bb T.dm C];rw[kK];rfl
  ·let#[i,B]:=sD (hl s ∅)
   let e:LU t m h (f+1) (itq t.mask s (p0q t.mask h))=if m i==h then !.candidate (sqq t.mask h s) i (itq t.mask (s+1) (p0q t.mask h))else LU t m h f (itq t.mask (s+1) (p0q t.mask h)):=by
    conv=>lhs;unfold LU
    rw[show(itq t.mask s (p0q t.mask h)).j=sqq t.mask h s from rfl,LH T.up B];rw[XC];rfl
   let one:∀k,t.place[k]?=!sqq t.mask h s->k=i:=λk I=>by
    let a:=LH T.up I;rw[LH T.up B]at a;cases a;rfl
   by_cases d:m i=h
   ·exact .inr #[s,i,AM _,by lia,B,d,by ext,λl M w o=>zX o ∅]
   ·let e:=e.trans (qY (by simp[d]))
    rw[e]
    let step:∀{l k:Nat},s<=l->t.place[k]?=!sqq t.mask h l->Not (s+1<=l)->m k≠h:=λ{l k} w o A=>by
     grind
    rcases Tbq.go T C hl f (s+1) ∅ ∅with⟨a,b⟩ | ⟨s',k,a,b,J,L,N,O⟩
    ·exact .inl #[a,λs' k w o A=>by
      by_cases z:s+1<=s'
      ·exact b s' k z o A
      ·exact step w A z]
    ·exact .inr #[s',k,by lia,b,J,L,N,λl k w o A=>by
      by_cases z:s+1<=l
      ·exact O l k z o A
      ·exact step w A z]
end
theorem Te{m i pt S q:Nat}{h:Int}(e:itq m S (p0q m h)=P2 m i pt)(j:q<=Fi m i - i):sqq m h (S+q)=i+q:=by
 unfold sqq;rw[Wx,e,Ww q j]
abbrev OG(o:Array (⇑Nat))(j:Nat):Prop:=o[j]?=!none
theorem YQ{o:Array (⇑Nat)}{j:Nat}(l:j < o.size):(o.getD j (!0)).isNone=true↔OG o j:=by
 rw[C2,Bp l];simp[OG,l]
theorem YO{m:Nat}{h:Int}{o:Array (⇑Nat)}(I:o.size=m+1):∀(f k S:Nat),itq m S (p0q m h)=P2 m (lpq m k (bits h % (m+1),bits h)).1 (lpq m k (bits h % (m+1),bits h)).2->(∀s,s < S->Not (OG o (sqq m h s))) ->
  (∃K,k<=K/\K < k+f/\OG o (lpq m K (bits h % (m+1),bits h)).1) ->
  ∃s,IN m o f (lpq m k (bits h % (m+1),bits h)).1 (lpq m k (bits h % (m+1),bits h)).2=!sqq m h s/\OG o (sqq m h s)/\∀s',s' < s->Not (OG o (sqq m h s'))
 | 0,k,S,_,_,#[K,a,b,_]=>zX b ∅
 | f+1,k,S,j,E,#[K,a,b,c]=>by
  let l:=YO (h:=h) I f (k+1)
  let A:(lpq m k (bits h % (m+1),bits h)).1<=m:=by
   let:=Xr (m:=m) h S;unfold sqq at this;rw[j]at this;exact this
  let J:lpq m (k+1) (bits h % (m+1),bits h)=UG m (lpq m k (bits h % (m+1),bits h)).1 (lpq m k (bits h % (m+1),bits h)).2:=rfl;rw[J]at l
  let B:K=k->OG o (lpq m k (bits h % (m+1),bits h)).1:=λe=>e▸c
  generalize lpq m k (bits h % (m+1),bits h)=x at A j l B ⊢;let#[i,pt]:=x;dsimp only at A j l B ⊢;let P:=Nu A;let L:=N5 m i;unfold IN
  cases G:(A0 (Fi m i+1 - i)).find? λk=>(o.getD (i+k) (!0)).isNone with
  | some q=>
   let#[C,H,N]:=List.find?_range_eq_some.mp G;let H:=CG.mp H;refine#[S+q,by rw[Te j (by grind)],by rw[Te j ∅];exact(YQ (by grind)).mp C,λs' O=>?_]
   by_cases z:s' < S
   ·exact E s' z
   ·obtain⟨q',rfl⟩:∃q',s'=S+q':=#[s' - S,by ext]
    rw[Te j (by grind)];intro w;let:=N q' (by ext);ext
  | none=>
   let C:=Z9.mp G
   let run:∀q,q<=Fi m i - i->Not (OG o (i+q)):=λq Q w=>C q (CG.mpr (by grind)) ((YQ (by grind)).mpr w)
   refine l (S+(Fi m i - i+1)) (by rw[Wx,j,YL]) (λs O=>?_) #[K,?_,by lia,c]
   ·by_cases z:s < S
    ·exact E s z
    ·obtain⟨q',rfl⟩:∃q',s=S+q':=#[s - S,by lia]
     rw[Te j ∅];exact run q' ∅
   ·rcases Gr k K with z | z
    ·exact z
    ·exact zX (B ∅) (run 0 (Bc _))
structure Qy(m:Nat)(o:Array (⇑Nat))(l:Z'):Prop where
 sz:o.size=m+1
 lt:∀(j x:Nat),o[j]?=!(!x)->x < -l
 inj:∀(i j x:Nat),o[i]?=!(!x)->o[j]?=!(!x)->i=j
 has:∀(x:Nat) h,l[x]?=!h->∃s,o[sqq m h s]?=!(!x)/\∀s',s' < s->Not (OG o (sqq m h s'))
theorem Qy.room{m:Nat}{o:Array (⇑Nat)}{l:Z'}(O:Qy m o l)(hl:-l<=m):∃j,j < m+1/\OG o j:=by
 refine BY λz=>?_
 let all:∀j,j < m+1->∃x,o[j]?=!(!x):=λj A=>by
  let E:j < o.size:=by rw[O.sz];exact A
  cases e:o[j]with
  | none=>exact zX #[j,A,by show o[j]?=_;ext] z
  | some x=>ext
 let B:((A0 (m+1)).map λj=>((o[j]?).getD none).getD 0).Nodup:=by
  rw[Rm,BL]
  refine O2.imp_of_mem λ{a b} G hb H e=>?_
  let#[x,w]:=all a (CG.mp G);let#[y,C]:=all b (CG.mp hb);rw[w,C]at e;let e:=e;subst e;exact H (O.inj _ _ _ w C)
 let:=nO B λx w=>by
  let#[j,A,rfl]:=Ay.mp w;let#[x,w]:=all j (CG.mp A);rw[w];exact CG.mpr (O.lt _ _ w)
 rw[AD,DB,DB]at this
 lia
theorem Qy.nil(m:Nat):Qy m (ee (m+1) none) []:=by
 let no:∀(j x:Nat),(ee (m+1) (none:⇑Nat))[j]?≠!(!x):=λj x e=>by
  rw[Array.getElem?_replicate]at e
  ext
 exact#[by simp,λj x e=>zX e (no j x),λi j x e=>zX e (no i x),λx h e=>by simp at e]
theorem Qy.step{m:Nat}(Q:Msk m){o:Array (⇑Nat)}{l:Z'}(O:Qy m o l)(hl:-l<=m)(h:Int):∃j,IN m o (Vn m) (bits h % (m+1)) (bits h)=!j/\Qy m (o.setIfInBounds j (!l.length)) (l++[h]):=by
 let#[j,R,S]:=O.room hl;let#[K,k1,T]:=dP Q h R;let#[s,e,f,n]:=YO O.sz (Vn m) 0 0 rfl (λs J=>zX J (by ext)) #[K,Bc _,by unfold Vn;lia,by rw[T];exact S]
 let J:sqq m h s < o.size:=by rw[O.sz];exact eY (Xr h s)
 let B:(o.setIfInBounds (sqq m h s) (!l.length))[sqq m h s]?=!(!l.length):=by rw[Array.getElem?_setIfInBounds];simp[J]
 let A:∀i,i≠sqq m h s->(o.setIfInBounds (sqq m h s) (!l.length))[i]?=o[i]?:=λi N=>by grind
 let P:∀i,Not (OG o i)->Not (OG (o.setIfInBounds (sqq m h s) (!l.length)) i):=λi N w=>by
  by_cases z:i=sqq m h s
  ·lia
  ·rw[OG,A i z]at w;exact N w
 refine#[sqq m h s,e,by simp[O.sz],λj x q=>?_,λi j x E G=>?_,λx U q=>?_]
 ·by_cases z:j=sqq m h s
  ·ext
  ·rw[A j z]at q;let:=O.lt _ _ q;simp;lia
 ·by_cases H:i=sqq m h s <;> by_cases I:j=sqq m h s
  ·rw[H,I]
  ·rw[H,B]at E;rw[A j I]at G;cases E;let:=O.lt _ _ G;ext
  ·rw[I,B]at G;rw[A i H]at E;cases G;let:=O.lt _ _ E;lia
  ·rw[A i H]at E;rw[A j I]at G;exact O.inj _ _ _ E G
 ·by_cases z:x < -l
  ·rw[Bq z]at q
   let#[r,X,Y]:=O.has x U q;refine#[r,?_,λL C=>P _ (Y L C)];rw[A _ λw=>?_]
   ·exact X
   lia
  ·let Z:x=-l:=by
    let:=(AI.mp q).1;simp at this;lia
   subst Z;rw[BU (AM _),V1]at q;cases q;exact#[s,B,λL C=>P _ (n L C)]
theorem VD{m:Nat}(H:Msk m){hs:Array Int}(hl:hs.size<=m+1):∃o,layClean m hs=!o/\Qy m o hs.toList:=by
 let B:∀(r l:Z') (o:Array (⇑Nat)),Qy m o l->-l+-r<=m+1 ->
   ∃A ,r.foldl (λ(C:⇑(Array (⇑Nat)×Nat)) h=>do
    let (w,k) <-C
    let j <-IN m w (Vn m) (bits h % (m+1)) (bits h)
    pure (w.setIfInBounds j (!k),k+1)) (!(o,l.length))=!(A,l.length+-r)/\Qy m A (l++r):=by
  intro r
  induction r with
  | nil=>intro l o O _;exact#[o,rfl,by rw[BP];exact O]
  | cons h r I=>
   intro l o O hl;rw[Au]at hl;let#[j,e,J]:=O.step H ∅ h;let#[A,E,G]:=I (l++[h]) _ J (by rw[AT,Am];lia);refine#[A,?_,by rw[Ba]at G;exact G];rw[List.foldl_cons];show List.foldl _ (IN m o (Vn m) (bits h % (m+1)) (bits h)*>λj=>!(o.setIfInBounds j (!l.length),l.length+1)) r=_;rw[e];rw[AT,Am]at E;rw[Au,show -l+(-r+1)=-l+1+-r by lia];exact E
 let#[o,e,O]:=B hs.toList [] _ (Qy.nil m) (by simpa using hl);refine#[o,?_,by simpa using O];unfold layClean
 ext
abbrev HX(es:Array (Int×AE)):Z':=es.toList.map (·.1)
theorem Wh{l:¬Nat}{n:Nat}(j:l.Nodup)(m:∀x∈l,x < n)(o:∀x,x < n->x∈l):l.Perm (A0 n):=
 (List.perm_ext_iff_of_nodup j O2).mpr λx=>#[λh=>CG.mpr (m x h),λh=>o x (CG.mp h)]
theorem bw{j:Type}(l:¬j):(A0 (-l)).filterMap (λi=>l[i]?)=l:=by
 induction l with
 | nil=>rfl
 | cons a l m=>
  rw[Au,Vg,Ho];simp only[UK,aA];exact congrArg (a :: ·) m
theorem i9{m fg mv:Nat}{led plain:Bool}(P:Msk m){es:Array (Int×AE)}(hl:es.size * 5 < m * 3) :
  ∃t ord,laid m fg mv led plain (es.map (·.1))=!(t,ord)/\t.mask=m/\t.led=led/\t.moves=mv/\EV (ord.filterMap (es[·]?)).toList es.toList/\Tbq t (HX (ord.filterMap (es[·]?))):=by
 let#[o,e,O]:=VD P (hs:=es.map (·.1)) (by rw[fU];lia)
 let Q:-(es.map (·.1)).toList=es.size:=by simp
 let A:∀j x,(j,x)∈(A0 (m+1)).filterMap (λj=>(o.getD j none).map (j,·))↔o[j]?=!(!x):=λj x=>by
  rw[NX]
  constructor
  ·rintro⟨Z,B,q⟩
   rw[C2]at q
   cases w:o[Z]? with
   | none=>ext
   | some y=>
    ext
  ·intro q
   let B:j < o.size:=by
    rcases Gr j o.size with z | z
    ·exact z
    ·ext
   exact#[j,CG.mpr (by rw[<-O.sz];exact B),by ext]
 let R:((A0 (m+1)).filterMap (λj=>(o.getD j none).map (j,·))).Pairwise λa b=>a.1 < b.1:=by
  refine ON _ (λa a' h b hb b' G=>?_) KJ
  let k:∀(a:Nat) (b:Nat×Nat),(o.getD a none).map (a,·)=!b->b.1=a:=λa b q=>by
   cases w:o.getD a none with
   | none=>ext
   | some _=>rw[w]at q;cases q;rfl
  rw[k _ _ hb,k _ _ G];exact h
 let H:laid m fg mv led plain (es.map (·.1))=!({ mask:=m,place:=(((A0 (m+1)).filterMap λj=>(o.getD j none).map (j,·)).map (·.1)).toArray,dummies:=#[],finger:=fg,led,moves:=mv,plain },(((A0 (m+1)).filterMap λj=>(o.getD j none).map (j,·)).map (·.2)).toArray):=by
  unfold laid;rw[e];rfl
 let S:=(i8 H).1;generalize (A0 (m+1)).filterMap (λj=>(o.getD j none).map (j,·))=lv' at A R H S
 let T:(lv'.map (·.2)).Perm (A0 es.size):=by
  refine Wh ?_ (λx C=>?_) λx C=>?_
  ·rw[Rm,BL]
   refine R.imp_of_mem λ{a b} E hb tq e=>?_
   let:=O.inj _ _ _ ((A a.1 a.2).mp E) (by rw[e];exact(A b.1 b.2).mp hb)
   ext
  ·let#[#[j,y],I,rfl]:=Ay.mp C
   let:=O.lt _ _ ((A j y).mp I);ext
  ·let:x < -(es.map (·.1)).toList:=by rw[Q];exact C
   let#[s,J,_]:=O.has x _ (AJ this);exact Ay.mpr #[_,(A _ _).mpr J,rfl]
 let ef:((lv'.map (·.2)).toArray.filterMap (es[·]?)).toList=(lv'.map (·.2)).filterMap (es.toList[·]?):=by
  rw[Array.toList_filterMap];simp
 let L:EV ((lv'.map (·.2)).toArray.filterMap (es[·]?)).toList es.toList:=by
  rw[ef]
  let:=T.filterMap λi=>es.toList[i]?
  rw[<-Ad,bw]at this;exact this
 refine#[_,_,H,rfl,rfl,rfl,L,P,rfl,S,?_,λj B=>?_,?_,λq l=>?_]
 ·rw[AD,L.length_eq,BZ,AD,Ad]
  let:=T.length_eq
  ext
 ·let B:j∈lv'.map (·.1):=by simpa using B
  let#[#[j,y],I,rfl]:=Ay.mp B;let B:=(A j y).mp I
  rcases Gr j o.size with z | z
  ·rw[O.sz]at z;exact On z
  ext
 ·rw[AD,L.length_eq,Ad];exact hl
 ·-- each entry is come to
  let l:q∈(((lv'.map (·.2)).filterMap (es.toList[·]?)).map (·.1)).zip (lv'.map (·.1)):=by
   rw[show HX ((lv'.map (·.2)).toArray.filterMap (es[·]?))=((lv'.map (·.2)).filterMap (es.toList[·]?)).map (·.1) by ext]at l;simpa using l
  let N:∀k:¬(Nat×Nat),(∀x∈k,x∈lv')->∀q∈(((k.map (·.2)).filterMap (es.toList[·]?)).map (·.1)).zip (k.map (·.1)),∃x,(q.2,x)∈lv'/\((es.map (·.1)).toList)[x]?=!q.1:=by
   intro k
   induction k with
   | nil=>intro _ q l;simp at l
   | cons a k ih=>
    intro U q l;let E:=U a Aa
    let X:a.2 < -es.toList:=by
     let:=O.lt _ _ ((A a.1 a.2).mp E);rw[Q]at this;rw[Ad];exact this
    rw[Al,Ho,AJ X,Al,Al,IP]at l
    rcases Ak.mp l with rfl | l
    ·refine#[a.2,E,?_]
     rw[HD,Ai,AJ X];rfl
    ·exact ih (λx C=>U x (AN _ C)) q l
  let#[x,J,h2]:=N lv' (λM h=>h) q l;let#[s,s1,s2]:=O.has x _ h2;refine#[s,O.inj _ _ _ s1 ((A _ _).mp J),λY hs'=>?_]
  let hz:sqq m q.1 Y < o.size:=by rw[O.sz];exact eY (Xr _ _)
  cases w:o[sqq m q.1 Y]with
  | none=>grind
  | some y=>
   ext
theorem G7{j:Type}(xs:Array j)(p:Nat)(x:j):(insertAt xs p x).toList=xs.toList.take p++x :: xs.toList.drop p:=by
 unfold insertAt;simp[Array.toList_extract,List.extract_eq_drop_take];exact Cb ∅
theorem Rch.mono{m:Nat}{l j:¬Nat}{q:Int×Nat}(r:Rch m l q)(h:∀x∈l,x∈j):Rch m j q:=let #[s,a,b]:=r;#[s,a,λo z=>h _ (b o z)]
theorem Tbq.put{t:D8}{es:Array (Int×AE)}{h:Int}{x:AE}(T:Tbq t (HX es)){E:Nat}(C:sqq t.mask h E∉t.place.toList)(hl:∀s,s < E->sqq t.mask h s∈t.place.toList) :
  (t.put (sqq t.mask h E)).1={ t with place:=insertAt t.place (FU t.place (sqq t.mask h E)) (sqq t.mask h E) } /\
  ((es.size+1) * 5 < t.mask * 3->Tbq (t.put (sqq t.mask h E)).1 (HX (insertAt es (t.put (sqq t.mask h E)).2 (h,x)))):=by
 let B:(t.put (sqq t.mask h E)).1={ t with place:=insertAt t.place (FU t.place (sqq t.mask h E)) (sqq t.mask h E) }:=by
  show({ t with place:=insertAt t.place (FU t.place (sqq t.mask h E)) (sqq t.mask h E),dummies:=_ }:D8)=_;rw[T.dm];rfl
 refine#[B,λG=>?_];let H:(t.put (sqq t.mask h E)).2=FU t.place (sqq t.mask h E):=rfl;rw[B,H]
 let I:=Yz T.up λz=>C (BC.mpr (Co z))
 generalize FU t.place (sqq t.mask h E)=p at *
 let N:-t.place.toList=-HX es:=by rw[Ad];exact T.sz
 let l:=G7 t.place p (sqq t.mask h E)
 let w:HX (insertAt es p (h,x))=(HX es).take p++h :: (HX es).drop p:=by
  unfold HX;rw[G7,Bv,Al,Ml,T7]
 let sub:∀y∈t.place.toList,y∈(insertAt t.place p (sqq t.mask h E)).toList:=λy J=>by
  rw[l];rw[<-DK p t.place.toList]at J
  grind
 refine#[T.msk,T.dm,I,?_,λj m=>?_,?_,λq o=>?_]
 ·rw[<-Ad,l,w]
  ext
 ·let m:=m
  rw[l]at m
  rcases Aj.mp m with z | z
  ·exact T.le j (FM z)
  ·rcases Ak.mp z with z | z
   ·rw[z];exact Xr _ _
   ·exact T.le j (HY z)
 ·rw[w]
  let:-HX es=es.size:=by unfold HX;simp
  simp only[AT,Au,Cc,FX,this]
  grind
 ·let o:=o
  rw[w,l,Q7 (by ext),IP,show((HX es).take p).zip (t.place.toList.take p)=((HX es).zip t.place.toList).take p from List.take_zipWith.symm,show((HX es).drop p).zip (t.place.toList.drop p)=((HX es).zip t.place.toList).drop p from List.drop_zipWith.symm]at o
  rcases Aj.mp o with z | z
  ·exact(T.rch q (FM z)).mono sub
  ·rcases Ak.mp z with z | z
   ·rw[z];exact#[E,rfl,λL A=>sub _ (hl L A)]
   ·exact(T.rch q (HY z)).mono sub
section
variable{prog:Ao}{w:A3}{A:BR}{E:AE->AK->Prop}{s:AK}
abbrev IsR(prog:Ao)(w:A3)(h:BG)(k:Z')(a:AL):Prop:=ku (HM prog w) h k a
theorem QX{k:Z'}{vs:¬AE}(h:ItemsAre (HM prog w) k vs):∀v∈vs,∃i t,v=.int i t:=by
 induction h with
 | nil=>ext
 | cons l _ m=>
  intro v j
  rcases Ak.mp j with rfl | j
  ·let#[t,e]:=Z1 l;exact#[_,t,e]
  ext
theorem KU{k:Z'}{a:AL}{Q:Bool->AK->Prop}(C:IsR prog w s.heap k a)(h:Q true s):AW (AY prog w) A (fC 8 (.ref a)) Q E s:=by
 let H:=C.typeIs;let#[o,l,n,I,_,J,L]:=C;unfold fC;refine AA (EO H HB.lookup ?_);refine AA (Eg I J ?_);dsimp only[Option.getD];refine AA ?_;rw[<-GA];refine LR _ (λj r m=>r.1=none/\m=s/\∀v∈j,∃i t,v=.int i t) _ ?_ ?_ _ _ #[rfl,rfl,QX L]
 ·rintro v j r m ⟨B,rfl,G⟩
  let#[i,t,rfl]:=G v Aa;refine AA (AC ?_);exact AC #[rfl,rfl,λu N=>G u (AN _ N)]
 ·rintro⟨O,P⟩ m ⟨B,rfl,_⟩
  simp only at B;subst B;exact AC h
theorem OP{k:Z'}{a:AL}{Q:Bool->AK->Prop}(H:IsR prog w s.heap k a)(h:Q false s):AW (AY prog w) A (KH 8 (.ref a)) Q E s:=by
 let#[o,l,n,C,I,J,L]:=H;unfold KH;refine AA (wpAny_typeOf_ref C ?_);rw[I];refine AA (AC ?_);refine AA (Eg C J ?_);refine AA ?_;rw[<-GA];refine LR _ (λj r m=>r.1=none/\m=s/\∀v∈j,∃i t,v=.int i t) _ ?_ ?_ _ _ #[rfl,rfl,QX L]
 ·rintro v j r m ⟨B,rfl,G⟩
  let#[i,t,rfl]:=G v Aa
  let N:KH 7 (.int i t)=pure false:=by unfold KH;rfl
  rw[N];refine AA (AC ?_);exact AC #[rfl,rfl,λu O=>G u (AN _ O)]
 ·rintro⟨P,R⟩ m ⟨B,rfl,_⟩
  simp only at B;subst B;exact AC h
theorem fZ{k:Z'}{a:AL}{o:¬AE}{Q:Bool->AK->Prop}(B:IsR prog w s.heap k a)(G:∀y∈o,∃b k',y=.ref b/\IsR prog w s.heap k' b)(h:Q false s):AW (AY prog w) A (on (.ref a) o) Q E s:=by
 unfold on;refine AA ?_;refine LR _ (λj r l=>r.1=none/\l=s/\∀v∈j,∃b k',v=.ref b/\IsR prog w s.heap k' b) _ ?_ ?_ _ _ #[rfl,rfl,G]
 ·rintro v j r l ⟨m,e,C⟩
  subst e;let#[b,k',rfl,hb]:=C v Aa
  let nx:=λu (H:u∈j)=>C u (AN _ H)
  symm;split
  ·exact AC #[rfl,rfl,nx]
  ·refine AA (eV B ?_)
   refine AA (eV hb ?_);refine AA (OP B ?_);refine AA (OP hb ?_);exact AC #[rfl,rfl,nx]
 ·rintro⟨I,J⟩ l ⟨m,rfl,_⟩
  simp only at m;subst m;exact AC h
end
abbrev hRq(prog:Ao)(w:A3)(k:Z'):Int:=RC (HM prog w) k
def EnR(prog:Ao)(w:A3)(h:BG)(p:(Int×AE)×Z'):Prop:=∃b,p.1=(hRq prog w p.2,.ref b)/\IsR prog w h p.2 b
structure Ov(prog:Ao)(w:A3)(h:BG)(a:AL)(es:Array (Int×AE))(ep:Nat)(t:D8)(ps:¬((Int×AE)×Z')):Prop where
 ob:∃o,h.get? a=!o/\o.ExactSet/\o.data=.set es ep t
 tb:Tbq t (HX es)
 led:t.led=(not (w.params.followText "set-order"))
 es':ps.map (·.1)=es.toList
 en:∀p∈ps,EnR prog w h p
theorem Tbq.fits{t:D8}{es:Array (Int×AE)}(T:Tbq t (HX es)):t.fits es.size:=by
 let j:=T.sz;let l:=T.few
 let m:-HX es=es.size:=by unfold HX;simp
 rw[m]at j l;unfold Q2 Q3;rw[T.dm,j];simp
 lia
theorem Msk.odd{m:Nat}(h:Msk m):(m % 2==0)=false:=by rcases h with rfl | rfl | rfl <;> rfl
section
variable{prog:Ao}{w:A3}{A:BR}{E:AE->AK->Prop}{s:AK}{a b:AL}{es:Array (Int×AE)}{ep:Nat}{t:D8}{ps:¬((Int×AE)×Z')}{k:Z'}
theorem Ov.state{Q:Array (Int×AE)×Nat×D8->AK->Prop}(S:Ov prog w s.heap a es ep t ps)(h:Q (es,ep,t) s):AW (AY prog w) A (setState a) Q E s:=by
 let#[o,j,_,l]:=S.ob;exact DF j l S.tb.fits h
theorem Ov.at{i:Nat}(S:Ov prog w s.heap a es ep t ps)(hi:i < es.size):∃k' j,es[i]?=!(hRq prog w k',.ref j)/\IsR prog w s.heap k' j/\((hRq prog w k',AV j),k')∈ps/\ps[i]?=!((hRq prog w k',.ref j),k'):=by
 let l:i < -ps:=by rw[<-AD,S.es',Ad];exact hi
 let#[j,e,hb]:=S.en _ (CJ l)
 let m:(ps.map (·.1))[i]?=!(ps[i]).1:=by rw[Ai,AJ l];rfl
 rw[S.es',CM]at m
 grind
theorem Rz(S:Ov prog w s.heap a es ep t ps)(hu:A.units+4 < Bf)(R:IsR prog w s.heap k b){F:Nat}(hF:sqq t.mask (hRq prog w k) F∉t.place.toList)(hl:∀s,s < F->sqq t.mask (hRq prog w k) s∈t.place.toList)(T:F < 10 * Vn t.mask)
  {Q:SetFound->AK->Prop} (h1:(∃p∈ps,p.2=k)->Q (.there none) s) (h2:(∀p∈ps,p.2≠k)->Q (.free (sqq t.mask (hRq prog w k) F) false) s) :
  ∀(f s0:Nat) (st:⇑T6),s0<=F->F < s0+f->st.getD (t.probeStart (hRq prog w k))=itq t.mask s0 (p0q t.mask (hRq prog w k)) ->
   (∀s' (i:Nat) p,s' < s0->t.place[i]?=!sqq t.mask (hRq prog w k) s'->ps[i]?=!p->p.2≠k)->AW (AY prog w) A (Oy a (.ref b) (hRq prog w k) true f st) Q E s
 | 0,s0,st,q1,q2,_,_=>zX q2 ∅
 | f+1,s0,st,q1,q2,uK,C=>by
  let ih:=Rz S hu R hF hl T h1 h2 f
  let U:∀{i j:Nat},t.place[i]?=!j->i < es.size:=λ{i j} e=>by
   let:i < t.place.size:=by
    rcases Gr i t.place.size with z | z
    ·exact z
    ·rw[J8 z]at e;cases e
   rw[S.tb.sz]at this;ext
  let G:∀{m:Met},LU t (λi=>(es[i]?.map (·.1)).getD 0) (hRq prog w k) (10 * Vn t.mask) (itq t.mask s0 (p0q t.mask (hRq prog w k)))=!m->D8.probe t (λi=>(es[i]?.map (·.1)).getD 0) (hRq prog w k) (st.getD (t.probeStart (hRq prog w k)))=!m:=λe=>by rw[uK];exact e
  let met:∀p∈ps,p.2=k->∃s' i,s' < F/\t.place[i]?=!sqq t.mask (hRq prog w k) s'/\ps[i]?=!p:=λp H e=>by
   let#[i,I]:=HZ H
   let hz:i < es.size:=by
    let:=(AI.mp I).1;rw[<-AD,S.es',Ad]at this;exact this
   let X:i < t.place.size:=by rw[S.tb.sz];simpa using hz
   let#[L,b',J,_,_,N]:=S.at hz;rw[I]at N;cases N;let e:L=k:=e;rw[e]at J
   let Y:(hRq prog w k,t.place[i])∈(HX es).zip t.place.toList:=by
    refine Az (i:=i) ?_;rw[Sf];exact#[by ext,by ext]
   let#[r,r1,r2]:=S.tb.rch _ Y
   let hr:r < F:=by
    rcases eX r F with z | z | z
    ·exact z
    ·ext
    ·ext
   exact#[r,i,hr,by rw[r1,Bp X],I]
  unfold Oy;refine AA (S.state ?_);symm;unfold D8.gaveWay;rw[S.tb.msk.odd]
  rcases S.tb.go hF hl (10 * Vn t.mask) s0 q1 ∅with⟨e,B⟩ | ⟨s',i,a1,a2,Z,a4,e,a5⟩
  ·let e:=G e
   erw [e]
   refine AC (h2 λp H z=>?_);let#[s',i,c1,c2,c3]:=met p H z
   by_cases c:s' < s0
   ·exact C s' i p c c2 c3 z
   ·refine B s' i (by ext) c1 c2 ?_
    let#[L,b',J,_,_,N]:=S.at (U c2)
    grind
  ·let e:=G e
   erw [e]
   let I:=U Z;let#[L,b',J,hb',hm,N]:=S.at I
   let cont:AW (AY prog w) A (do
     let some (_,y):=es[i]? | unsupported "internal:set-entry"
     let l <-F7 [y] (eqBool y (.ref b))
     let (es',_,t') <-setState a
     if true&&l then return .there none
     let some same:=t'.sameMemory t.moves t.mask | unsupported "set.changed-during-lookup:is-the-new-block-at-the-old-address"
     let yM <-match(if same then t'.slot (sqq t.mask (hRq prog w k) s')else .empty)with
      | .live o=>match es'[o]? with
       | some (_,y')=>do pure (if <-isSame y' y then !o else none)
       | none=>pure none
      | _=>pure none
     match yM with
     | none=>rule "set.search.anew";Oy a (.ref b) (hRq prog w k) true f none
     | some o=>if l then return .there (!o)else Oy a (.ref b) (hRq prog w k) true f (!itq t.mask (s'+1) (p0q t.mask (hRq prog w k)))) Q E s:=by
    rw[J];refine AA (C0 (kY ∅ hb' R ?_));refine AA (S.state ?_)
    by_cases c:L=k
    ·rw[wX c]
     exact AC (h1 #[_,hm,c])
    ·rw[wY c]
     simp only[jk,BB,if_false];rw[show t.sameMemory t.moves t.mask=!true by unfold D8.sameMemory;simp];simp only[if_true];rw[LH S.tb.up Z];symm;rw[J];refine AA (wpAny_isSame_ref_self ?_);refine AA (AC ?_)
     refine ih (s'+1) _ ∅ ∅ rfl λO o p d1 d2 d3=>?_
     by_cases z:O < s0
     ·exact C O o p z d2 d3
     ·by_cases z2:O=s'
      ·subst z2
       let:o=i:=by
        let x:=LH S.tb.up d2;rw[LH S.tb.up Z]at x;cases x;rfl
       lia
      ·intro y
       refine a5 O o ∅ ∅ d2 ?_;let#[k2,b2,f1,_,_,f4]:=S.at (U d2)
       grind
   cases hld:t.led with
   | true=>
    assumption
   | false=>
    refine AA (fZ R (λy hy=>?_) ?_)
    ·let#[en,P,rfl]:=Ay.mp hy
     let P:en∈es.toList:=by
      let:=BC.mp P;exact BC.mpr (Array.mem_filter.mp this).1
     rw[<-S.es']at P;let#[p,H,rfl]:=Ay.mp P;let#[b2,q,Y]:=S.en p H;exact#[b2,p.2,by rw[q],Y]
    ·exact cont
end
theorem R9{o C:Type}{f:o->C}{l k:¬C}(h:l.Perm k):∀j:¬o,j.map f=k->∃m:¬o,m.Perm j/\m.map f=l:=by
 induction h with
 | nil=>simp
 | cons x _ G=>
  intro j e
  cases j with
  | nil=>cases e
  | cons p j=>
   rw[Al,Nh]at e;let#[m,w,E]:=G j e.2;exact#[p :: m,w.cons p,by ext]
 | swap x y l=>
  intro j e
  match j,e with
  | p :: q :: j,e=>
   rw[Al,Al,Nh,Nh]at e;exact#[q :: p :: j,.swap _ _ _,by ext]
 | trans _ _ A B=>
  intro j e;let#[m,w,E]:=B j e;let#[H,I,J]:=A m E;exact#[H,I.trans w,J]
section
variable{prog:Ao}{w:A3}{A:BR}{E:AE->AK->Prop}{s:AK}{a b:AL}{es:Array (Int×AE)}{ep:Nat}{t:D8}{ps:¬((Int×AE)×Z')}{k:Z'}
theorem IsR.keep{h h':BG}(x:IsR prog w h k b)(e:∀o,h.get? b=!o->h'.get? b=!o):IsR prog w h' k b:=let #[o,j,n,l,r]:=x;#[o,j,n,e _ l,r]
theorem IsR.ne{h:BG}(x:IsR prog w h k b){o:Obj}(m:h.get? a=!o)(B:o.data=.set es ep t):b≠a:=by
 rintro rfl;let#[C,j,n,G,_,l,_]:=x
 ext
theorem Ov.store{h:BG}(S:Ov prog w h a es ep t ps){j:Array (Int×AE)}{t':D8}{vp:¬((Int×AE)×Z')}(B:Tbq t' (HX j))(hl:t'.led=t.led)(C:vp.map (·.1)=j.toList)(G:∀p∈vp,EnR prog w h p) :
  Ov prog w (h.update a (Df j t')) a j (ep+1) t' vp:=by
 let#[o,m,H,l]:=S.ob
 let I:(h.update a (Df j t')).get? a=some { o with data:=.set j (ep+1) t' }:=by
  let:=Cq (Df j t') m (by rw[OL j t' l];rfl);rw[OL j t' l]at this;exact this
 let J:=B7 h a (Df j t')
 exact#[#[_,I,H,rfl],B,hl.trans S.led,C,λp q=>by
  let#[b,e,hb]:=G p q
  exact#[b,e,hb.keep λL q=>(J.2 b (hb.ne m l)).trans q]]
theorem bu{h:BG}{es:Array (Int×AE)}{t:D8}(o:Msk t.mask)(C:(es.size - 1) * 5 < t.mask * 3)(B:Not (es.size * 5 < t.mask * 3))(L:es.size<=76) :
  Li (GD es.size)<=sizeLine/\∃j ord,t.relaid (es.map (·.1)) (GD es.size)=!(j,ord)/\j.led=t.led/\EV (ord.filterMap (es[·]?)).toList es.toList/\Tbq j (HX (ord.filterMap (es[·]?))):=by
 let l:∀m,Msk m->Li (GD es.size)=m+1->es.size * 5 < m * 3->Li (GD es.size)<=sizeLine/\∃j ord,t.relaid (es.map (·.1)) (GD es.size)=!(j,ord)/\j.led=t.led/\EV (ord.filterMap (es[·]?)).toList es.toList/\Tbq j (HX (ord.filterMap (es[·]?))):=λm o e G=>by
  refine#[by rw[e,T2];rcases o with rfl | rfl | rfl <;> decide,?_];let#[j,ord,N,_,H,_,I,J]:=i9 (fg:=t.finger) (mv:=t.movedTo m) (plain:=t.plain) o G;refine#[j,ord,?_,H,I,J];unfold D8.relaid;ext
 rcases o with z | z | z
 ·let:es.size=5:=by rw[z]at C B;lia
  rw[this]at l ⊢;exact l 31 (.inr (.inl rfl)) (by rfl) (by ext)
 ·let:es.size=19:=by rw[z]at C B;lia
  rw[this]at l ⊢;exact l 127 (.inr (.inr rfl)) (by rfl) (by ext)
 ·rw[z]at B;omega
theorem oS(S:Ov prog w s.heap a es ep t ps)(hu:A.units+4 < Bf)(P:IsR prog w s.heap k b)(vC:k∈ps.map (·.2)∨-ps+1<=76){Q:Bool->AK->Prop}
  (h:∀h' bl Y vL t' Z,DV a s.heap h'->Ov prog w h' a Y vL t' Z->(Z.map (·.2)).Perm (if k∈ps.map (·.2)then ps.map (·.2)else ps.map (·.2)++[k])->(∀p∈Z,p∈ps∨p.1.2=.ref b)->Q bl { s with heap:=h' }) :
  AW (AY prog w) A (setAddHashed a (.ref b) (hRq prog w k)) Q E s:=by
 let#[F,f1,f2,f3]:=S.tb.first (hRq prog w k)
 let hbig:10 * (t.mask+14) < 100000:=by rcases S.tb.msk with z | z | z <;> rw[z] <;> decide
 let hn:es.size=-ps:=by rw[<-Ad,<-S.es',AD]
 let C:-HX es=es.size:=by unfold HX;simp
 unfold setAddHashed setAddHashedIn;refine C0 (AA (S.state ?_));symm;rw[show byScan (.ref b) es=false from rfl];unfold setSearch;refine AA (Rz S hu P f2 f3 (by unfold Vn;lia) (λhex=>?_) (λM'=>?_) 100000 0 none (Bc _) ∅ rfl λs' i p z=>zX z ∅)
 ·let#[p,hp,e]:=hex
  let T:=Ay.mpr #[p,hp,e]
  let:=h s.heap false es ep t ps (Si a s.heap) S (by rw[qX T]) λM h=>.inl h
  exact AC (by assumption)
 ·let T:k∉ps.map (·.2):=λz=>by
   let#[p,hp,e]:=Ay.mp z;exact M' p hp e
  let room:es.size+1<=76:=by rw[hn];exact vC.resolve_left T
  rw[qY T]at h;refine AA (S.state ?_);let#[U,pt]:=S.tb.put f2 f3
  let byv:∀{R:Bool->AK->Prop},R true s->AW (AY prog w) A (if (t.put (sqq t.mask (hRq prog w k) F)).1.plain then fC 8 (.ref b)else pure true) R E s:=λ{R} hr=>by
   split
   ·exact KU P hr
   ·exact AC hr
  let tail:AW (AY prog w) A (do
    storeSet a (Ma es (t.put (sqq t.mask (hRq prog w k) F)).2 (hRq prog w k,.ref b)) (t.put (sqq t.mask (hRq prog w k) F)).1
    if not false&&(t.put (sqq t.mask (hRq prog w k) F)).1.tooFull then setRelay a (GD (es.size+1))
    return true) Q E s:=by
   let yN:(t.put (sqq t.mask (hRq prog w k) F)).1.led=t.led:=by rw[U]
   let H:(t.put (sqq t.mask (hRq prog w k) F)).1.mask=t.mask:=by rw[U]
   let I:(t.put (sqq t.mask (hRq prog w k) F)).1.dummies = #[]:=by rw[U];exact S.tb.dm
   let li:=G7 es (t.put (sqq t.mask (hRq prog w k) F)).2 (hRq prog w k,AV b)
   let J:(t.put (sqq t.mask (hRq prog w k) F)).1.place.size=es.size+1:=by
    rw[U];rw[<-Ad,G7];let:=S.tb.sz;rw[C]at this;simp only[AT,Au,Cc,FX,Ad,this]
    grind
   let p2:(t.put (sqq t.mask (hRq prog w k) F)).2<=es.size:=by
    let:=(K4 S.tb.up (sqq t.mask (hRq prog w k) F)).le;rw[S.tb.sz,C]at this;exact this
   generalize (t.put (sqq t.mask (hRq prog w k) F)).1=l at *
   generalize (t.put (sqq t.mask (hRq prog w k) F)).2=p at *
   let G:(Ma es p (hRq prog w k,AV b)).size=es.size+1:=by
    rw[<-Ad,li];simp only[AT,Au,Cc,FX,Ad]
    grind
   generalize Ma es p (hRq prog w k,AV b)=j at *
   let L:∀q∈ps.take p++((hRq prog w k,AV b),k) :: ps.drop p,EnR prog w s.heap q:=λq hq=>by
    rcases Aj.mp hq with z | z
    ·exact S.en q (FM z)
    ·rcases Ak.mp z with rfl | z
     ·exact#[b,rfl,P]
     ·exact S.en q (HY z)
   let e1:(ps.take p++((hRq prog w k,AV b),k) :: ps.drop p).map (·.1)=j.toList:=by
    rw[li,Bv,Al,Ml,T7,S.es']
   let pk:((ps.take p++((hRq prog w k,AV b),k) :: ps.drop p).map (·.2)).Perm (ps.map (·.2)++[k]):=by
    let:(ps.take p++((hRq prog w k,AV b),k) :: ps.drop p).Perm (ps++[((hRq prog w k,AV b),k)]):=by
     refine List.perm_middle.trans ?_;rw[DK];exact(List.perm_append_singleton _ _).symm
    exact(this.map (·.2)).trans (by rw[Bv])
   let N:∀q∈ps.take p++((hRq prog w k,AV b),k) :: ps.drop p,q∈ps∨q.1.2=.ref b:=λq hq=>by
    rcases Aj.mp hq with z | z
    ·exact .inl (FM z)
    ·rcases Ak.mp z with rfl | z
     ·exact .inr rfl
     ·exact .inl (HY z)
   generalize ps.take p++((hRq prog w k,AV b),k) :: ps.drop p=ps1 at *
   let#[o,ho,hx,X]:=S.ob;refine AA (oZ ho X ?_ (ou (by rw[G];unfold scanBound;lia)));let w9:=B7 s.heap a (Df j l)
   let tf:l.tooFull = not (decide ((es.size+1) * 5 < t.mask * 3)):=by
    unfold D8.tooFull Q3;rw[I,J,H,<-decide_not];simp
   rw[tf]
   by_cases B:(es.size+1) * 5 < t.mask * 3
   ·rw[wX B]
    exact AC (h _ true j (ep+1) l ps1 w9 (S.store (pt B) yN e1 L) pk N)
   ·rw[wY B]
    let vn:(s.heap.update a (Df j l)).get? a=some { o with data:=.set j (ep+1) l }:=by
     let:=Cq (Df j l) ho (by rw[OL j l X];rfl);rw[OL j l X]at this;exact this
    let f0:=S.tb.few;rw[C]at f0
    let m7:7<=t.mask:=by rcases S.tb.msk with z | z | z <;> rw[z] <;> decide
    let ft:l.fits j.size:=by
     unfold Q2 Q3;rw[I,J,G,H];simp
     lia
    let#[r1,m,ord,r2,r3,r4,r5]:=bu (h:=s.heap) (by rw[H];exact S.tb.msk) (by rw[G,H];simpa using f0) (by rw[G,H];exact B) (by rw[G];exact room);rw[G]at r1 r2;refine AA ?_;unfold setRelay;refine AA (DF vn rfl ft ?_);symm;rw[qY (Nat.not_lt.mpr r1)];rw[r2]
    let O:(ord.filterMap (j[·]?)).size=j.size:=by rw[<-Ad,r4.length_eq,Ad]
    refine AA (DA (a:=(ord.filterMap (j[·]?),m)) ?_ ?_)
    ·show(if ((ord.filterMap (j[·]?)).size != j.size) then _ else _)=_
     rw[qY (by rw[O];simp)]
    ·refine oZ vn rfl ?_ (ou (by rw[O,G];unfold scanBound;lia))
     let#[ps2,q1,q2]:=R9 r4 ps1 e1
     let S2:Ov prog w ((s.heap.update a (Df j l)).update a (Df (ord.filterMap (j[·]?)) m)) a (ord.filterMap (j[·]?)) (ep+1+1) m ps2:=by
      let uG:((s.heap.update a (Df j l)).update a (Df (ord.filterMap (j[·]?)) m)).get? a=some { o with data:=.set (ord.filterMap (j[·]?)) (ep+1+1) m }:=by
       let:=Cq (Df (ord.filterMap (j[·]?)) m) vn (by rw[OL (ord.filterMap (j[·]?)) m rfl];rfl);rw[OL (ord.filterMap (j[·]?)) m rfl]at this;exact this
      let Τ:=w9.trans (B7 (s.heap.update a (Df j l)) a (Df (ord.filterMap (j[·]?)) m));refine#[#[_,uG,hx,rfl],r5,r3.trans (yN.trans S.led),q2,λp q=>?_];let#[b',e,hb]:=L p (q1.mem_iff.mp q);exact#[b',e,hb.keep λo' q=>(Τ.2 b' (hb.ne ho X)).trans q]
     exact AC (h _ true _ _ m ps2 (w9.trans (B7 _ a _)) S2 ((q1.map _).trans pk) λp q=>N p (q1.mem_iff.mp q))
  split
  ·refine AA (KU P ?_)
   exact tail
  assumption
end
open PySem.Sem (wp)
open SetTable
def ddR(rows:¬Z'):¬Z':=rows.foldl (λj k=>if k∈j then j else j++[k]) []
theorem K2(l:¬Z')(k:Z'):ddR (l++[k])=if k∈ddR l then ddR l else ddR l++[k]:=by unfold ddR;ext
theorem oI(l r:¬Z'):-ddR l<=-ddR (l++r):=by
 induction r generalizing l with
 | nil=>ext
 | cons k r j=>
  let h:=j (l++[k]);rw[Ba]at h;refine A5 ?_ h;rw[K2];split
  ·ext
  ·simp
def AE.addr0:AE->AL
 | .ref a=>a
 | _=>0
section
variable{prog:Ao}{w:A3}{A:BR}{E:AE->AK->Prop}{s:AK}
def LP(prog:Ao)(w:A3)(h:BG)(vs:¬AE)(rows:¬Z'):Prop:=-vs=-rows/\∀(i:Nat) v k,vs[i]?=!v->rows[i]?=!k->∃b,v=.ref b/\IsR prog w h k b
theorem LP.at'{h:BG}{vs:¬AE}{rows:¬Z'}(x:LP prog w h vs rows){i:Nat}{v:AE}(e:vs[i]?=!v):∃b k,v=.ref b/\IsR prog w h k b:=by
 let j:i < -rows:=by rw[<-x.1];exact(AI.mp e).1
 let#[b,l,m]:=x.2 i v _ e (AJ j);exact#[b,_,l,m]
theorem LP.row{h:BG}{vs:¬AE}{rows:¬Z'}(x:LP prog w h vs rows){i:Nat}{k:Z'}(e:rows[i]?=!k):∃b,vs[i]?=!.ref b/\IsR prog w h k b:=by
 let j:i < -vs:=by rw[x.1];exact(AI.mp e).1
 let#[b,l,m]:=x.2 i _ k (AJ j) e;ext
def MV(prog:Ao)(w:A3)(h:BG)(a:AL)(ks:¬Z')(Ok:AL->Prop):Prop:=∃l m t j,Ov prog w h a l m t j/\(j.map (·.2)).Perm ks/\∀p∈j,∃b,p.1.2=.ref b/\Ok b
theorem MV.imp{h:BG}{a:AL}{ks:¬Z'}{Ok Ok':AL->Prop}(x:MV prog w h a ks Ok)(i:∀b,Ok b->Ok' b):MV prog w h a ks Ok':=let #[j,l,t,m,o,B,C]:=x;#[j,l,t,m,o,B,λp G=>let #[b,H,I]:=C p G;#[b,H,i b I]]
theorem MV.at'{h h':BG}{a:AL}{ks:¬Z'}{Ok:AL->Prop}(x:MV prog w h a ks Ok)(e:∀b o,h.get? b=!o->(b=a∨Ok b)->h'.get? b=!o):MV prog w h' a ks Ok:=by
 let#[B,C,t,G,S,H,j]:=x;let#[o,I,r]:=S.ob;refine#[B,C,t,G,#[#[o,e _ _ I (.inl rfl),r],S.tb,S.led,S.es',λp l=>?_],H,j];let#[b,q,hb]:=S.en p l;let#[b2,m,ok]:=j p l;rw[q]at m;cases m;exact#[b,q,hb.keep λo q=>e _ _ q (.inr ok)]
theorem WZ{h:BG}{a:AL}{led:Bool}{Ok:AL->Prop}(hl:led=(not (w.params.followText "set-order"))) (m:h.get? a=some { cls:=.type "set",dict:=none,data:=.set #[] 0 (.fresh 0 0 led) }):MV prog w h a [] Ok:=
 #[#[],0,_,[],#[#[_,m,#[rfl,rfl,rfl],rfl],#[.inl rfl,rfl,Ro,rfl,λj o=>(nomatch o),(by show 0 * 5 < 7 * 3;decide),λq B=>(nomatch B)],hl,rfl,λp l=>(nomatch l)],.nil,λp l=>(nomatch l)]
theorem Y9{R:kn->AK->Prop}{I:AL}{fp wr:¬AL}{G:Array fN->Array fN->Prop}{n:Nat}{P:Nat->AE->Prop}{St:Nat->AK->Prop}{rows:¬Z'}{ad:Nat->AL}(W:WalksS prog w A.in1 I fp wr G n P St)(S:AL)(xl:S∉fp)
  (hval:∀i v,P i v->v=.ref (ad i)) (hu:A.units+8 < Bf) (hnot:∀(i:Nat) k,rows[i]?=!k->ad i∉S :: wr) (hb:-ddR rows<=76) (hn:n=-rows) :
  ∀(k i:Nat) (s:AK),n - i=k->i<=n->St i s->(∀(j:Nat) k,rows[j]?=!k->IsR prog w s.heap k (ad j))->MV prog w s.heap S (ddR (rows.take i)) (λb=>∃(j:Nat) (k:Z'),rows[j]?=!k/\b=ad j) ->
   (∀s',Moved (S :: wr) G s s'->MV prog w s'.heap S (ddR rows) (λb=>∃(j:Nat) (k:Z'),rows[j]?=!k/\b=ad j)->R (.ok (.ret .none)) s') ->
   HP (AY prog w) A (.builtin "set.update.loop" #[[.ref S,.ref I],[]]) R s:=by
 let hSw:S∉wr:=λh=>xl (W.sub _ h)
 let uA:∀b∈wr,b∈S :: wr:=λb hb=>AN _ hb
 intro k
 induction k with
 | zero=>
  intro i s hk hi N _ J hRq
  let vN:i=n:=by grind
  subst vN;refine FB XR ?_;rw[D6 KS _];show AW _ A.in1 (GG (.ref I) >>= _) _ _ s;refine AA (W.done s _ _ N λs' m=>?_);show AW _ A.in1 (ret CQ) _ _ s';rw[Cb (by ext)]at J;refine AC (hRq s' (m.mono uA) (J.at' λb o e ok=>m.heap b o ?_ e))
  grind
 | succ k ih=>
  intro i s hk hi N O J hRq
  let my:i < n:=by grind
  refine FB XR ?_;rw[D6 KS _];show AW _ A.in1 (GG (.ref I) >>= _) _ _ s;refine AA (W.item i s _ _ my N λv s' hP xj m=>?_);obtain rfl:=hval i v hP
  let uC:=J.at' λb o e ok=>m.heap b o (by
   grind) e
  let Q:∀(j:Nat) k,rows[j]?=!k->IsR prog w s'.heap k (ad j):=λj k B=>(O j k B).keep λo e=>m.heap _ o (λz=>hnot j k B (AN _ z)) e
  let T:i < -rows:=by ext
  let C:=AJ T;generalize rows[i]=l at C
  let yk:rows.take (i+1)=rows.take i++[l]:=by rw[List.take_succ,C];rfl
  show AW _ A.in1 (F7 [AV (ad i)] (setAdd S (.ref (ad i))) >>= _) _ _ s';refine AA (C0 ?_);unfold setAdd;refine C0 ?_;refine AA (kU (knd:=HM prog w) (ks:=l) (by simp;lia) (Q i l C) ?_);let#[es,ep,t,ps,S0,L,U]:=uC
  let vC:l∈ps.map (·.2)∨-ps+1<=76:=by
   by_cases c:l∈ddR (rows.take i)
   ·exact .inl (L.mem_iff.mpr c)
   ·let h1:=oI (rows.take (i+1)) (rows.drop (i+1))
    rw[DK,yk,K2,qY c,AT,<-L.length_eq,AD]at h1;exact .inr (by simp at h1;lia)
  refine oS (s:={ s' with toks:=s'.toks+(-l+1) }) S0 (by simp;lia) (Q i l C) vC λh' bl X vL t' vp Y S1 H fr=>?_
  let e1:(vp.map (·.2)).Perm (ddR (rows.take (i+1))):=by
   rw[yk,K2]
   by_cases c:l∈ddR (rows.take i)
   ·grind
   ·rw[qY c]
    rw[qY λz=>c (L.mem_iff.mp z)]at H;exact H.trans (L.append_right _)
  let Z:MV prog w h' S (ddR (rows.take (i+1))) (λb=>∃(j:Nat) (k:Z'),rows[j]?=!k/\b=ad j):=#[X,vL,t',vp,S1,e1,λp hp=>by
   rcases fr p hp with z | z
   ·exact U p z
   ·exact#[_,z,i,l,C,rfl]]
  refine AC #[IH KS _,ih (i+1) _ (by grind) my (W.frame _ s' _ _ xj (by ext) λb hb o e=>?_) (λj k B=>(Q j k B).keep λo e=>(Y.2 _ λz=>hnot j k B (by grind)).trans e) Z λtW ο ς=>?_]
  ·rw[Y.2 b (λh:b=S=>xl (by ext))];exact e
  ·refine hRq tW (Moved.trans W.gtrans ((m.mono uA).then_heap ∅ λb o hb e=>?_) ο) ς
   rw[Y.2 b (λh:b=S=>hb (by ext))];exact e
theorem Tr{l:AL}{items:Array AE}{rows:¬Z'}{Q:AE->AK->Prop}(hh:A.handled=none)(hu:A.units+40 < Bf)(hl:s.heap.IsList l items)(hi:LP prog w s.heap items.toList rows)(hb:-ddR rows<=76)
  (h:∀(h':BG) (N:Nat),MV prog w h' s.heap.objs.size (ddR rows) (λb=>AV b∈items.toList) ->
   (∀b o,b < s.heap.objs.size->s.heap.get? b=!o->h'.get? b=!o)->Q (.ref s.heap.objs.size) { s with heap:=h',toks:=N }):AW (AY prog w) A (call (.type "set") [.ref l]) Q E s:=by
 let#[c,tl,hmro]:=Fj.mro;let P:=Fj.made;let uA:=Fj.sub;refine kZ (UH ?_);show AW _ _ (callAny (.type "set") _) _ _ _;refine AC #[Code.quiet_builtin _ ∅,FB F.entry_type_call ?_];rw[BR.under_plain (weight_type_call_type "set" [.ref l] []) rfl];let h1:=Fj.notType;let h2:=Fj.canCreate;let hct:=F.typeCall_set_1 (.ref l);(repeat(any_goals (first | assumption | wp_step)))
 refine Ey (Rb (.ref l) (E:=E) (Q₁:=λobj B=>∃led:Bool,led=(not (w.params.followText "set-order"))/\obj=.ref s.heap.objs.size/\B={ s with heap:=s.heap.push { cls:=.type "set",dict:=none,data:=.set #[] 0 (.fresh 0 0 led) } }) #[_,rfl,rfl,rfl]) λr B G=>?_
 cases r with
 | error e=>exact G
 | ok fl=>
  cases fl with
  | ret obj=>
   let#[led,υ,rfl,rfl]:=G;let hS:(s.heap.push { cls:=.type "set",dict:=none,data:=.set #[] 0 (.fresh 0 0 led) }).get? s.heap.objs.size=some { cls:=.type "set",dict:=none,data:=.set #[] 0 (.fresh 0 0 led) }:=AO _ rfl;let hT:AK.TypeIs { s with heap:=s.heap.push { cls:=.type "set",dict:=none,data:=.set #[] 0 (.fresh 0 0 led) } } (.ref s.heap.objs.size) "set":=#[_,hS,rfl];let hli:=Fj.init.lookup;let hbi:=Fj.init.bind (.ref s.heap.objs.size);(repeat(any_goals (first | assumption | wp_step)))
   refine Ey (codeAny_call_builtin (R:=wants (λr C=>r=.none/\∃h' N,C={ s with heap:=h',toks:=N } /\
     MV prog w h' s.heap.objs.size (ddR rows) (λb=>AV b∈items.toList) /\
     (∀b o,b < s.heap.objs.size->s.heap.get? b=!o->h'.get? b=!o)) E) Fj.init.plain F.entry_set_init (check_set_init_1 hT ?_)) λI C S=>?_
   ·let#[ol,xh,uF,nl,xV]:=hl
    let#[ocls,yP,T,xu]:=ol;simp only at uF xV;subst uF;subst xV;let ψ:(s.heap.push { cls:=.type "set",dict:=none,data:=.set #[] 0 (.fresh 0 0 led) }).get? l=some { cls:=.type "list",dict:=yP,data:=.seq items nl,slots:=xu }:=AF _ xh
    let hsls:isSubtype (.type "list") (.type "set")=pure false:=by rw[isSubtype_type];kernel_rfl
    let hslf:isSubtype (.type "list") (.type "frozenset")=pure false:=by rw[isSubtype_type];kernel_rfl
    let tq:(F8 "list"==F8 "dict")=false:=by decide
    let vE:(s.heap.push { cls:=.type "set",dict:=none,data:=.set #[] 0 (.fresh 0 0 led) }).IsList l items:=#[_,ψ,rfl,nl,rfl];unfold Builtin.«set.__init__» noKeywords fO;generalize U:Pb=PI
    wp_walk
    subst U;refine RA vE (AA (wpAny_runValue ?_));let J:l < s.heap.objs.size:=AX xh
    let X:A.in1.in1.in1.handled=none:=by simp[hh]
    let ω:l≠(s.heap.push { cls:=.type "set",dict:=none,data:=.set #[] 0 (.fresh 0 0 led) }).objs.size:=by
     rw[DC];exact Ar (EG J)
    let xl:s.heap.objs.size∉[(s.heap.push { cls:=.type "set",dict:=none,data:=.set #[] 0 (.fresh 0 0 led) }).objs.size,l]:=by
     rw[DC];simp only[Ak,Av,DM,or_false,not_or];exact#[Ar (FZ _),Ek J]
    let Y:items.size=-rows:=by rw[<-Ad];exact hi.1
    refine Y9 (rows:=rows) (ad:=λi=>(AE.addr0 (items.getD i .none))) ((pP X _ l ω items).toS) s.heap.objs.size xl (λi v m=>?hval) (by simp;lia) (λi k Z=>?hnot) hb Y (items.size - 0) 0 _ (by simp) (Bc _)
     #[#[_,AO _ rfl,rfl,rfl],(vE.push _)] (λi k Z=>?hrow) ?hS0 ?hRq
    case hval=>
     let#[b,k,e,_]:=hi.at' (i:=i) (by rw[CM];exact m);rw[e]at m ⊢
     let:items.getD i .none=.ref b:=by rw[C2,m];rfl
     rw[this];rfl
    case hnot=>
     let#[b,m,G]:=hi.row Z
     let:items.getD i .none=.ref b:=by rw[C2,<-CM,m];rfl
     let lt:b < s.heap.objs.size:=by let#[o,_,_,ho,_]:=G;exact AX ho
     show(AE.addr0 (items.getD i .none))∉_;rw[this];show b∉_;rw[DC]
     grind
    case hrow=>
     let#[b,m,G]:=hi.row Z
     let:items.getD i .none=.ref b:=by rw[C2,<-CM,m];rfl
     show IsR prog w _ k (AE.addr0 (items.getD i .none));rw[this]
     exact G.keep λo e=>AF _ (AF _ e)
    case hS0=>
     let ϐ:((s.heap.push { cls:=.type "set",dict:=none,data:=.set #[] 0 (.fresh 0 0 led) }).push { cls:=.type "list_iterator",data:=.fields [.ref l,.int 0 0].toArray }).get? s.heap.objs.size
       = some { cls:=.type "set",dict:=none,data:=.set #[] 0 (.fresh 0 0 led) }:=AF _ hS
     exact WZ υ ϐ
    case hRq=>
     intro s' O L;let#[h',g',d',tk',MS]:=s';let eg:g'=s.gens:=O.gens;let ed:d'=s.drawn:=O.drawn;let eo:MS=s.os:=O.os;subst eg;subst ed;subst eo;show AW _ _ _ _ _ _;refine AC ?_;show AW _ _ (ret CQ) _ _ _
     let L:MV prog w h' s.heap.objs.size (ddR rows) (λb=>AV b∈items.toList):=L.imp<|by
      rintro b ⟨j,k,hj,e⟩
      let#[b2,m,_]:=hi.row hj;let e:b=(AE.addr0 (items.getD j .none)):=e
      let:items.getD j .none=.ref b2:=by rw[C2,<-CM,m];rfl
      rw[this]at e;rw[e];exact Az m
     refine AC #[rfl,h',tk',rfl,L,λb o hb e=>?_];let hb1:b≠s.heap.objs.size:=Ar hb
     let wJ:b≠(s.heap.push { cls:=.type "set",dict:=none,data:=.set #[] 0 (.fresh 0 0 led) }).objs.size:=by
      rw[DC];exact Ar (EG hb)
     exact O.heap b o (by ext) (AF _ (AF _ e))
   ·cases I with
    | error e=>exact S
    | ok H=>
     cases H with
     | ret r=>
      let#[rfl,h',N,rfl,L,tT]:=S;(repeat(any_goals (first | assumption | wp_step)));exact h _ _ L tT
     | _=>exact S.elim
  | _=>exact G.elim
end
section
variable{prog:Ao}{w:A3}{A:BR}{E:AE->AK->Prop}{s:AK}{a:AL}{es:Array (Int×AE)}{ep:Nat}{t:D8}
theorem S8{ks:¬Z'}{Ok:AL->Prop}{R:¬AE->AK->Prop}(hh:A.handled=none)(hS:MV prog w s.heap a ks Ok)(hn:-ks<=sizeLine)
  (h:∀(h':BG) (j:Nat) d' (H:¬AE),(∀b o,s.heap.get? b=!o->h'.get? b=!o)->(∃m:¬(AE×Z'),m.map (·.1)=H/\(m.map (·.2)).Perm ks/\∀q∈m,∃b,q.1=.ref b/\Ok b/\IsR prog w s.heap q.2 b)->R H { s with heap:=h',toks:=j,drawn:=d' }) :
  AW (AY prog w) A (collect (.ref a)) R E s:=by
 let#[es,ep,t,ps,B,T,ok]:=hS;let#[o,U,hex,hd]:=B.ob;let hf:=B.tb.fits;let hu:=B.tb.up;let O:=B.led;let my:=AX U
 let hz:es.size<=sizeLine:=by rw[<-Ad,<-B.es',AD,<-AD,T.length_eq];exact hn
 unfold collect;refine AA (wpAny_runValue (FB entry_proto_collect' ?_));rw[D6 PySem.F.plain_proto_collect _];refine AA (A8 ?_);refine AC #[IH Ri _,FB entry_list_iadd' ?_];rw[D6 Ri _];let xo:(s.heap.push { cls:=.type "list",data:=.seq ([]:¬AE).toArray }).get? s.heap.objs.size=some { cls:=.type "list",data:=.seq #[] }:=AO _ rfl
 let P:=WY (prog:=prog) (s:={ s with heap:=s.heap.push { cls:=.type "list",data:=.seq ([]:¬AE).toArray } })
  (R:=λ(q:kn) (Q:AK)=>∃(h':BG) (j:Nat) (d':_) (C:Array AE) (I:Nat),q=.ok (.ret (.ref s.heap.objs.size))/\Q={ s with heap:=h',toks:=j,drawn:=d' } /\
   (∀b o,s.heap.get? b=!o->h'.get? b=!o)/\h'.get? s.heap.objs.size=some { cls:=.type "list",dict:=none,data:=.seq C I,slots:=#[] }/\EV C.toList (es.toList.map (·.2)))
  hh #[o,AF _ U,hex,hd,hf] hu O hz s.heap.objs.size (Ek my) (.ref s.heap.objs.size) 0 xo
  (λh' j d' C I ord G J L N=>#[h',j,d',C,I,rfl,rfl,λb o e=>J b o (Ar (AX e)) (AF _ e),L,N▸G])
 let fin:∀{l:¬AE},EV l (es.toList.map (·.2))->∃m:¬(AE×Z'),m.map (·.1)=l/\(m.map (·.2)).Perm ks/\∀q∈m,∃b,q.1=.ref b/\Ok b/\IsR prog w s.heap q.2 b:=λ{l} O=>by
  rw[<-B.es',Aw]at O;let#[vp,X,h2]:=R9 O ps rfl;refine#[vp.map λp=>(p.1.2,p.2),by rw[Aw];exact h2,by rw[Aw];exact(X.map _).trans T,λq hq=>?_];let#[p,G,rfl]:=Ay.mp hq;let G:=X.mem_iff.mp G;let#[b,e,hb]:=B.en p G;let#[b2,Y,S]:=ok p G;rw[e]at Y;cases Y;exact#[b,by rw[e],S,hb]
 refine Da P (λϑ Q x=>?_) λe Q x=>?_
 ·cases ϑ with
  | done f=>
   let#[h',j,d',C,I,e,rfl,J,L,N]:=x;cases e;refine AA (kW L ?_);exact AC (h h' j d' _ J (fin N))
  | again Z=>
   refine#[x.1,Ey x.2 λq s₂ y=>?_];let#[h',j,d',C,I,rfl,rfl,J,L,N]:=y;refine AA (kW L ?_);exact AC (h h' j d' _ J (fin N))
 ext
end
end PySem
namespace L2
open Srt (ltL)
def ZA(j:¬Z'):¬Z':=IW (ddR j)
set_option tactic.hygienic true in
theorem YV{l:¬Z'}{k:Z'}:k∈ddR l↔k∈l:=by
 let j:∀(r l:¬Z'),(∀k,k∈ddR l↔k∈l)->∀k,k∈ddR (l++r)↔k∈l++r:=by
  intro r
  induction r with
  | nil=>intro l h;rw[BP];exact h
  | cons x r m=>
   intro l h;rw[show l++x :: r=(l++[x])++r by simp]
   refine m _ λk=>?_
   rw[K2];split
   ·rename_i c
    rw[h,Aj,Av];exact#[.inl,λz=>z.elim id λe=>e▸(h x).mp c]
   ·rw[Aj,Aj,h]
 let:=j l [] (λk=>by simp[ddR]) k;ext
theorem Ul{X:Cx}{B:¬(AL×Obj)}{C:St}{H:Hp}{s:AK}(I:Inv X B C H s):∀{vs:¬V} {j:¬AE},Bl vs j->(∀v∈vs,∃b,v=.ref b/\H b=!.tup ((E5 H v).map V.int)/\E5 H v≠[])->LP X.prog X.w s.heap j (vs.map (E5 H)):=by
 intro vs j m h
 let one:∀{k:Z'} {us:¬AE},Bl (k.map V.int) us->ItemsAre (HM X.prog X.w) k us:=by
  intro k
  induction k with
  | nil=>intro us r;cases r;exact .nil
  | cons n k E=>
   intro us r
   cases r with
   | cons a b=>
    let#[t,rfl]:=a;exact .cons (intKind_is _ _ _ _) (E b)
 refine#[by rw[<-m.length,AD],λi v k G l=>?_];rw[Ai]at l
 cases e:vs[i]? with
 | none=>ext
 | some x=>
  rw[e]at l;cases l;let#[u,A,r]:=m.get e;rw[G]at A;cases A;let#[b,rfl,hb,_]:=h x (Az e);cases r;let#[_,is,O,o,J,L,n,N]:=(I.hok b _ hb);exact#[b,rfl,o,is.toArray,n,J,L,N,by ext]
theorem Re{X:Cx}{ζ:¬(AL×Obj)}{s:AK}{σ:St}{H:Hp}{a:AL}{vs:¬V}{j:¬AE}{Q:VK}(hc:X.calm)(I:Inv X ζ σ H s)(U:Bl vs j)(Y:∀v∈vs,∃b,v=.ref b/\H b=!.tup ((E5 H v).map V.int)/\E5 H v≠[])
  (hS:MV X.prog X.w s.heap a (ddR (vs.map (E5 H))) λb=>AV b∈j) (E:-ddR (vs.map (E5 H))<=sizeLine)
  (q:∀out,out.map (E5 H)=ZA (vs.map (E5 H))->(∀v∈out,∃b,v=.ref b/\H b=!.tup ((E5 H v).map V.int)/\E5 H v≠[])->∀l,H l=none->Q (.ref l) (upd H l (.lst out))):AW (AY X.prog X.w) X.A (call (.builtin "sorted") [.ref a]) (EP X ζ σ Q) X.xe s:=by
 let ra:=Ul I U Y;refine Im kind_sorted plain_sorted entry_sorted (args_sorted1 _) ?_;unfold Builtin.«sorted»;refine AA (AC (AA (S8 (I.ok.hd hc) hS E λg tk d' mh kp hp=>?_)));let#[m,e1,Z,hq]:=hp
 let L:∀b,AV b∈j->V.ref b∈vs:=λb hb=>by
  let#[i,N]:=HZ hb
  let G:i < -vs:=by rw[U.length];exact(AI.mp N).1
  let#[u,hu,r]:=U.get (AJ G);rw[N]at hu;cases hu;let#[b2,e,_]:=Y _ (CJ G);rw[e]at r;cases r
  grind
 let hrow:∀q∈m,∃b,q.1=.ref b/\V.ref b∈vs/\q.2=E5 H (.ref b):=λq O=>by
  let#[b,C,J,h3]:=hq q O;refine#[b,C,L b J,?_];let#[i,N]:=HZ (L b J);let#[u,hu,r]:=U.get N;cases r;let#[b2,e2,hr]:=ra.2 i _ _ hu (by rw[Ai,N];rfl);cases e2;exact h3.inj hr
 let P:Bl (m.map λq=>V.ref (AE.addr0 q.1)) mh:=by
  rw[<-e1]
  clear Z e1
  induction m with
  | nil=>exact .nil
  | cons q m ih=>
   refine .cons ?_ (ih (λx hx=>hq x (AN _ hx)) λx hx=>hrow x (AN _ hx));let#[b,C,_]:=hrow q Aa;show RelV (V.ref (AE.addr0 q.1)) q.1;rw[C];rfl
 let ϒ:∀v∈m.map (λq=>V.ref (AE.addr0 q.1)),v∈vs:=λv S=>by
  let#[q,O,rfl]:=Ay.mp S;let#[b,C,J,_]:=hrow q O;rw[C];exact J
 let mr:(m.map λq=>V.ref (AE.addr0 q.1)).map (E5 H)=m.map (·.2):=by
  rw[Aw]
  refine B0 λq O=>?_
  let#[b,C,_,h3]:=hrow q O;show E5 H (V.ref (AE.addr0 q.1))=q.2;rw[C,h3];rfl
 generalize (m.map λq=>V.ref (AE.addr0 q.1))=ms at P ϒ mr;rw[<-mr]at Z
 let E:-mh<=sizeLine:=by rw[<-P.length,<-AD,Z.length_eq];exact E
 let B:SW H (E5 H) ms:=.inr λv S=>Y v (ϒ v S)
 refine AA (Yc ?_ E);let I1:Inv X ζ σ H { s with heap:=g,toks:=tk,drawn:=d' }:=(I.kept (t':=tk) kp).drew;let G:(g.push (Hn "list" mh.toArray 0)).get? g.objs.size=!Hn "list" mh.toArray 0:=AO _ rfl;refine AA (C0 (BI slot_list_sort #[_,G,rfl] sP (Srt.L5 (f:=br H) G E (λJ s' keep=>?_) λout po so=>#[_,rfl,AC #[_,rfl,?_]]) (args_list_sort _)))
 ·refine OX (λb xs e=>?_) B P J
  let#[_,is,r,o,ho,uF,n,hd]:=(I1.hok b _ e);exact#[is,r,o,keep b o (Ar (AX ho)) (AF _ ho),uF,n,hd]
 ·let#[vo,ro,pv]:=Oc po.symm P
  let Ν:vo.Pairwise (λx y=>ltL (E5 H y) (E5 H x)=false):=by
   let e:=Jn ro λa ha b rb=>B.rel a (pv.mem_iff.mp ha) b rb
   let:=(BL (R:=λx y=>ltL y x=false)).mpr so;rw[e]at this;exact BL.mp this
  let#[k,hk]:=sortedHeap_at G
  let T:-vo<=sizeLine:=by rw[pv.length_eq,P.length];exact E
  let I2:=I1.laid (o:=.lst vo) (t':=tk) (h':=Vo (g.push (Hn "list" mh.toArray 0)) g.objs.size mh out)
   (λb u z=>by
    let lt:=AX z;rw[sortedHeap_old (Ar lt) (by rw[size_push'];exact EG lt)]
    exact AF _ z) (AM _) #[T,out.toList,k,ro,hk]
  refine#[.ref g.objs.size,_,I2,rfl,q vo ?_ (λv S=>Y v (ϒ v (pv.mem_iff.mp S))) _ (I1.hok.fresh (AM _))];exact LG (((pv.map (E5 H)).trans Z).trans (C7 _).symm) (BL.mpr Ν) (Kb _)
section
variable{X:Cx}{e b:Expr}{p p2 pos tN:Pos}{te:TE}
def kH(K:AB)(Q:VK)(x:V)(j:Hp):Prop:=∃q vs,x=.ref q/\SqL K j q vs/\(∀v∈vs,∃b,v=.ref b/\j b=!.tup ((E5 j v).map V.int)/\E5 j v≠[])/\-ddR (vs.map (E5 j))<=76 /\
 ∀out,out.map (E5 j)=ZA (vs.map (E5 j))->(∀v∈out,∃b,v=.ref b/\j b=!.tup ((E5 j v).map V.int)/\E5 j v≠[])->∀l,j l=none->Q (.ref l) (upd j l (.lst out))
def Y2(K:AB)(te:TE):TE:=λj H Q=>te j H λx l=>kH K Q x l
theorem Uv(C:X.calm)(hu:X.A.units+64 < Bf)(P:Gl X "sorted") (R:X.mg "sorted" = none) (S:Gl X "set") (T:X.mg "set" = none) (h:PE X e te)
  (E:↑(zSq X e)) (j:↑(AG [.Call (.Name "set" p2) [e] [] tN] X.env=(false,A2 (.Call (.Name "set" p2) [e] [] tN) X.env) :: AG [] X.env)) :
  PE X (.Call (.Name "sorted" p) [.Call (.Name "set" p2) [e] [] tN] [] pos) (Y2 X.K te):=by
 intro G s J H Q I U;refine Ex (IB I P R boot_sorted ?_ ∅ (by rfl));refine Ll ?_ j rfl;rw[j];refine Ed ?_;refine Ex (IB I S T sV ?_ ∅ (by rfl));refine Br (thn (Bn h Du E tN G s J H (λvs l=>match vs with | [x]=>kH X.K Q x l | _=>False) I U) ?_) E rfl;rintro us Y ⟨vs,l,m,w,B⟩
 match vs,w,B with
 | [x],w,B=>
  let#[q,vs,rfl,sqq,L,N,k]:=B;let#[u,rfl,Z]:=vals1 w;cases Z;let#[mh,O,pl,hz]:=m.list sqq
  refine Tr (I.ok.hd C) ∅ pl.isList (by simpa using Ul m O L) N λh' tk hS hk=>?_
  refine JB ?_
  let I2:Inv X G J l { Y with heap:=h',toks:=tk }:=m.kept λb o e=>hk b o (AX e) e
  exact Re C I2 O L (by simpa using hS) (A5 N ∅) k
end
end L2
namespace NK
section
variable{prog:Ao}{w:A3}{K:Type}[DecidableEq K](knd:KeyKind prog w K)
def IsPair(h:BG)(k:¬K×K)(a:AL):Prop:=∃o n c v,h.get? a=!o/\o.cls=.type "tuple"/\o.data=.seq [.ref c,v].toArray n/\ku knd h k.1 c/\knd.is k.2 v=true
def QP(k:¬K×K):Int:=Vr (Di [RC knd k.1,knd.hash k.2])
variable{knd}
theorem IsPair.typeIs{s:AK}{k:¬K×K}{a:AL}(x:IsPair knd s.heap k a):s.TypeIs (.ref a) "tuple":=let #[o,_,_,_,j,l,_]:=x;#[o,j,l]
theorem IsPair.inj{h:BG}{a:AL}{x y:¬K×K}(A:IsPair knd h x a)(B:IsPair knd h y a):x=y:=by
 obtain⟨o,n,c,v,C,-,E,G,H⟩:=A;obtain⟨o',N,O,P,I,-,j,J,L⟩:=B;obtain rfl:o=o':=Bw (C.symm.trans I);rw[E]at j
 injection j with e _
 let e:=congrArg UL e
 injection e with l m
 injection l with l
 injection m with m _
 subst l m;exact Lm (G.inj J) (knd.inj _ _ _ H L)
theorem IsPair.keeps{h h':BG}{k:¬K×K}{a d:AL}{o:Obj}{es ep}(x:IsPair knd h k a)(l:h.get? d=!o)(m:o.data=.dict es ep)(hs:DV d h h'):IsPair knd h' k a:=by
 let#[A,n,c,v,B,C,j,E,G]:=x
 let H:a≠d:=by
  rintro rfl;obtain rfl:A=o:=Bw (B.symm.trans l);rw[m]at j;exact nomatch j
 exact#[A,n,c,v,(hs.2 a H).trans B,C,j,E.keeps l m hs,G]
variable{A:BR}{E:AE->AK->Prop}{s:AK}
theorem Mq{k:¬K×K}{a:AL}{Q:Int->AK->Prop}(I:A.units+8 < Bf)(m:IsPair knd s.heap k a)(h:Q (QP knd k) { s with toks:=s.toks+(-k.1+3) }) :
  AW (AY prog w) A (pyHash (.ref a)) Q E s:=by
 let j:=m.typeIs;let#[o,n,c,v,B,_,C,G,H]:=m;unfold pyHash
 first | unfold pyHashByItsType | skip
 first | refine AA (wpAny_cRoomFor_or (.inr ∅) ?_) | skip
 refine AA (EO j HB.lookup ?_);show AW _ _ (if ((!MZ "tuple.__hash__")==!CQ) then _ else _) Q E s;rw[qY (by rw[beq_builtin_none];exact An)];refine AA (EO j HB.lookup ?_);show AW _ _ (callSpecialIfBoundUnlessNone? (.ref a) "__hash__" _ >>= _) Q E s;refine AA (wpAny_callSpecialIfBoundUnlessNone?_slot j HB (BI HB j F.entry_tuple_hash ?_ (F.args_tuple_hash_1 _)));show AW _ _ (HC (.ref a) >>= _) _ _ s;refine AA (Pa B C ?_);refine AA ?_;rw[<-GA];show AW _ _ (forIn [AV c,v] _ _) _ _ s;rw[D9];refine AA (AA (kU (show A.units+1 < Bf by lia) G ?_));refine AC ?_;symm;rw[D9];refine AA (AA (knd.pyHash H (AC ?_)));symm;rw[Gi];refine AC ?_;show AW _ _ (retInt (Di [RC knd k.1,knd.hash k.2])) _ _ _;unfold QP Vr at h;generalize Di [RC knd k.1,knd.hash k.2]=z at h;refine sO ?_;show AW _ _ (if (decide ((unop% Neg.neg ((2:Int) ^ 63))<=z)&&decide (z < 2 ^ 63)) then _ else _) Q E _
 by_cases l:(decide ((unop% Neg.neg ((2:Int) ^ 63))<=z)&&decide (z < 2 ^ 63))=true
 ·rw[qX l]
  rw[qX l]at h;exact AC (by simpa[o0]using h)
 ·rw[qY l]
  rw[qY l]at h;exact AA (Hm (AC (by simpa[o0]using h)))
theorem TQ{x y:¬K×K}{a b:AL}{P:Fin->AK->Prop}(T:A.units+4 < Bf)(G:IsPair knd s.heap x a)(C:IsPair knd s.heap y b)(h:P (.done (.ret (.bool (decide (x=y))))) s) :
  AW (AY prog w) A (Builtin.«tuple.__eq__» #[[.ref a,.ref b],[]]) P E s:=by
 let m:=C.typeIs;let#[o,n,c,v,H,_,I,J,L]:=G;let#[U,X,N,O,Q,_,B,R,S]:=C;show AW _ _ (ke (.ref b) (.type "tuple") >>= _) _ _ s;refine AA (D0 m Mf ?_);simp only[DW,BB,if_false];refine AA (Pa H I ?_);refine AA (Pa Q B ?_);refine AA ?_;show AW _ _ (forIn [(AV c,AV N),(v,O)] _ _) _ _ s;rw[D9];refine AA (AA (kY ∅ J R ?_))
 by_cases j:x.1=y.1
 ·rw[wX j]
  simp only[DW,BB,if_false];refine AC ?_;symm;rw[D9];refine AA (AA (knd.eqBool L S ?_))
  by_cases l:x.2=y.2
  ·rw[wX l]
   simp only[DW,BB,if_false];refine AC ?_;symm;rw[Gi];refine AC ?_;rw[wX (Lm j l)]at h;refine AC ?_;exact h
  ·rw[wY l]
   simp only[Rq,if_true];rw[wY (λz=>l (congrArg Prod.snd z))]at h;exact AA (AC (AC (AC (AC h))))
 ·rw[wY j]
  simp only[Rq,if_true];rw[wY (λz=>j (congrArg Prod.fst z))]at h;exact AA (AC (AC (AC (AC h))))
theorem Mr{x y:¬K×K}{a b:AL}{Q:Bool->AK->Prop}(o:A.units+8 < Bf)(j:IsPair knd s.heap x a)(l:IsPair knd s.heap y b)(h:Q (decide (x=y)) s) :
  AW (AY prog w) A (eqBool (.ref a) (.ref b)) Q E s:=by
 unfold eqBool
 try with_reducible refine C0 ?_
 show AW _ _ (if (AV a==AV b) then _ else _) Q E s
 by_cases m:(AV a==AV b)=true
 ·rw[qX m]
  let e:a=b:=by let:=eq_of_beq m;injection this
  subst e;obtain rfl:=j.inj l;exact AA (Hm (AC (by simpa using h)))
 ·rw[qY m]
  exact AA (wpAny_richCompare_same_room (op:=.Eq) j.typeIs l.typeIs Ls
   (BI Ls j.typeIs F.entry_tuple_eq (TQ (show A.units+1+4 < Bf by lia) j l #[_,rfl,(λe=>nomatch e),CP h]) (F.args_tuple_eq_2 _ _)) ∅)
theorem Ur{ks:¬K}{a:AL}{Q:Bool->AK->Prop}(m:Nat)(G:ku knd s.heap ks a)(h:Q true s):AW (AY prog w) A (Zy (m+1) (.ref a)) Q E s:=by
 let H:=G.typeIs;let#[o,l,n,J,_,L,N]:=G;unfold Zy;refine AA (EO H Ls.lookup ?_);show AW _ _ (ke (.ref a) (.type "tuple") >>= _) _ _ s;refine AA (D0 H Mf ?_);simp only[DW,BB,if_false];refine AA (Eg J L ?_);refine AA ?_;show AW _ _ (forIn l _ _) _ _ s;rw[<-GA];refine LR _ (λj r B=>r.1=none/\B=s/\∀v∈j,carriedByValue v=true) _ ?_ ?_ _ _ #[rfl,rfl,N.byValue]
 ·rintro v j r B ⟨C,rfl,I⟩
  rw[ox _ (I v Aa)];refine AA (AC ?_);simp only[DW,BB,if_false];exact AC #[rfl,rfl,λu O=>I u (AN _ O)]
 ·rintro⟨P,R⟩ B ⟨C,rfl,_⟩
  simp only at C;subst C;exact AC h
theorem Wc{k:¬K×K}{a:AL}{Q:Bool->AK->Prop}(j:IsPair knd s.heap k a)(h:Q true s):AW (AY prog w) A (Zy 8 (.ref a)) Q E s:=by
 let l:=j.typeIs;let#[o,n,c,v,m,_,B,C,G]:=j;unfold Zy;refine AA (EO l Ls.lookup ?_);show AW _ _ (ke (.ref a) (.type "tuple") >>= _) _ _ s;refine AA (D0 l Mf ?_);simp only[DW,BB,if_false];refine AA (Eg m B ?_);refine AA ?_;show AW _ _ (forIn [AV c,v].toArray _ _) _ _ s;rw[<-GA];show AW _ _ (forIn [AV c,v] _ _) _ _ s;rw[D9];refine AA (AA (Ur _ C ?_));simp only[DW,BB,if_false];refine AC ?_;symm;rw[D9,ox _ (knd.byValue _ _ G)];refine AA (AA (AC ?_));simp only[DW,BB,if_false];refine AC ?_;symm;rw[Gi];exact AC (AC h)
end
def pairKind{prog:Ao}{w:A3}{K:Type}[DecidableEq K](knd:KeyKind prog w K):HeapKind prog w (¬K×K) where
 is:=IsPair knd
 hash:=QP knd
 draws:=λk=>-k.1+3
 room:=λA=>A.units+8 < Bf
 inj:=λj l=>j.inj l
 keeps:=λx B C E=>x.keeps B C E
 pyHash:=λm o h=>Mq m o h
 eqBool:=λm j l h=>Mr m j l h
 quiet:=λo h=>Wc o h
end NK
namespace L2
abbrev PKy:=Z'×Int
def mP(k:PKy):Int:=Vr (Di [Vr (Di (k.1.map hashInt)),hashInt k.2])
def iT(x:PKy×AL×AE):La:=#[mP x.1,.ref x.2.1,x.2.2]
def Ja(a:AL)(xs:¬(PKy×AL×AE)):BG->Prop:=λh=>∃o j l,h.get? a=!o/\o.ExactDict/\o.data=.dict j l/\j.toList=xs.map iT
def NV(H:Hp)(k:PKy)(b:AL):Prop:=∃c,H b=!.tup [.ref c,.int k.2]/\H c=!.tup (k.1.map V.int)
abbrev KPr(H:Hp):¬(PKy×V)->¬(PKy×AL×AE)->Prop:=Ez λp q=>p.1=q.1/\NV H p.1 q.2.1/\RelV p.2 q.2.2
theorem KPr.val{H:Hp}{kvs:¬(PKy×V)}{xs:¬(PKy×AL×AE)}(r:KPr H kvs xs)(k:PKy):JZ (IL kvs k) ((KI xs k).map (·.2)):=by
 induction r with
 | nil=>trivial
 | @cons p q m j h t l=>
  by_cases e:p.1=k
  ·rw[KY e,show KI (q :: j) k=!q.2 by simp[KI,CV,<-h.1,e]]
   exact h.2.2
  ·rw[KZ e,show KI (q :: j) k=KI j k by simp[KI,CV,<-h.1,e]]
   exact l
set_option tactic.hygienic true in
theorem KPr.put{H:Hp}{kvs:¬(PKy×V)}{xs:¬(PKy×AL×AE)}(r:KPr H kvs xs)(k:PKy){b:AL}{y:V}{u:AE}(hb:NV H k b)(j:RelV y u):KPr H (IM kvs k y) (OK xs k b u):=by
 let e:(kvs.any λl=>decide (l.1=k))=(KI xs k).isSome:=by
  rw[My,(r.val k).isSome_eq,Et]
 unfold IM OK;rw[e];split
 ·rename_i z
  clear e z
  induction r with
  | nil=>exact .nil
  | @cons p q o w h t m=>
   refine .cons ?_ m
   by_cases c:p.1=k
   ·show(if p.1=k then(p.1,y)else p).1=(T3 k u q).1/\NV H (if p.1=k then(p.1,y)else p).1 (T3 k u q).2.1/\RelV (if p.1=k then(p.1,y)else p).2 (T3 k u q).2.2
    unfold T3;rw[qX c,qX (h.1.symm.trans c)];exact#[h.1,h.2.1,j]
   ·show(if p.1=k then(p.1,y)else p).1=(T3 k u q).1/\NV H (if p.1=k then(p.1,y)else p).1 (T3 k u q).2.1/\RelV (if p.1=k then(p.1,y)else p).2 (T3 k u q).2.2
    unfold T3;rw[qY c,qY (λz=>c (h.1.trans z))];exact h
 ·exact Oj r #[rfl,hb,j]
theorem NV.keeps{H H':Hp}{k:PKy}{b:AL}(j:∀b l,H b=!.tup l->H' b=!.tup l):NV H k b->NV H' k b:=by rintro ⟨c,m,o⟩;exact #[c,j _ _ m,j _ _ o]
theorem KPr.keeps{H H':Hp}{kvs:¬(PKy×V)}{xs:¬(PKy×AL×AE)}(r:KPr H kvs xs)(l:∀b j,H b=!.tup j->H' b=!.tup j):KPr H' kvs xs:=
 Ez.mapP r λG G z=>#[z.1,z.2.1.keeps l,z.2.2]
section
variable{P:Ao}{w:A3}{H:Hp}{h:BG}{a b:AL}
theorem VH:∀{j:Z'} {us:¬AE},Bl (j.map V.int) us->ItemsAre (HM P w) j us
 | [],_,r=>by cases r;exact .nil
 | n :: j,_,r=>by
  cases r with
  | cons h t=>
   let#[l,rfl]:=show ∃t,_=GC n t from h
   exact .cons (by simp[HM,O0]) (VH t)
theorem NF{k:PKy}(ok:HOk P w H h)(e:NV H k b):(NK.pairKind (HM P w)).is h k b:=by
 let#[c,l,m]:=e;let#[_,R,r,o,A,B,n,C]:=(show CZ P w H h b (.tup [.ref c,.int k.2])from ok b _ l);let#[_,j,E,G,I,J,L,N]:=(show CZ P w H h c (.tup (k.1.map V.int))from ok c _ m)
 cases r with
 | cons O r=>
  cases r with
  | cons Q r=>
   cases r;cases(show _=AV c from O);refine#[o,n,c,_,A,B,C,#[G,j.toArray,L,I,J,N,?_],?_]
   ·rw[List.toList_toArray]
    exact VH E
   ·let#[t,rfl]:=show ∃t,_=GC k.2 t from Q
    simp[HM,O0]
def PD(H:Hp)(a:AL)(kvs:¬(PKy×V)):Prop:=-kvs<=sizeLine/\(a==B3)=false/\(kvs.map (·.1)).Nodup/\∃j,H a=!.ext (Ja a j)/\KPr H kvs j
theorem PD.keeps{H':Hp}{kvs:¬(PKy×V)}(l:∀b j,H b=!.tup j->H' b=!.tup j)(e:H' a=H a):PD H a kvs->PD H' a kvs:=by rintro ⟨m,o,A,B,C,E⟩;exact #[m,o,A,B,e.trans C,E.keeps l]
theorem rB{kvs:¬(PKy×V)}(ok:HOk P w H h)(d:PD H a kvs):∃xs,KPr H kvs xs/\-xs<=sizeLine/\h.DictOfH (NK.pairKind (HM P w)) a xs:=by
 obtain⟨z,-,l,xs,e,r⟩:=d;obtain⟨⟨o,B,C,E,G,I,m⟩,-⟩:=(show CZ P w H h a (.ext (Ja a xs))from ok a _ e);refine#[xs,r,by rw[<-C5 r];exact z,o,B,C,E,G,I,m,?_,?_]
 ·clear e m z l
  induction r with
  | nil=>exact λx j=>zX j DM
  | @cons p q J L h t A=>
   intro x j
   rcases Ak.mp j with rfl | j
   ·rw[<-h.1];exact NF ok h.2.1
   ·exact A x j
 ·let:xs.map (·.1)=kvs.map (·.1):=by
   clear e m z l
   induction r with
   | nil=>rfl
   | cons h t A=>rw[Al,Al,A,h.1]
  rw[this];exact l
end
section
variable{X:Cx}{ζ:¬(AL×Obj)}{σ:St}{H:Hp}{s:AK}{a b:AL}{v:V}{r:AE}{A:BR}{E:AE->AK->Prop}{kvs:¬(PKy×V)}{k:PKy}
theorem Wl{Q:Unit->AK->Prop}(hu:A.units+9 < Bf)(I:Inv X ζ σ H s)(d:PD H a kvs)(B:NV H k b)(hl:-kvs < sizeLine)(N:RelV v r)
  (h:∀H' s',Inv X ζ σ H' s'->PD H' a (IM kvs k v)->(∃P,H'=upd H a (.ext P))->Q () s'):AW (AY X.prog X.w) A (aF (.ref a) (.ref b) r) Q E s:=by
 let#[j,rel,R,S]:=rB I.hok d;obtain⟨z,T,nd,U,e,-⟩:=d
 refine kS (hsz:=R) (show A.units+1+8 < Bf by omega) (NF I.hok B) S λY Z C=>?_
 let#[q,G,J,L,h2,h3,h4,_,h5]:=Z;let new:CZ X.prog X.w (upd H a (.ext (Ja a (OK j k b r)))) Y a (.ext (Ja a (OK j k b r))):=#[#[q,G,J,L,h2,h3,h4],#[q,L],by rintro h1 yQ ⟨o,G,J,g1,g2⟩ k;exact #[o,G,J,k o g1,g2]];refine h _ _ (To I (by rw[e];exact EJ) C #[q,L] new) #[?_,T,?_,_,Ap,(rel.put k B N).keeps λc ys O=>?_] #[_,rfl]
 ·let:=Kv kvs k v
  lia
 ·let e1:(OK j k b r).map (·.1)=(IM kvs k v).map (·.1):=by
   let:=rel.put k B N;generalize OK j k b r=m at this;generalize IM kvs k v=l at this
   induction this with
   | nil=>rfl
   | cons h t ih=>rw[Al,Al,ih,h.1]
  rw[<-e1];exact h5
 ·rw[AQ (kE O e (λz=>nomatch z))]
  exact O
theorem mf(h:BG)(hb:B3 < h.objs.size){P:Ao}{w:A3}{H:Hp}:CZ P w H (h.push { cls:=.type "dict",data:=.dict #[] }) h.objs.size (.ext (Ja h.objs.size [])):=
 #[#[_,#[],0,AO _ rfl,#[rfl,rfl,rfl],rfl,rfl],#[_,AO _ rfl],by rintro C G ⟨o,j,l,m,B⟩ k;exact #[o,j,l,k o m,B]]
end
end L2
namespace L7
open L2
open L4 (Fw AS eT eP oL oDR N6 Ld Kk)
def setRO(l:¬Z'):⇑(¬Z'):=if l.all (λr=>not r.isEmpty)/\-ddR l<=76 then !ZA l else none
section
variable{X:Cx}{A:¬Sl}{e o:Expr}{p p2 pos tN:Pos}{ρ:Type}{K:AB}
set_option tactic.hygienic true in
theorem UR(G:X.A.units+64 < Bf)(I:X.mg "sorted" = none) (J:X.mg "set" = none) (h:VE X A e (rO X.K (oL (eT D.int))) pl) (L:↑X.calm) (N:↑(Gl X "sorted")) (O:↑(Gl X "set"))
  (P:↑(zSq X e)) (m:↑(AG [.Call (.Name "set" p2) [e] [] tN] X.env=(false,A2 (.Call (.Name "set" p2) [e] [] tN) X.env) :: AG [] X.env)) :
  VE X A (.Call (.Name "sorted" p) [.Call (.Name "set" p2) [e] [] tN] [] pos) (rN X.K (oL (eT D.int))) (pl.bind setRO):=λv R=>by
 let#[l,S,w]:=AS R;unfold setRO at w
 split at w <;> cases w
 rename_i B
 refine(Uv L G N I O J (h l S) P m).imp λσ H Q #[T,F,U,k]=>#[T,F,U,λx H1 kp #[a,Y,vs,Z,rr]=>?_]
 let#[C,i2]:=P9 (Kk l B.1) rr;refine#[a,vs,Y,.inl (.inl Z),i2,by rw[C];exact B.2,λout E ve q j=>k _ _ (kp.trans (BH j)) #[q,rfl,?_,out,Ap,?_]]
 ·cases e0:H q with
  | none=>rfl
  | some u=>rw[kp q u e0]at j;cases j
 ·rw[C]at E
  let:=QB (K:=X.K) (ρ:=[]) ve;rw[E]at this
  exact this.keep (λb M z=>BH j b _ z) λb M M z=>BH j b _ z
theorem RZ(j:(d==B3)=false):MeetsIn prog w (Builtin.«dict.__len__» #[[.ref d],[]]) (λG R s=>∃o es ep,s.heap.get? d=!o/\o.ExactDict/\o.data=.dict es ep/\R (.ok (.ret (.int es.size s.toks))) { s with toks:=s.toks+1 }):=
 .of_wp<|by
  rintro A R s ⟨o,es,ep,l,B,m,h⟩
  show AW _ _ (dictSize d >>= _) _ _ s;unfold dictSize;refine AA (AA (KG l m (AC ?_)));refine AA (wpAny_pendingCount_other j ?_);refine sO ?_;simpa using h
theorem Zp:IG X (.builtin "len") (λxs H Q=>∃a kvs,xs=[V.ref a]/\H a=!.dT kvs/\Q (.int (-kvs)) H):=by
 intro P s R H xs S Q I r h;let#[a,kvs,rfl,B,q]:=h;let#[u,rfl,C]:=vals1 r;cases C;let#[E,G,T,J,o,l,L,m,w,N,O,_]:=(I.hok a _ B)
 let j:l.size=-kvs:=by
  let:=congrArg Dp O;rw[Ad,AD]at this;rw[this,<-C5 J]
 let ty:s.TypeIs (.ref a) "dict":=#[o,m,w.1];refine Im kind_len plain_len entry_len (args_len1 _) ?_;unfold Builtin.«len»;refine AA (AC ?_)
 refine AA (BJ ty pE
  (RG pE ty F.entry_dict_len (F.args_dict_len_1 _) (RZ G) #[o,l,L,m,w,N,?_]))
 refine AA (C0 (AC ?_));refine AA (wpAny_letGo ?_)
 let U:l.size < 2 ^ 63:=by rw[j];exact Il E ∅
 rw[qY (by simp)];rw[qY (by grind)];exact AA (wpAny_mkInt (AC #[_,rfl,.int (-kvs),H,I.tok _,#[_,by rw[j]],q]))
theorem UU(j:X.mg "len" = none) (h:VE X A e (rO X.K (oDR enc)) pl) (m:↑(Gl X "len")) (w:↑(zSq X e)):VE X A (.Call (.Name "len" p) [e] [] pos) (XP X) (pl*>λl=>!(-l:Int)):=
 Np Zp LX j h (λv z H u B Q C E k=>by
  cases C;let#[q,rfl,vs,G,I]:=E;refine#[q,vs,rfl,G,?_];rw[<-KVR.length I,AD]
  exact k _ B .refl (.int _)) upV m ∅ (by rfl) w
end
section
variable{P:Ao}{w:A3}{H:Hp}{h:BG}{a:AL}
def PDF(H:Hp)(a:AL)(kvs:¬(PKy×V)):Prop:=-kvs<=sizeLine/\(a==B3)=false/\(kvs.map (·.1)).Nodup/\∃j ob,H a=!.frz ob (.ext (Ja a j))/\KPr H kvs j
theorem Wj(ok:HOk P w H h)(d:PDF H a kvs):∃xs,KPr H kvs xs/\-xs<=sizeLine/\h.DictOfH (NK.pairKind (HM P w)) a xs:=by
 obtain⟨z,-,A,xs,ob,e,r⟩:=d;obtain⟨_,⟨o,B,C,E,G,I,j⟩,-⟩:=(ok a _ e);refine#[xs,r,by rw[<-C5 r];exact z,o,B,C,E,G,I,j,?_,?_]
 ·clear e j z A
  induction r with
  | nil=>ext
  | @cons p q J L h t l=>
   intro x m
   rcases Ak.mp m with rfl | m
   ·rw[<-h.1];exact NF ok h.2.1
   ·exact l x m
 ·let:xs.map (·.1)=kvs.map (·.1):=by
   clear e j z A
   induction r with
   | nil=>rfl
   | cons h t l=>rw[Al,Al,l,h.1]
  ext
end
section
variable{X:Cx}{o i value tg:Expr}{pos pos':Pos}{td ty tv:TE}
def iA(td ty:TE):TE:=λm H Q=>td m H λx w=>ty m w λy l=>∃a b j k v,x=.ref a/\y=.ref b/\PDF l a j/\NV l k b/\IL j k=!v/\Q v l
theorem ZI(hu:X.A.units+64 < Bf)(B:PE X o td)(hi:PE X i ty)(hs:Zt i):PE X (.Subscript o i pos) (iA td ty):=by
 intro l s m H Q I h;refine Xq Q4.lookup hs (thn (B l s m H _ I h) ?_);rintro u C ⟨x,E,G,J,L⟩;refine thn (hi l C m E _ G L) ?_;rintro N s2 ⟨y,O,j,P,a,b,R,k,v,S,T,g,U,Y,Z⟩;subst S T;obtain rfl:u=AV a:=J;obtain rfl:N=AV b:=P;obtain⟨xs,rel,-,w⟩:=Wj j.hok g;refine#[w.typeIs,?_];let#[w',hw,uf]:=JZ.some_of (by rw[<-Y];exact rel.val k);let#[p,hp,rfl]:=C9.mp hw;exact kX (by show _+1+8 < Bf;lia) (NF j.hok U) w hp #[v,O,j.tok _,uf,Z]
def lj:TE:=λG H Q=>∀p,H p=none->(p==B3)=false->Q (.ref p) (upd H p (.ext (Ja p [])))
theorem cP:PE X (.Dict [] [] pos) lj:=λj s l H Q I h=>
 SX #[.ref s.heap.objs.size,_,I.laid (t':=s.toks) (λG G q=>AF _ q) (AM _) (mf s.heap I.big),rfl,h _ (I.hok.fresh (AM _)) (beq_eq_false_iff_ne.mpr (CU (Ar I.big)))]
def mC(td ty tv:TE):TS:=λD l H=>tv l H λv A=>td l A λx B=>ty l B λy m=>∃a b j k,x=.ref a/\y=.ref b/\PD m a j/\NV m k b/\-j < sizeLine /\
 ∀w,PD (upd m a (.ext w)) a (IM j k v)->D.nx l (upd m a (.ext w))
theorem cG(hu:X.A.units+64 < Bf)(m:PE X o td)(hi:PE X i ty)(w:PE X value tv)(hs:BX value (!.Subscript o i pos') pos.line X.env=pure false) :
  PS X (.Assign [.Subscript o i pos'] value pos) (mC td ty tv):=by
 intro l s j H D I h;refine aD (thn (w l s j H _ I h) λr B #[v,C,E,G,J]=>thn (m l B j C _ E J) ?_) hs;rintro u L ⟨x,N,O,P,Q⟩;refine thn (hi l L j N _ O Q) ?_;rintro R s3 ⟨y,H3,S,T,a,b,U,k,Y,Z,g,gk,gl,q3⟩;subst Y Z;obtain rfl:u=AV a:=P;obtain rfl:R=AV b:=T
 refine Wl ∅ S g gk gl G λH4 s4 I4 d4 e4=>?_
 let#[φ,rfl]:=e4;exact#[j,_,I4,q3 φ d4]
def rk(m:TE):TI:=λw H R=>m w H λx l=>∃a ob j,x=.ref a/\(a==B3)=false/\l a=!.frz ob (.ext (Ja a j))/\R (Itk a ob (.ext (Ja a j)) ((j.map (·.2.1)).map V.ref)) l
theorem cK(hl:PE X l C):PI X tg l (rk C):=by
 intro E s G H R I h
 refine thn (hl E s G H _ I h) ?_;rintro v j ⟨x,J,m,L,N⟩
 let#[a,ob,O,e,P,Q,q]:=N;subst e;cases L;let#[g,#[o,S,Y,w,A,B,T],_]:=(m.hok a _ Q);rw[g]at w;cases w
 let U:S.toList.map (·.key)=(O.map (·.2.1)).map AV:=by
  rw[T,Aw,Aw];rfl
 refine Srt.QD P #[ob,g,A,B] ?_;refine#[j.heap.objs.size,[j.heap.objs.size],_,_,J,rfl,m.kept (t':=j.toks) λb o e=>AF _ e,Rx A B (by rw[U];exact R6 _),#[_,AO _ rfl,rfl,rfl],λb hb=>?_,q]
 let e:b=j.heap.objs.size:=by simpa using hb
 subst e;exact m.fpOk (AM _) (m.hok.fresh (AM _))
end
open L2
open L4 (Fw AS eT eP oL oDR Ld B4)
abbrev BK:=PKy×¬Z'
section
variable{K:AB}{H H' H0:Hp}{l:¬BK}{bs:¬AL}
def zk:¬BK->¬AL->¬(PKy×V)
 | p :: l,b :: bs=>(p.1,.ref b) :: zk l bs
 | _,_=>[]
abbrev KB(K:AB)(H:Hp):¬BK->¬AL->Prop:=Ez λp b=>OB K H b (oL (eT D.int) p.2)
theorem kz(h:KB K H l bs):-zk l bs=-l:=by
 induction h with
 | nil=>rfl
 | cons _ _ j=>show _+1=_+1;rw[j]
theorem aT(h:KB K H l bs)(m:AR l k=!v):∃(j:Nat) (b:AL),l[j]?=!(k,v)/\bs[j]?=!b/\IL (zk l bs) k=!.ref b:=by
 induction h with
 | nil=>cases m
 | @cons p b l bs _ _ o=>
  unfold AR at m;rw[CV]at m
  by_cases e:p.1=k
  ·rw[show decide (p.1=k)=true from wX e]at m
   cases m;exact#[0,b,by rw[<-e];rfl,rfl,KY e]
  ·rw[show decide (p.1=k)=false from wY e]at m
   let#[j,c,w,A,B]:=o m;exact#[j+1,c,w,A,by show IL ((p.1,V.ref b) :: zk l bs) k=_;rw[KZ e];exact B]
theorem kG(h:KB K H l bs){j:Nat}{p:BK}{b:AL}(m:l[j]?=!p)(o:bs[j]?=!b):OB K H b (oL (eT D.int) p.2):=by
 induction h generalizing j with
 | nil=>cases m
 | cons h _ w=>cases j with
  | zero=>cases m;cases o;exact h
  | succ j=>exact w m o
theorem PQ(h:KB K H l bs)(k:∀b∈bs,∀o,OB K H b o->OB K H' b o):KB K H' l bs:=by
 induction h with
 | nil=>exact .nil
 | cons h _ j=>exact .cons (k _ (Aa ..) _ h) (j λb hb=>k b (AN _ hb))
theorem aU(k:PKy)(h:KB K H l bs):((zk l bs).any λj=>decide (j.1=k))=(l.any λj=>decide (j.1=k)):=by
 induction h with
 | nil=>rfl
 | cons _ _ m=>show(_||_)=(_||_);rw[m]
set_option tactic.hygienic true in
theorem nY(h:KB K H l bs)(hb:OB K H b (oL (eT D.int) v)):∃B,KB K H (Cz l k v) B/\zk (Cz l k v) B=IM (zk l bs) k (.ref b)/\∀c∈B,c∈bs∨c=b:=by
 unfold Cz IM;rw[aU k h];split
 ·rename_i C
  clear C
  induction h with
  | nil=>exact#[[],.nil,rfl,λc j=>by cases j]
  | @cons p q l bs E _ G=>
   let#[m,o,w,A]:=G
   by_cases e:p.1=k
   ·refine#[b :: m,.cons ?_ o,?_,λc j=>?_]
    ·show OB K H b (oL (eT D.int) (if p.1=k then(p.1,v)else p).2)
     rw[qX e];exact hb
    ·show((if p.1=k then(p.1,v)else p).1,V.ref b) :: zk _ m=(if p.1=k then(p.1,V.ref b)else(p.1,V.ref q)) :: _
     rw[qX e,qX e,w]
    ·rcases Ak.mp j with rfl | j
     ·exact .inr rfl
     ·exact(A c j).imp (AN _) id
   ·refine#[q :: m,.cons ?_ o,?_,λc j=>?_]
    ·show OB K H q (oL (eT D.int) (if p.1=k then(p.1,v)else p).2)
     rw[qY e];exact E
    ·show((if p.1=k then(p.1,v)else p).1,V.ref q) :: zk _ m=(if p.1=k then(p.1,V.ref b)else(p.1,V.ref q)) :: _
     rw[qY e,qY e,w]
    ·rcases Ak.mp j with rfl | j
     ·exact .inl (Aa ..)
     ·exact(A c j).imp (AN _) id
 ·rename_i C
  clear C
  induction h with
  | nil=>exact#[[b],.cons hb .nil,rfl,λc j=>.inr (Av.mp j)]
  | @cons p q l bs E _ G=>
   let#[m,o,w,A]:=G;refine#[q :: m,.cons E o,?_,λc j=>?_]
   ·show(p.1,V.ref q) :: zk (l++[(k,v)]) m=(p.1,V.ref q) :: (zk l bs++_)
    rw[w]
   ·rcases Ak.mp j with rfl | j
    ·exact .inl (Aa ..)
    ·exact(A c j).imp (AN _) id
def pB(K:AB)(l:¬BK):Hp->(AL->Prop)->Hp->V->Prop:=λG S H y=>∃a bs,y=.ref a/\S=(λc=>c=a∨c∈bs)/\a∉bs/\PD H a (zk l bs)/\KB K H l bs
def zB(K:AB)(l:¬BK):Hp->Hp->V->Prop:=λH0 H y=>∃a bs ob j m o,y=.ref a/\H0 a=none/\(∀b∈bs,H0 b=none)/\H a=!.frz ob (.ext (Ja a j))/\ob.data=.dict m o/\m.toList.map (·.val)=bs.map AV/\-zk l bs<=sizeLine/\(a==B3)=false/\((zk l bs).map (·.1)).Nodup/\KPr H (zk l bs) j/\KB K H l bs
theorem QC{a b:¬AL}(h:a.map AV=b.map AV):a=b:=by
 induction a generalizing b with
 | nil=>cases b with
  | nil=>rfl
  | cons=>cases h
 | cons x a j=>cases b with
  | nil=>cases h
  | cons y b=>
   rw[Al,Al]at h
   injection h with m o
   cases m;rw[j o]
theorem cy(h:KB K H l bs)(r:KPr H' (zk l bs) xs):xs.map (·.2.2)=bs.map AV:=by
 induction h generalizing xs with
 | nil=>cases r;rfl
 | cons _ _ j=>
  cases r with
  | cons h t=>rw[Al,Al,j t];congr 1;exact h.2.2
theorem qo(h:NV H k b):RD K H (eP (eT D.int) D.int k) (.ref b):=by
 let#[c,m,o]:=h;refine .tup m (.cons (.tup o ?_) (.cons (.int _) .nil));generalize k.1=j
 induction j with
 | nil=>exact .nil
 | cons n j w=>exact .cons (.int n) w
theorem bv{j:Z'}{vs:¬V}(h:A7 K [] H (j.map D.int) vs):vs=j.map V.int:=by
 induction j generalizing vs with
 | nil=>cases h;rfl
 | cons n j m=>cases h with | cons o w=>cases o;rw[m w];rfl
theorem cH{k}{y}(h:RD K H (eP (eT D.int) D.int k) y):∃b,y=.ref b/\NV H k b:=by
 cases h with
 | @tup _ b vs m j=>
  cases j with
  | cons o j=>cases j with
   | cons w j=>
    cases j;cases w
    cases o with
    | @tup _ c C A B=>exact#[b,rfl,c,m,by rw[A,bv B]]
end
section
variable{X:Cx}{A:¬Sl}{e i o:Expr}{pos pos':Pos}{ρ:Type}{l:¬BK}
theorem bD:VE X A (.Dict [] [] pos) (rG (pB X.K)) (![]):=λv m=>cP.imp<|by
 rintro C H Q ⟨w,F,E,k⟩
 cases m;intro q j B;refine k _ _ (BH j) #[λc=>c=q,λb z=>by cases z;exact#[j,_,Ap],λw I G f z=>#[q,[],rfl,by funext c;simp,by simp,#[Bc _,B,by simp[zk],[],(z q rfl).trans Ap,.nil],.nil]]
theorem ah{n:Nat}{E:⇑PKy}{pv:⇑(¬Z')}{R:Rk ρ}(hu:X.A.units+64 < Bf)(ho:PE X o (DI n))(hi:VE X A i (rV X.K (eP (eT D.int) D.int)) E)(hv:VE X A e (rN X.K (oL (eT D.int))) pv)(hA:↑(A[n]?=!.g (pB X.K l)))(hs:↑(BX e (!.Subscript o i pos') pos.line X.env=pure false)) :
  VS X A (.Assign [.Subscript o i pos'] e pos) R (pv*>λv=>E*>λk=>B4 l k v*>λI=>!.nx I) (λI=>A.set n (.g (pB X.K I))):=λf B=>by
 let#[v,h1,B]:=AS B;let#[k,h2,B]:=AS B;let#[I,N,h4]:=AS B;cases h4;unfold B4 at N
 split at N <;> cases N
 let hl:-l < 1000000:=by assumption
 refine(cG hu ho (hi k h2) (hv v h1) hs).imp λD σ H #[H0,F,#[G,hs],q]=>?_
 let#[y,g1,g2]:=hs.atG hA
 let#[a,bs,rfl,gS,O,gd,gb]:=g2 H Kp.refl.fr λM M=>rfl
 refine#[H0,F,#[G,hs],λx1 H1 k1 r1=>#[_,g1,H0,_,#[G,hs.grow k1],λy Q S r2=>?_]];let#[b,rfl,hb,ob]:=r1;let#[c,rfl,E]:=cH r2;let j:=k1.trans S
 let C:G n a:=by rw[gS];exact .inl rfl
 let#[oa,ea]:=(hs.gn n a C).2;let#[_,_,_,xs,m,_]:=id gd
 let T:b≠a:=λz=>by rw[z,ea]at hb;cases hb
 let U:=PD.keeps (λb ys z=>j _ _ z) (by rw[m,j _ _ m]) gd;refine#[a,c,zk l bs,k,rfl,rfl,U,E,by rw[kz gb];exact Ld hl,λφ pd=>?_]
 let Y:=PQ gb λb M o z=>j.ob z
 let#[wb,j1,j2,Z]:=nY Y (S.ob ob)
 let ne:∀c o,H c=!o->c≠b:=λc o z1 z2=>by rw[z2,hb]at z1;cases z1
 let fe:Fe F H (λc=>gF F H Q c/\c≠b) (upd Q a (.ext φ)):=#[λc z=>#[.inl z,let #[o,e]:=hs.fh c z;ne c o e],λc us z=>by rw[AQ (λw=>by rw[w,m]at z;cases z)];exact j _ _ z,λc us w z=>by rw[AQ (λw=>by rw[w,m]at z;cases z)];exact j _ _ z,λc us w z=>by rw[AQ (show c≠a from λq=>(hs.gn n a C).1 (q▸w))];exact j _ _ z]
 let na:Not (gF F H Q a):=λz=>z.elim (hs.gn n a C).1 λz=>by rw[ea]at z;cases z.1
 let hbs:∀c∈bs,G n c:=λc J=>by rw[gS];exact .inr J
 let vr:=hs.own n (S':=λc=>c=a∨c∈wb) (P:=pB X.K (Cz l k v)) fe (λc o z w=>by rw[AQ (show c≠a from λu=>w (u▸C))];exact j _ _ z) (λc z=>z.1.imp id λw=>w.1) (λc z=>by
   rw[AQ (show c≠a from λu=>na (u▸z.1))]
   exact z.1.elim (λw=>let #[o,e]:=hs.fh c w;#[o,j c o e]) λw=>w.2) (λc z=>by
   rcases z with rfl | z
   ·exact#[.inl C,λw=>na w.1,_,Ap]
   ·rcases Z c z with w | rfl
    ·let w':=hbs c w
     let#[o,L]:=(hs.gn n c w').2;exact#[.inl w',λu=>u.1.elim (hs.gn n c w').1 (λu=>by rw[L]at u;cases u.1),o,by rw[AQ (show c≠a from λu=>O (u▸w))];exact j _ _ L]
    ·let#[o,L]:=(S.ob ob).at
     exact#[.inr hb,λu=>u.2 rfl,o,by rw[AQ T];exact L]) λH2 f z=>#[a,wb,rfl,rfl,λw=>(Z a w).elim O λw=>T w.symm,by rw[j2];exact pd.keeps f.tup (z a (.inl rfl)),PQ j1 λc J o w=>w.keep (λb ys e=>f.tup _ _ (by rw[AQ (λu=>by rw[u,j _ _ m]at e;cases e)];exact e)) (λb o u e=>f.frz _ _ _ (by rw[AQ (λu=>by rw[u,j _ _ m]at e;cases e)];exact e)) ((z c (.inr J)).trans (AQ λu=>(Z c J).elim (λw=>O (u▸w)) λw=>T (w.symm.trans u)))]
 rw[St.set_same g1]at vr;exact q _ _ _ #[_,vr] fe
end
section
variable{X:Cx}{A:¬Sl}{e i tg o d:Expr}{p pos pos':Pos}{ρ τ:Type}{l:¬BK}
theorem fy(i:Nat)(j:autoParam X.N.Nodup yq5q)(hi:↑(X.N[i]?=!x))(m:autoParam (Loc X.env.scope x) yq4q)(hs:↑(BX (.Dict [] [] p) (!.Name x pos') pos.line X.env=pure false))(w:autoParam (zFn X x) yq3q):VS X A (.Assign [.Name x pos'] (.Dict [] [] p) pos) R (!.nx ([]:¬BK)) (λv=>A.set i (.g (pB X.K v))):=jo (bL bD j hi m hs w)
set_option tactic.hygienic true in
theorem lB{st:B5}{R:Rk ρ}{q:⇑(Fw ρ τ)}{B:τ->¬Sl}(i:Nat)(h:VS X (A.set i (.q (zB X.K l))) st R q B)(hA:↑(A[i]?=!.g (pB X.K l))):VS X A st R q B:=by
 rintro f hf ζ s U H D I ⟨J,F,⟨G,C⟩,k⟩
 let#[y,g1,g2]:=C.atG hA
 let#[a,bs,rfl,gS,gn,gd,Y]:=g2 H Kp.refl.fr λM M=>rfl
 let#[Z,z2,z3,L,ex,kp]:=gd;let#[#[o,es,ep,e1,e2,e3,e4],_]:=(I.hok a _ ex)
 let N:G i a:=by rw[gS];exact .inl rfl
 let nF:=(C.gn i a N).1
 let P:∀b∈bs,G i b:=λb hb=>by ext
 let n0:∀b,G i b->J b=none:=λb hb=>by
  cases e:J b with
  | none=>rfl
  | some u=>exact zX (C.f0 b u e) (C.gn i b hb).1
 let E:∀b,b≠a->upd H a (.frz o (.ext (Ja a L))) b=H b:=λb hb=>AQ hb
 let fe:Fe F H (λb=>F b∨b∈bs) (upd H a (.frz o (.ext (Ja a L)))):=#[λM z=>.inl z,λb O z=>by grind,λb O w z=>by grind,λb w Z z=>by grind]
 let vr:VR J (A.set i (.q (zB X.K l))) U (λb=>F b∨b∈bs) (λj=>if j=i then λM=>False else G j) (upd H a (.frz o (.ext (Ja a L)))):=by
  refine#[λb u z=>by rw[E b (λc=>nF (c▸C.f0 b u z))];exact C.kp b u z,λb u z=>.inl (C.f0 b u z),λb z=>?_,λj t Q=>?_,λj b z=>?_,λj m b S T=>?_]
  ·rcases z with z | z
   ·rw[E b (λc=>nF (c▸z))];exact C.fh b z
   ·rw[E b (λc=>gn (c▸z))];exact(C.gn i b (P b z)).2
  ·rcases HV Q with⟨rfl,rfl,hl⟩ | ⟨c,Q⟩
   ·refine#[_,g1,_,rfl,λH' f=>#[a,bs,o,L,es,ep,rfl,n0 a N,λb hb=>n0 b (P b hb),f.frz _ _ _ Ap,e3,?_,Z,z2,z3,kp.keeps λb O z=>f.tup _ _ (fe.fr.tup _ _ z),PQ Y λb hb o z=>?_]]
    ·rw[e4,Aw,<-cy Y kp];rfl
    ·let#[u,hu]:=z.at
     exact z.keep (λb O w=>f.tup _ _ (fe.fr.tup _ _ w)) (λb O u w=>f.frz _ _ _ (fe.fr.frz _ _ _ w)) (by rw[hu];exact f.fix b _ (.inr hb) (by grind))
   ·let#[x,q1,q2]:=C.sl j t Q
    rw[qY (CU c)];exact#[x,q1,Sl.mono q2 fe λb hb=>E b λz=>c (C.ds i j b (z▸N) hb)]
  ·split at z
   ·exact z.elim
   ·rename_i c
    let#[m1,m2]:=C.gn j b z;exact#[λw=>w.elim m1 λw=>c (C.ds j i b z (P b w)),by rw[E b (λw=>c (C.ds j i b z (w▸N)))];exact m2]
  ·split at S
   ·exact S.elim
   ·split at T
    ·exact T.elim
    ·exact C.ds j m b S T
 exact h f hf ζ s U _ D (I.fz e1 ex trivial) (M4 #[J,_,F,H,#[_,vr],fe,k])
theorem jA{K}{H}{bs}{xs}(h:KB K H l bs){H'}(r:KPr H' (zk l bs) xs):A7 K [] H' ((l.map (·.1)).map (eP (eT D.int) D.int)) ((xs.map (·.2.1)).map V.ref):=by
 induction h generalizing xs with
 | nil=>cases r;exact .nil
 | cons _ _ j=>
  cases r with
  | cons h t=>exact .cons (qo h.2.1) (j t)
theorem gP{n}(h:PE X e (DI n))(hi:↑(A[n]?=!.q (zB X.K l))):VI X A tg e (rd X.K (eP (eT D.int) D.int)) (!l.map (·.1)):=λT G=>(cK h).imp<|by
 rintro U H R ⟨Y,F,I,k⟩
 cases G;let#[y,J,L]:=I.at hi;let#[a,bs,ob,N,Z,ep,rfl,n0,nb,m,hd,w,z1,O,z3,kp,P]:=L H Kp.refl.fr;refine#[_,J,a,ob,N,rfl,O,m,k _ H .refl λF' H' fe i=>?_];let B:=fe.fr.frz _ _ _ m;let C:=jA P (kp.keeps fe.fr.tup);refine#[λQ=>#[B,by rw[<-C.length,AD];exact B6.mp Q],λv w=>?_];let#[x,E,S]:=C.get (by rw[Ai,w];rfl);refine#[#[B,(AI.mp E).1],λy H2 j=>?_];let#[rfl,j]:=j;rw[E]at j;cases j;exact#[.refl,λH3 f=>f.rd S]
theorem aq(N:X.A.units+64 < Bf)(O:PE X o (DI n))(hi:VE X A i (rV X.K (eP (eT D.int) D.int)) C)(P:↑(A[n]?=!.q (zB X.K l)))(hs:autoParam (Zt i) yq7q):VF X A (.Subscript o i pos) (eT D.int) (C*>λk=>AR l k):=λv R=>by
 let#[k,S,T]:=AS R
 refine(ZI N O (hi k S) hs).imp λσ H Q #[U,F,hs,q]=>?_
 let#[y,Y,I]:=hs.at P;refine#[_,Y,U,F,hs,λx J kp r=>?_];let#[c,rfl,C]:=cH r;let#[a,bs,ob,Z,es,ep,rfl,n0,nb,L,hd,E,z1,z2,z3,G,kb]:=I J kp.fr;let#[j,b,j1,j2,j3]:=aT kb T;refine#[a,c,_,k,.ref b,rfl,rfl,#[z1,z2,z3,Z,ob,L,G],C,j3,q b J kp λH' f=>?_];let#[a',wb,ob',uZ,es',vL,e,_,_,w,B,m,_,_,_,_,ϔ]:=I H' (kp.fr.trans f λM z=>.inl z);cases e;rw[f.frz _ _ _ L]at w
 injection w with w
 injection w with w _
 subst w;rw[hd]at B;cases B;rw[E]at m;cases QC m;exact kG ϔ j1 j2
theorem jy(h:VB X A e q)(j:↑(q=q')):VB X A e q':=j▸h
def rFB(K:AB):Rk (¬(Z'×Int)×¬BK):=λv H x j=>∃p d y,x=.ref p/\j p=!.tup [.ref d,y]/\H d=none/\OB K j d (oDR D.int v.1)/\zB K v.2 H j y
theorem jm{K}{H H' j}{y}(k:Kp H H')(h:zB K l H' j y):zB K l H j y:=by
 let m:∀b,H' b=none->H b=none:=λb z=>by
  cases e:H b with
  | none=>rfl
  | some u=>rw[k b u e]at z;cases z
 let#[a,bs,ob,w,B,C,e,E,G,h]:=h;exact#[a,bs,ob,w,B,C,e,m a E,λb hb=>m b (G b hb),h]
theorem upFB{K}(v:¬(Z'×Int)×¬BK)(H H':Hp)(x:V)(H2:Hp)(k:Kp H H')(h:rFB K v H' x H2):rFB K v H x H2:=by
 let#[p,d,y,m,w,j,B,C]:=h;refine#[p,d,y,m,w,?_,B,jm k C]
 cases e:H d with
 | none=>rfl
 | some u=>rw[k d u e]at j;cases j
theorem aY(G:PE X d (DI n))(I:PE X e (DI m))(w:↑(A[n]?=!sw X.K (oDR D.int u)))(J:↑(A[m]?=!.q (zB X.K l)))(hs:↑(AG [d,e] X.env=(false,A2 d X.env) :: AG [e] X.env))(L:↑(zSq X e)) :
  VS X A (.Return (!.Tuple [d,e] x1 pos') pos) (rFB X.K) (!.rt (u,l)) B:=λf N=>by
 cases N
 refine(TH (TK (Bn G (Bn I Du L) hs))).imp λEE O H #[P,F,C,k]=>?_
 let Q:n≠m:=λz=>by ext
 let#[F1,E,fe]:=LB w P O F H C;let#[y,R,S]:=E.at (by rw[Dc,qX rfl,qX (AI.mp w).1]);let#[z,T,U]:=E.at (by rw[C1 Q];exact J);refine#[_,R,_,T,(by show 2<=sizeLine;decide),λq j=>k _ _ (C.kp.trans (BH j)) ?_];let#[a,rfl,Y,Z]:=S _ (BH (o:=.tup [y,z]) j).fr;exact#[q,a,z,rfl,Ap,Y,Z,U _ (BH j).fr]
theorem ai{x y:Str}{n m C:Nat}{E G pt:Pos}{q:⇑(¬(Z'×Int)×¬BK)}{R:Rk ρ}(h:VE X A e (rFB X.K) q)(hg:PG X (.Tuple [.Name x E,.Name y G] C pt) (n9 X.K 2 (VJ (Ie n) (VJ (Ie m) oA))))(hnm:↥(n≠m))
  (hs:↑(swapsWithSole [.Tuple [.Name x E,.Name y G] C pt] e pos.line X.env=pure false)) (hw:↑(swappedStores [.Tuple [.Name x E,.Name y G] C pt] e X.env=pure none)) (N:↑((Jd [.Tuple [.Name x E,.Name y G] C pt] X.env).map (·.2)=[assign (.Tuple [.Name x E,.Name y G] C pt) X.env])) :
  VS X A (.Assign [.Tuple [.Name x E,.Name y G] C pt] e pos) R (q*>λv=>!.nx v) (λv=>(A.set n (sy X.K (oDR D.int v.1))).set m (.q (zB X.K v.2))):=λf hf=>by
 let#[v,h1,h2]:=AS hf;cases h2
 refine(mN (h v h1) hg hs hw N).imp λEE σ H #[O,F,Q,k]=>#[O,F,Q,λx H1 kp r=>?_]
 let#[p,d,y,rfl,r1,S,U,Y]:=r;let v1:=Q.grow kp;refine#[p,_,rfl,.inl (.inl r1),rfl,_,_,rfl,_,_,rfl,rfl,k _ _ _ ((v1.set n (P:=λO H y=>∃a,y=.ref a/\O a=none/\OB X.K H a (oDR D.int v.1)) λH' f=>#[d,rfl,?_,?_]).set m λH' f=>?_) kp.fe]
 ·cases e0:O d with
  | none=>rfl
  | some u=>rw[Q.kp d u e0]at S;cases S
 ·let#[u,B]:=U.at
  exact f.ob (by rw[B];exact f.fix d _ (.inr #[S,u,B]) B) U
 ·let#[a,bs,ob,xs,es,ep,e,n0,nb,N,Z,J,z1,z2,z3,T,kb]:=jm Q.kp Y
  let#[a',wb,ob',uZ,es',vL,e',n0',tS,I,L,j,_]:=Y;rw[e]at e';cases e';rw[N]at I
  injection I with I
  injection I with I _
  subst I;rw[Z]at L;cases L;rw[J]at j;cases QC j;refine#[a,bs,ob,xs,es,ep,e,n0,nb,f.frz _ _ _ N,Z,J,z1,z2,z3,T.keeps f.tup,PQ kb λb hb o w=>?_];let#[u,B]:=w.at;exact f.ob (by rw[B];exact f.fix b _ (.inr #[tS b hb,u,B]) B) w
end
open L2
open L4 (Fw AS eT oL L8 Bu Ld)
section
variable{A:¬Sl}{α β:Type}
theorem Sm:∀A:¬Sl,Ws A A
 | []=>.nil
 | _ :: A=>.same (Sm A)
theorem vc{X:Cx}{o iter:Expr}{w:¬Expr}{scope:LW}{pos p:Pos}{y:Str}{N':¬Str}{enc:α->D}{eb:β->D}{pl:⇑(¬α)}{pc:α->⇑Bool}{H:α->⇑β}(hi:VI X A (.Name y p) iter (rd X.K enc) pl)
  (I:∀x B C j m E pn,VIf (DD X scope N' B C j m E pn) (sv X.K (enc x) :: A) w (pc x)) (J:∀x B C j m E pn,VE (DD X scope N' B C j m E pn) (sv X.K (enc x) :: A) o (rV X.K eb) (H x))
  (L:autoParam (Tp X scope [y] N'=true) yq15q) (G:autoParam N'.Nodup yq8q) (N:autoParam (N'.Nodup->∀B C j m E pn,PG (DD X scope N' B C j m E pn) (.Name y p) (Ie 0)) yq16q)
  (O:↑X.calm) (hs:autoParam (∀x,B8 iter X.env x=pure x) yq2q):VE X A (.ListComp o [#[.Name y p,iter,w,0]] scope pos) (rN X.K (oL eb)) (pl*>λl=>Bu l pc H):=
 O9 (Jx L) hi (N G) LC (λM=>.drop (Sm A)) I J O hs
theorem vd{X:Cx}{o iter:Expr}{w:¬Expr}{scope:LW}{pos p I J:Pos}{y z:Str}{i:Nat}{N':¬Str}{enc:α->D}{eb:β->D}{pl:⇑(¬α)}{pc:α->⇑Bool}{L:α->⇑β}(hi:VI X A (.Name y p) iter (rd X.K enc) pl)
  (O:∀x B C j m E pn,VIf (DD X scope N' B C j m E pn) (sv X.K (enc x) :: A) w (pc x)) (P:∀x B C j m E pn,VE (DD X scope N' B C j m E pn) (sv X.K (enc x) :: A) o (rV X.K eb) (L x))
  (Q:autoParam (Tp X scope [y] N'=true) yq15q) (G:autoParam N'.Nodup yq8q) (R:autoParam (N'.Nodup->∀B C j m E pn,PG (DD X scope N' B C j m E pn) (.Name y p) (Ie 0)) yq16q)
  (S:↑X.calm) (hs:autoParam (∀x,B8 iter X.env x=pure x) yq2q) (T:autoParam X.N.Nodup yq5q) (U:↑(X.N[i]?=!z)) (Y:autoParam (Loc X.env.scope z) yq4q) (H:↑(BX (.ListComp o [#[.Name y p,iter,w,0]] scope pos) (!.Name z I) J.line X.env=pure true)) (Z:autoParam (X.fn z=true∨X.env.scope.names.lookup z=!.local) yq3q):VEA X A i (.Assign [.Name z I] (.ListComp o [#[.Name y p,iter,w,0]] scope pos) J) (rN X.K (oL eb)) (pl*>λl=>Bu l pc L):=
 Xl (Jx Q) hi (R G) LC (λM=>.drop (Sm A)) O P S hs T U Y H Z
end
open L2
open L4 (Fw AU BW Bx BQ AS eT eP eP3 eU oL HG EqN)
section
variable{X:Cx}{A:¬Sl}{e o f tg:Expr}{p p2 p3 pos pos' apos cpos:Pos}{α β γ ρ τ:Type}{l:¬BK}{K:AB}{td ty tx:TE}
def bX(td ty tx:TE):TE:=λm H Q=>td m H λx B=>∃a j,x=.ref a/\PDF B a j/\ty m B λy C=>tx m C λz w=>∃b j k,y=.ref b/\PDF w a j/\NV w k b/\Q ((IL j k).getD z) w
theorem Wi(hu:X.A.units+64 < Bf)(O:PE X o td)(P:PE X e ty)(R:PE X f tx)(m:M2 X o "get" apos e f cpos):PE X (.Call (.Attribute o "get" apos) [e,f] [] cpos) (bX td ty tx):=by
 intro B s C H Q I h;refine oj m.base m.few m.line Rj Ei T5 (thn (O B s C H _ I h) ?_);rintro u S ⟨x,T,J,U,a,Y,Z,d,q1⟩;subst Z;obtain rfl:u=AV a:=U;obtain⟨xs,rel,-,L⟩:=Wj J.hok d;refine#[L.typeIs,λb q=>by cases q;let#[ob,_,_,h1,h2,_]:=L;exact#[ob,h1,h2.2.1],?_];rw[m.trees]
 refine Gc rfl (Lb (Ed (thn (P B S C T _ J q1) λiv s2 #[y,H2,I2,ry,q2]=>
  Ed (thn (R B s2 C H2 _ I2 q2) ?_))));rintro fv s3 ⟨z,H3,E,rz,b,N,k,ey,d3,gk,q3⟩;refine JB ?_
 subst ey;obtain rfl:iv=AV b:=ry;obtain⟨G,ϕ,-,j⟩:=Wj E.hok d3;refine RG Ei j.typeIs Jf (JJ _ _ _) (Zw (NK.pairKind (HM X.prog X.w)) a b d3.2.1 fv) #[?_,k,G,NF E.hok gk,j,#[_,H3,E.tok _,(ϕ.val k).getD rz,q3]];show _+1+_ < Bf;lia
def pO(K:AB)(v:⇑(¬Z'))(H:Hp)(y:V):Prop:=match v with
 | none=>y=.non
 | some j=>∃a,y=.ref a/\OB K H a (oL (eT D.int) j)
theorem fV{H:Hp}{bs:¬AL}{k:PKy}(h:KB K H l bs)(j:AR l k=none):IL (zk l bs) k=none:=by
 let e:(IL (zk l bs) k).isSome=(AR l k).isSome:=by
  rw[<-My,aU k h];unfold AR;rw[Et,Bool.eq_iff_iff,aL,HH]
 ext
def nH:Hp:=λG=>none
theorem zB_n{K:AB}(j H:Hp)(y:V)(h:zB K l j H y):zB K l nH H y:=by let#[a,bs,ob,m,w,B,C,_,_,l]:=h;exact#[a,bs,ob,m,w,B,C,rfl,λG G=>rfl,l]
theorem gT{n:Nat}(h:PE X e (DI n))(j:↑(A[n]?=!.q (zB X.K l))):VE X A e (rP λl H y=>zB X.K l nH H y) (!l):=λJ m=>h.imp<|by
 rintro G H Q ⟨I,F,w,q⟩
 cases m;let#[y,B,C]:=w.at j;exact#[y,B,q y H .refl λE k=>zB_n _ _ _ (C E k.fr)]
theorem gC{n j:Nat}{x:Str}{S:⇑PKy}{T:Hp->Hp->V->Prop}{R:Rk ρ}(hu:X.A.units+64 < Bf)(L:Nat)(ho:PE X o (DI n))(U:∀J H y,T J H y->zB X.K l nH H y)(hk:VE X A e (rV X.K (eP (eT D.int) D.int)) S)(hA:↑(A[n]?=!.q T))(wa:autoParam (M2 X o "get" apos e (.Constant .none j p2) cpos) yq14q)
  (hN:autoParam X.N.Nodup yq5q) (hi:↑(X.N[L]?=!x)) (hx:autoParam (Loc X.env.scope x) yq4q) (hs:↑(BX (.Call (.Attribute o "get" apos) [e,.Constant .none j p2] [] cpos) (!.Name x pos') pos.line X.env=pure false)) (hf:autoParam (zFn X x) yq3q) :
  VS X A (.Assign [.Name x pos'] (.Call (.Attribute o "get" apos) [e,.Constant .none j p2] [] cpos) pos) R (S*>λk=>!.nx (AR l k)) (λv=>A.set L (.q λM H y=>pO X.K v H y)):=λg hg=>by
 let#[k,h1,h2]:=AS hg;cases h2
 refine(Wf hN hi hx (Wi hu ho (hk k h1) (ay (A:=A) (enc:=eU) (v:=()) rfl () rfl) wa) hs hf).imp λD σ H #[J,F,hs,q]=>?_
 let#[y,g1,Y]:=hs.at hA;let#[a,bs,ob,Z,es,ep,rfl,n0,nb,O,hd,P,z1,z2,z3,G,kb]:=U _ _ _ (Y H Kp.refl.fr);refine#[_,g1,a,zk l bs,rfl,#[z1,z2,z3,Z,ob,O,G],J,F,hs,λx H1 kp r=>#[J,_,hs.grow kp,λw H2 k2 rw=>?_]];let#[c,rfl,Q]:=cH r;cases rw;let C:=kp.trans k2;refine#[c,zk l bs,k,rfl,#[z1,z2,z3,Z,ob,C _ _ O,G.keeps λb ys z=>C _ _ z],Q.keeps λb ys z=>k2 _ _ z,q _ _ _ ((hs.grow C).set L λH' f=>?_) C.fe];unfold pO
 cases hv:AR l k with
 | none=>rw[fV kb hv];rfl
 | some rs=>
  let#[m,b,j1,j2,j3]:=aT kb hv;rw[j3];refine#[b,rfl,?_];let#[a',wb,ob',uZ,es',vL,e,_,_,E,I,B,_,_,_,_,ϔ]:=U _ _ _ (Y H' (C.fr.trans f λM z=>.inl z));cases e;rw[f.frz _ _ _ (C _ _ O)]at E
  injection E with E
  injection E with E _
  subst E;rw[hd]at I;cases I;rw[P]at B;cases QC B;exact kG ϔ j1 j2
theorem bJ{n j:Nat}{v:⇑(¬Z')}(h:PE X e (DI n))(E:↑(A[n]?=!(.q λM H y=>pO X.K v H y))):VB X A (.Compare e [.IsNot] [.Constant .none j p2] pos) (!v.isSome):=λb hb=>by
 cases hb
 refine(NE ij h (ay (A:=A) (enc:=eU) (v:=()) rfl () rfl) (GO _)).imp λL H Q #[G,F,B,q]=>?_
 let#[y,I,J]:=B.at E;let m:=J H Kp.refl.fr;refine#[y,I,G,F,B,λw C kp r=>?_];cases r;refine#[rfl,?_];unfold pO at m
 cases v with
 | none=>subst m;exact#[_,rfl,q C kp]
 | some N=>let#[a,rfl,_]:=m;exact#[_,rfl,q C kp]
theorem fm{n:Nat}{w B:Hp->Hp->V->Prop}(C:A[n]?=!.q w)(h:∀j H y,w j H y->B j H y):Wk A (A.set n (.q B)):=by rintro j N F H ⟨G,v⟩;exact #[F,#[G,v.kp,v.f0,v.fh,λi s m=>by
 rcases HV m with⟨rfl,rfl,_⟩ | ⟨_,m⟩
 ·let#[x,E,y,I,J]:=v.sl _ _ C
  exact#[x,E,y,I,λL f=>h _ _ _ (J L f)]
 ·exact v.sl i s m,v.gn,v.ds],.refl]
theorem fo{n:Nat}{s:Sl}:Wk (A.set n s) (A.set n .u):=by rintro w B F H ⟨G,v⟩;exact #[F,#[G,v.kp,v.f0,v.fh,λi t j=>by
 rcases HV j with⟨rfl,rfl,C⟩ | ⟨c,j⟩
 ·let#[x,m,_]:=v.sl n s (by ext)
  exact#[x,m,trivial]
 ·exact v.sl i t ∅,v.gn,v.ds],.refl]
theorem lA{n j:Nat}{v:⇑(¬Z')}{m:¬B5}{R:Rk ρ}{q:¬Z'->⇑(Fw ρ τ)}{B:τ->¬Sl}{s0:τ}(h:PE X e (DI n))(hb:∀w,VSs X (A.set n (sz X.K (oL (eT D.int) w))) m R (q w) B)(w0:Wk A (B s0))(C:↑(A[n]?=!(.q λG H y=>pO X.K v H y))) :
  VS X A (.If (.Compare e [.IsNot] [.Constant .none j p2] p3) m [] pos) R (match v with | none=>!.nx s0 | some w=>q w) B:=by
 cases v with
 | none=>exact λf E=>Ha (p:=none) (q:=!.nx s0) (bJ h C) (λG h=>nomatch h) (Ci w0) f E
 | some w=>exact λf E=>Ha (p:=q w) (q:=none) (bJ h C) (jp (fm (n:=n) C λG G G z=>z) (hb w)) (λG h=>nomatch h) f E
theorem gE{iter:Expr}{L:¬B5}{g:TG}{t:α->¬Sl->¬Sl}{enc:α->D}{R:Rk ρ}{l:¬α}{q:τ->α->⇑(Fw ρ τ)}{B:AL->τ->¬Sl}{C:τ->¬Sl}{s0:τ}(j:Nat)(h:PE X iter (DI j))(hg:PG X tg g)(ht:VT g (rd X.K enc) t)
  (w0:∀a,Wk (A.set j (sx X.K a (oL enc l))) (B a s0)) (hb:∀a s x,VSs X (t x (B a s)) L R (q s x) (B a)) (w1:∀a s,Wk (B a s) (C s)) (hA:↑(A[j]?=!sw X.K (oL enc l))) (hB:autoParam (∀a s,(B a s)[j]?=!sx X.K a (oL enc l)) yq7q)
  (hx:↑(X.xe=λM M=>False)) (hc:↑X.calm) (hs:autoParam (∀x,B8 iter X.env x=pure x) yq2q):VS X A (.For tg iter L [] pos) R (BW l s0 q) C:=λf hf=>by
 let hb':PSs X L (λD T H=>∃a s x P,q s x=!P/\tV (t x (B a s)) R (B a) P D T H):=by rintro ζ s T H D I ⟨a,Q,x,P,e,h⟩;exact hb a Q x P e ζ s T H D I h
 refine(cE (good_none hx).own hc (NG h) hg hb' hs).imp λD T H #[O,F,hs,k]=>?_
 let#[G,N]:=hs;let#[y,g1,g2]:=N.atG hA
 let#[a,rfl,g3,#[vs,g4,g5],_]:=g2 H Kp.refl.fr λM M=>rfl
 let zF:Vs O (A.set j (sx X.K a (oL enc l))) T F H:=#[G,N.kp,N.f0,N.fh,λi s hs=>by
  rcases HV hs with⟨rfl,rfl,_⟩ | ⟨_,hs⟩
  ·exact#[_,g1,_,rfl,λH' f z=>by let#[a',e,h1,h2,_]:=g2 H' f z;cases e;exact#[a,rfl,h1,h2,rfl]]
  ·exact N.sl i s hs,N.gn,N.ds]
 let#[F1,vO,Ρ]:=w0 a O T F H zF;refine#[_,g1,a,rfl,#[vs,.inl (.inl g4)],λi m E H'=>m=-l - i/\i<=-l/\∃J s,Vs O (B a s) E J H'/\Fe F H J H'/\BW (l.drop i) s q=!f,#[_,rfl,Bc _,_,s0,vO,Ρ,by ext],?_];rintro i m E H' ⟨rfl,hle,J,s,N,fe,w⟩
 obtain⟨vY,e1,e2⟩:∃vs,H' a=!.lst vs/\A7 X.K [] H' (l.map enc) vs:=by
  let#[G,hw]:=N;let#[y,w1,w2]:=hw.atG (hB a s)
  let#[a',_,_,#[vs,w3,w4],rfl]:=w2 H' Kp.refl.fr λM M=>rfl
  exact#[vs,w3,w4]
 let up:∀(s:τ) {k:L2.St->Hp->Prop},(∀E J H',Vs O (C s) E J H'->Fe F H J H'->k E H')->∀E J H',Vs O (B a s) E J H'->Fe F H J H'->k E H':=λs k h E J H' v z=>by
  let#[F2,v2,z2]:=w1 a s O E J H' v;exact h E F2 H' v2 (z.trans z2)
 cases hl:l[i]? with
 | none=>
  let hn:-l<=i:=B6.mp hl;rw[KM hn]at w;cases w;exact .inl #[#[vY,.inl (.inl e1),by rw[<-e2.length,AD];exact hn],up s k E J H' N fe]
 | some v=>
  let#[my,tQ]:=AI.mp hl;let#[x,h3,h4]:=e2.get (i:=i) (d:=enc v) (by ext);rw[DG my,tQ]at w;unfold BW at w;refine .inr #[#[vY,x,.inl (.inl e1),h3],λσ2 H2=>∃m',m' < -l - i/\m'=-l - (i+1)/\i+1<=-l/\∃J s,Vs O (B a s) σ2 J H2/\Fe F H J H2/\BW (l.drop (i+1)) s q=!f,by rintro _ _ ⟨m',a,b⟩;exact #[m',a,b],?_];rintro y H2 ⟨hy,hy2⟩;subst hy;let:=hy2 vY (.inl (.inl e1));rw[h3]at this;cases this
  refine ht O (B a s) E _ H2 v x _ N (λH3 f=>f.rd h4) λσ3 hv3=>?_
  cases hq:q s v with
  | none=>rw[hq]at w;cases w
  | some P=>
   rw[hq]at w;refine#[a,s,v,P,hq,O,_,hv3,?_]
   cases P with
   | nx Q=>exact λS U H4 Y Z=>#[_,by omega,rfl,my,U,Q,Y,fe.trans Z,w]
   | ct Q=>exact λS U H4 Y Z=>#[_,by omega,rfl,my,U,Q,Y,fe.trans Z,w]
   | bk Q=>cases w;exact λS U H4 Y Z=>up Q k S U H4 Y (fe.trans Z)
   | rt r=>cases w;exact k
set_option tactic.hygienic true in
theorem gK{i:Nat}{enc:α->D}{eb:β->D}{l:¬α}{R:Rk ρ}{q:⇑β}(J:PE X o (DI i))(h:VE X A e (rV X.K eb) q)(hi:↑(A[i]?=!sw X.K (oL enc l)))(m:↑(Bd o "append" X.env (A2 o X.env)=A2 o X.env))
  (E:↑(((Cv cpos (AG [e] X.env)).all (λx=>not x.1)&&(LV cpos (G1 [] X.env)).all (λx=>x.1.isSome)
    &&decide (-[e]+-([]:¬IJ)+(if ([]:¬IJ).isEmpty then 0 else 1) < 30))))
  (B:↑((apos.endLine==cpos.line))) (hs:↑(zSq X e)) (j:↑((Cv cpos (AG [] X.env)).any (·.1)=false)) (G:↑(BX (.Call (.Attribute o "append" apos) [e] [] cpos) none pos.line X.env=pure false)) :
  VS X A (.Expr (.Call (.Attribute o "append" apos) [e] [] cpos) pos) R (q*>λM=>if -l < 1000000 then !.nx ()else none) (λM=>A.set i .u):=λf L=>by
 let#[v,N,I]:=AS L
 split at I <;> cases I
 rename_i P
 let H:A[i]?=!sw X.K (oL id (l.map enc)):=by rw[hi];unfold oL;rw[Ln]
 exact GJ (g:=λM=>()) (C:=λM=>A.set i .u) (MG (R:=R) (p:=!eb v) (enc:=id) J (λw hw=>by cases hw;exact h v N) H m E B hs j G) (λM=>fo) _ (by
  show BQ _ (HG (l.map enc) (eb v)*>λO=>!.nx O)=_;unfold HG;rw[qX ∅]
  rfl)
variable{a b c:Expr}{ea:α->D}{eb:β->D}{ec:γ->D}
theorem av{k:Nat}{J:⇑α}{L:⇑β}{N:⇑γ}(O:VE X A a (rV X.K ea) J)(hb:VE X A b (rV X.K eb) L)(P:VE X A c (rV X.K ec) N)(R:↑(AG [a,b,c] X.env=(false,A2 a X.env) :: AG [b,c] X.env))(S:↑(AG [b,c] X.env=(false,A2 b X.env) :: AG [c] X.env))(T:↑(AG [c] X.env=(false,A2 c X.env) :: AG [] X.env)) :
  VE X A (.Tuple [a,b,c] k pos) (rV X.K (eP3 ea eb ec)) (J*>λx=>L*>λy=>N*>λz=>!(x,y,z)):=λv j=>by
 let#[x,U,j]:=AS j;let#[y,Y,j]:=AS j;let#[z,Z,g4]:=AS j;cases g4
 exact(TK (Bn (O x U) (Bn (hb y Y) (Bn (P z Z) Du T) S) R)).imp (by rintro σ H Q ⟨B,F,C,q⟩;exact #[B,F,C,λu H1 E r1=>#[B,_,C.grow E,λw H2 G r2=>#[B,_,(C.grow E).grow G,λw' H3 I r3=>#[Cu rfl,λp m=>q _ _ (((E.trans G).trans I).trans (BH m)) (.tup Ap (.cons ((BH m).rd ((G.trans I).rd r1)) (.cons ((BH m).rd (I.rd r2)) (.cons ((BH m).rd r3) .nil))))]]]])
theorem lJ{j:Nat}{q:⇑(α×β×γ)}(h:VE X A a (rV X.K (eP3 ea eb ec)) q):VE X A (.Subscript a (.Constant (.int 1) j p2) pos) (rV X.K eb) (q*>λx=>!x.2.1):=S7 h (λx=>rfl) (λx=>rfl)
theorem lI{j:Nat}{q:⇑(α×β×γ)}(h:VE X A a (rV X.K (eP3 ea eb ec)) q):VE X A (.Subscript a (.Constant (.int 2) j p2) pos) (rV X.K ec) (q*>λx=>!x.2.2):=S7 h (λx=>rfl) (λx=>rfl)
theorem bF{k:Nat}{E:⇑α}{G:⇑(β×γ)}(N:VE X A a (rV X.K ea) E)(hb:VE X A b (rV X.K (eP eb ec)) G)(O:↑(AG [a] X.env=(false,A2 a X.env) :: AG [] X.env)):VE X A (.BinOp (.Tuple [a] k p2) .Add b pos) (rV X.K (eP3 ea eb ec)) (E*>λx=>G*>λy=>!(x,y)):=λv j=>by
 let#[x,P,j]:=AS j;let#[y,R,S]:=AS j;cases S
 refine(X5 YA (Hr (enc:=ea) (p:=![x]) (EZ (p:=!x) (q:=![]) (λw hw=>by cases hw;exact N x P) DH O) [x] rfl) (hb y R)).imp λσ H Q #[T,F,U,q]=>Eb #[T,F,U,λu w H1 H2 Y I Z r2=>?_]
 cases I.rd Z with
 | @tup _ a vs f1 J=>cases r2 with
  | @tup _ b ws m1 L=>
   let m:=-J;let B:=-L;refine#[a,b,vs,ws,rfl,rfl,f1,m1,by rw[<-m,<-B];exact Cu rfl,λe=>(by rw[e]at m;cases m),λe=>(by rw[e]at B;cases B),λp C=>q _ _ ((Y.trans I).trans (BH C)) (.tup Ap ((J.append L).keep (λb M z=>BH C b _ z) λb M M z=>BH C b _ z))]
theorem lK{j m:⇑Int}(w:VE X A a (XP X) j)(hb:VE X A b (XP X) m):VE X A (.BinOp a .Pow b pos) (XP X) (j*>λx=>m*>λy=>L4.QJ x y):=Rt m9 w hb
theorem xw{o:Ob}{x:AL}(j:Hp)(S:AL->Prop)(H:Hp)(y:V)(h:pa K (λa=>a=x) o j S H y):pa K (λG=>True) o j S H y:=let #[a,m,w,B,_]:=h;#[a,m,w,B,trivial]
theorem HU{j m:¬B5}{R:Rk ρ}{pt:⇑Bool}{p q:⇑(Fw ρ Unit)}(w:VB X A c pt)(B:VSs X A j R p λG=>A)(hb:VSs X A m R q λG=>A):VS X A (.If c j m pos) R (pt*>λc=>if c=true then p else q) λG=>A:=Ha w B hb
end
open L2
open L4 (AS FF CA)
section
variable{prog:Ao}{w:A3}{A:BR}{E:AE->AK->Prop}{s:AK}{r:AL}{n:Int}{t u v:Tok}
theorem Oq(B:0<=n)(C:n < 2 ^ 62):Meets (Builtin.«range.__reversed__» #[[.ref r],[]]) (λI R s=>IsRange s.heap r 0 n 1 t u v/\R (.ok (.ret (.ref s.heap.objs.size))) { s with heap:=s.heap.push { cls:=.type "range_iterator",data:=.fields [Ih (n - 1),Ih n,Ih (-1)].toArray } }):=by
 let l:Hq 0 n 1=n:=by rw[rangeSize_one];split <;> lia
 let m:(B9 0&&B9 n&&B9 1&&B9 (-1)&&B9 (0 - 1)&&B9 (Hq 0 n 1)):=by
  rw[l];simp only[B9,DN,decide_eq_true_eq]
  lia
 let o:(0:Int)+(n - 1) * 1=n - 1:=by ext
 exact .of_wp λprog w A R s h=>by
  let#[G,g,d,H,os]:=s;let#[j,h]:=h;unfold Builtin.«range.__reversed__»;refine AA (DA (a:=AV r) rfl ?_);unfold ph;simp only[bind_assoc];refine AA (ER j rfl (x:=.int 0 t) rfl ?_);refine AA (DA (a:=!(0:Int)) rfl ?_);refine AA (ER j rfl (x:=.int n u) rfl ?_);refine AA (DA (a:=!n) rfl ?_);refine AA (ER j rfl (x:=.int 1 v) rfl ?_);refine AA (DA (a:=!(1:Int)) rfl ?_);simp only[pure_bind,m,DW,BB,if_false,if_true];rw[l,o];exact AA (A8 (AC #[_,rfl,h]))
def Wb(n:Int):Obj:={ cls:=.type "range_iterator",data:=.fields [Ih (n - 1),Ih n,Ih (-1)].toArray }
theorem Lh{Q:AE->AK->Prop}(l:IsRange s.heap r 0 n 1 t u v)(o:0<=n)(B:n < 2 ^ 62)(h:Q (.ref s.heap.objs.size) { s with heap:=s.heap.push (Wb n) }):AW (AY prog w) A (call (.type "reversed") [.ref r]) Q E s:=by
 let ty:s.TypeIs (.ref r) "range":=#[_,l,rfl]
 refine callType_other (U:="range_iterator") (Q₁:=λobj j=>obj=.ref s.heap.objs.size/\j={ s with heap:=s.heap.push (Wb n) }) (by rfl) F.create_reversed #[_,_,F.mro_reversed] F.made_reversed (by rfl) (F.typeCall_reversed_1 _) ?_ (by
  rintro obj j ⟨rfl,rfl⟩
  exact#[#[_,AO _ rfl,rfl],h])
 refine UH ?_;show AW _ _ (do checkBuiltinCall "reversed.__new__" #[[.type "reversed",.ref r],[]];again (.builtin "reversed.__new__" #[[.type "reversed",.ref r],[]])) _ _ s;refine AA (DA (F.newCall_reversed_1 _) (AC #[IH aQ _,FB F.entry_reversed_new ?_]));rw[D6 aQ _];unfold Builtin.«reversed.__new__»;refine AA (DA (newClass_reversed _) ?_)
 try symm
 refine AA (DA (a:=()) (by rfl) ?_);refine AA (DA (a:=()) (by rfl) ?_)
 try symm
 refine AA (EO ty MD.lookup ?_)
 try symm
 refine AA (DA (MD.bind _) ?_)
 try symm
 first
 | rw[qY (show Not ((MZ "range.__reversed__"==CQ)=true)from An)]
 | (show AW _ _ (if (MZ "range.__reversed__"==CQ) then _ else _) _ _ _;rw[qY (show Not ((MZ "range.__reversed__"==CQ)=true)from An)])
 refine AA (Hm ?_);refine AA (m:=runValue (.call (.builtin "range.__reversed__") #[[.ref r],[]])) (show AW _ _ (call (.builtin "range.__reversed__") [.ref r]) _ _ _ from kg MD ty F.entry_range_reversed (F.args_range_reversed_1 _) (Oq o B) #[l,?_])
 first
 | exact AC #[rfl,rfl]
 | exact AA (AC (AC #[rfl,rfl]))
end
section
variable{X:Cx}{A:¬Sl}{a e tg:Expr}{p p2 pos tN:Pos}{te:TE}{ta:TA}
def tRgN(ta:TA):TE:=λl H Q=>ta l H λvs j=>∃n:Int,vs=[.int n]/\∀r,j r=none->Q (.ref r) (upd j r (.rng 0 n))
theorem mV(m:Gl X "range") (w:X.mg "range" = none) (B:PA X [a] ta) (hs:↑(AG [a] X.env=[(false,A2 a X.env)])):PE X (.Call (.Name "range" p2) [a] [] tN) (tRgN ta):=by
 intro C s E H Q I G;refine pH (IB I m w kh (Br (thn (B tN C s E H _ I G) ?_) hs rfl));rintro P R ⟨vs,J,l,L,N⟩;let#[j,e,q]:=N;subst e
 cases L with
 | cons r O=>
  cases O;let#[t,rfl]:=r;exact call_range_1 #[.ref _,upd J _ (.rng 0 j),l.laid (λb o e=>AF _ e) (AM _) #[_,_,_,AO _ rfl],rfl,q _ (l.hok.fresh (AM _))]
theorem iU(G:Gl X "reversed") (J:X.mg "reversed" = none) (h:PE X e te) (hs:↑(AG [e] X.env=[(false,A2 e X.env)])):PI X tg (.Call (.Name "reversed" p) [e] [] pos) (λB H R=>te B H λx j=>∃r n,x=.ref r/\j r=!.rng 0 n/\0<=n/\n < 2 ^ 62/\R (Itd (n - 1) n.toNat) j):=by
 intro L s B H R I N;refine pH (IB I G J boot_reversed (Br (thn (Bn h Du hs pos L s B H (λvs j=>match vs with | [x]=>∃r n,x=.ref r/\j r=!.rng 0 n/\0<=n/\n < 2 ^ 62/\R (Itd (n - 1) n.toNat) j | _=>False) I N) ?_) hs rfl));rintro Z l ⟨vs,j,w,C,E⟩
 match vs,C,E with
 | [x],C,E=>
  let#[r,n,rfl,O,P,Q,q]:=E;let#[u,rfl,S]:=vals1 C;cases S;let#[t,u,v,T]:=w.hok r _ O;refine Lh T P Q ?_
  let m:UA (l.heap.push (Wb n)) l.heap.objs.size (n - 1+((0:Nat):Int) * -1) (((n.toNat:Nat):Int) - ((0:Nat):Int)) (-1):=by
   let U:n - 1+((0:Nat):Int) * -1=n - 1:=by ext
   let Y:((n.toNat:Nat):Int) - ((0:Nat):Int)=n:=by lia
   rw[U,Y];exact AO _ rfl
  refine MA m #[l.heap.objs.size,[l.heap.objs.size],_,_,j,rfl,w.kept (t':=l.toks) λb o e=>AF _ e,Ue _ (n - 1) n.toNat,m,λb hb=>?_,q]
  let e:b=l.heap.objs.size:=by simpa using hb
  subst e;exact w.fpOk (AM _) (w.hok.fresh (AM _))
def Wa(j:Int):⇑Z':=if 0<=j/\j<=1000000 then !(CA 0 j.toNat).reverse else none
set_option tactic.hygienic true in
theorem gO{q:⇑Int}(C:X.mg "reversed" = none) (E:X.mg "range" = none) (h:VE X A a (XP X) q) (G:↑(Gl X "reversed")) (I:↑(Gl X "range")) (hs:↑(AG [.Call (.Name "range" p2) [a] [] tN] X.env=[(false,A2 (.Call (.Name "range" p2) [a] [] tN) X.env)])) (B:↑(AG [a] X.env=[(false,A2 a X.env)])) :
  VI X A tg (.Call (.Name "reversed" p) [.Call (.Name "range" p2) [a] [] tN] [] pos) (rd X.K D.int) (q.bind Wa):=λl o=>by
 let#[j,J,w]:=AS o;unfold Wa at w
 split at w <;> cases w
 rename_i L
 refine(iU G C (mV I E (Bn (h j J) Du B) B) hs).imp λT H R #[N,F,hs,k]=>#[N,F,hs,λx U kp r=>?_]
 cases r;refine#[j,rfl,λr O=>#[r,j,rfl,Ap,L.1,by omega,k _ _ (kp.trans (BH O)) λY Z fe i=>?_]]
 let o:-(CA 0 j.toNat).reverse=j.toNat:=by rw[Md];unfold CA;simp
 refine#[λhn=>by show j.toNat<=i;ext,λv m=>?_]
 let P:i < j.toNat:=by rw[<-o];exact(AI.mp m).1
 refine#[P,λx H2 #[Q,S]=>?_];subst Q S
 let:j - 1 - i=v:=by
  rw[V6 ∅]at m;unfold CA at m;rw[AD,DB,Ai,ET (by grind)]at m;cases m
  lia
 rw[this];exact#[.refl,λM M=>.int _]
end
section
open L4 (EqN NL eP3)
variable{α β γ:Type}{a:α->D}{b:β->D}{c:γ->D}
theorem SL[DecidableEq α][DecidableEq β][DecidableEq γ]{n:Nat}(j:EqN n a)(hb:EqN n b)(l:EqN n c):EqN (n+1) (eP3 a b c):=λx y=>by
 show eqL (eqP n) [a x.1,b x.2.1,c x.2.2] [a y.1,b y.2.1,c y.2.2]=_;unfold eqL eqL eqL eqL;rw[j,hb,l];let#[m,o,w]:=x;let#[A,B,C]:=y;ext
theorem VQ(o:EI a)(eb:EI b)(ec:EI c):EI (eP3 a b c):=λK H v w x A B=>by
 cases A with
 | @tup _ p O C j=>cases B with
  | @tup _ _ vs m l=>
   rw[C]at m;cases m
   cases j with
   | cons E j=>cases j with
    | cons G j=>cases j with
     | cons I j=>cases l with
      | cons J l=>cases l with
       | cons L l=>cases l with
        | cons N l=>exact Lm (o _ _ _ _ _ E J) (Lm (eb _ _ _ _ _ G L) (ec _ _ _ _ _ I N))
end
open L2
open L4 (Fw AU BW Bx BQ AS whF)
section
variable{X:Cx}{A:¬Sl}{c tg iter:Expr}{body sa sb:¬B5}{pos:Pos}{α ρ τ:Type}{R:Rk ρ}{i j:Nat}{g h:τ->Sl}{Pd:α->Hp->V->Prop}{gt:TG}{t:α->¬Sl->¬Sl}{ql:⇑(¬α)}{q:τ->α->⇑(Fw ρ τ)}{s0:τ}{pt:⇑Bool}{pa pb:⇑(Fw ρ τ)}{pc:τ->⇑Bool}{qw:τ->⇑(Fw ρ τ)}
theorem So{s:Sl}(e:A[i]?=!s):Wk A (A.set i s):=by
 let#[l,e]:=AI.mp e;rw[<-e,K9 l];exact Wk.refl
abbrev b1(A:¬Sl)(i:Nat)(g:τ->Sl)(s:τ):¬Sl:=A.set i (g s)
abbrev b2(A:¬Sl)(i:Nat)(g:τ->Sl)(j:Nat)(h:τ->Sl)(s:τ):¬Sl:=(A.set i (g s)).set j (h s)
theorem jn(l:↥(i≠j))(e:↑(A[i]?=!g s0))(f:↑(A[j]?=!h s0)):Wk A (b2 A i g j h s0):=(So e).trans (So (by rw[C1 l];exact f))
theorem Ds(i:Nat)(g:τ->Sl)(hi:VI X A tg iter Pd ql)(m:PG X tg gt)(o:VT gt Pd t)(hb:∀s x,VSs X (t x (b1 A i g s)) body R (q s x) (b1 A i g))(e:↑(A[i]?=!g s0))(w:↑(X.xe=λG G=>False))(B:↑X.calm)(hs:autoParam (∀x,B8 iter X.env x=pure x) yq2q) :
  VS X A (.For tg iter body [] pos) R (ql*>λl=>BW l s0 q) (b1 A i g):=FP hi m o (So e) hb w B hs
theorem gG(i:Nat)(g:τ->Sl)(j:Nat)(h:τ->Sl)(hi:VI X A tg iter Pd ql)(m:PG X tg gt)(o:VT gt Pd t)(hb:∀s x,VSs X (t x (b2 A i g j h s)) body R (q s x) (b2 A i g j h))(w:autoParam (Wk A (b2 A i g j h s0)) yq17q)(B:↑(X.xe=λG G=>False))(C:↑X.calm)(hs:autoParam (∀x,B8 iter X.env x=pure x) yq2q) :
  VS X A (.For tg iter body [] pos) R (ql*>λl=>BW l s0 q) (b2 A i g j h):=FP hi m o w hb B C hs
theorem Pn(i:Nat)(g:τ->Sl)(l:VB X A c pt)(m:VSs X A sa R pa (b1 A i g))(hb:VSs X A sb R pb (b1 A i g)):VS X A (.If c sa sb pos) R (pt*>λc=>if c=true then pa else pb) (b1 A i g):=Ha l m hb
theorem Ys(i:Nat)(g:τ->Sl)(j:Nat)(h:τ->Sl)(n:Nat)(l:∀s,VB X (b2 A i g j h s) c (pc s))(hb:∀s,VSs X (b2 A i g j h s) body R (qw s) (b2 A i g j h))(w:autoParam (Wk A (b2 A i g j h s0)) yq17q)(m:↑(X.xe=λG G=>False)):VS X A (.While c body [] pos) R (whF pc qw n s0) (b2 A i g j h):=Pm n w l hb m
end
end L7
namespace L2
open PySem.W
abbrev FnAt(K:Frag)(x j:Str)(st:B5)(f:AL):Prop:=∃(o:AE) (w:⇑AL) (kV l A:AE) (B:⇑AL) (m ct:AE) (C:Array (⇑AE)),
 K.lookup f=!#[o,w,.func (fnOf x j (Jw st) (FI st) (By st) .none kV l A B m ct),C]/\codeIn K m j/\keepIn K (.ref f)=true
abbrev Dq(K:Frag)(x:Str)(st:B5)(f:AL):Prop:=Og K BD x=!(!.ref f)/\FnAt K x x st f
abbrev L9(K:Frag)(C:AL)(x j:Str)(st:B5)(f:AL):Prop:=findIn K (.ref C) x=!(!.ref f)/\isFn K (.ref f)/\FnAt K x j st f
abbrev ClsAt(K:Frag)(x:Str)(C:AL):Prop:=Og K BD x=!(!.ref C)/\plainGet K C Str.empty/\hasDictIn K C/\plainOver K C/\findIn K (.ref C) "__setattr__" = !(!.builtin "object.__setattr__")/\makesIn K C/\keepIn K (.ref C)=true
def XI(st:B5)(o:¬Str):Prop:=∀(x j:Str) (kV l w:AE) (A:⇑AL) (B ct:AE) (m:¬AE),m.length=-o->fE (fnOf x j (Jw st) (FI st) (By st) .none kV l w A B ct) #[m,[]]=pure (o.zip m)
section
variable{K:Frag}{h:BG}{mg:Str->⇑AE}{x qual:Str}{st:B5}{f C:AL}{ps:¬Str}{a b c d e:Str}
theorem FnAt.fd(z:FnAt K x qual st f):∃fd,Fun K x qual st f fd:=by
 let#[m,o,kV,j,w,A,B,ct,E,l,c,k]:=z;exact#[_,dY l c k]
def mkD(X:K.In h)(G:h.Ns BD mg)(z:Dq K x st f)(b:XI st ps):Dfn K mg x x st ps:=#[f,(FnAt.fd z.2).choose,(FnAt.fd z.2).choose_spec,(FnAt.fd z.2).choose_spec.binds (b x x),oq X G z.1]
def mkM(z:L9 K C x qual st f)(b:XI st ps):Mtd K x qual st ps:=#[f,(FnAt.fd z.2.2).choose,(FnAt.fd z.2.2).choose_spec,(FnAt.fd z.2.2).choose_spec.binds (b x qual)]
theorem FnAt.kp(z:FnAt K x qual st f):keepIn K (.ref f):=by
 let#[m,o,kV,j,w,A,B,ct,E,l,c,k]:=z;exact k
theorem mkE(z:L9 K C x qual st f):Tx K C x f:=#[z.1,z.2.1,FnAt.kp z.2.2]
theorem mkO(X:K.In h)(G:h.Ns BD mg)(z:ClsAt K y C)(i:L9 K C "__init__" qual st f):Own K mg y C f:=#[#[z.2.1,z.2.2.1,z.2.2.2.1,z.2.2.2.2.1],#[z.2.2.2.2.2.1,i.1,i.2.1,z.2.2.2.2.2.2],oq X G z.1]
abbrev bnd(st:B5)(ps:¬Str)(us:¬AE):Prop:=∀(x qual:Str) (kV j l:AE) (m:⇑AL) (o ct:AE),fE (fnOf x qual (Jw st) (FI st) (By st) .none kV j l m o ct) #[us,[]]=pure (ps.zip us)
theorem bd1(z:∀u,bnd st [a] [u]:=by exact λG G G G G G G G G=>rfl):XI st [a]:=λx q k d p n c t l j=>by let#[u,rfl]:=nR j;exact z u x q k d p n c t
theorem bd2(z:∀u v,bnd st [a,b] [u,v]:=by exact λG G G G G G G G G G=>rfl):XI st [a,b]:=λx q k d p n c t l j=>by let#[u,v,rfl]:=rW j;exact z u v x q k d p n c t
theorem bd3(z:∀u v w,bnd st [a,b,c] [u,v,w]:=by exact λG G G G G G G G G G G=>rfl):XI st [a,b,c]:=λx q k d p n c t l j=>by let#[u,v,w,rfl]:=rT j;exact z u v w x q k d p n c t
theorem bd4(z:∀u v w y,bnd st [a,b,c,d] [u,v,w,y]:=by exact λG G G G G G G G G G G G=>rfl):XI st [a,b,c,d]:=λx q k d p n c t l j=>by let#[u,v,w,y,rfl]:=rS j;exact z u v w y x q k d p n c t
theorem bd5(z:∀u v w y l,bnd st [a,b,c,d,e] [u,v,w,y,l]:=by exact λG G G G G G G G G G G G G=>rfl):XI st [a,b,c,d,e]:=λx q k d p n c t m j=>by let#[u,v,w,y,l,rfl]:=len5 j;exact z u v w y l x q k d p n c t
end
end L2
namespace PySem.W.Fast
def tw11118089006584448883:Nat:=0
def tw826720223398211176:Nat:=0
def tw5308162194690661139:Nat:=0
def tw6365103984713426166:Nat:=0
def tw8549612143175828205:Nat:=0
def tw2701185241772219301:Nat:=0
def tw17795267620716517685:Nat:=0
def tw335519407856016739:Nat:=0
def tw5320773215309461765:Nat:=0
def tw8907774756115354182:Nat:=0
def tw12315440292123975046:Nat:=0
def tw1915521555263466089:Nat:=0
def tw9383075429247144125:Nat:=0
def tw10099055820355034385:Nat:=0
def tw11399300763360917892:Nat:=0
def tw10684577160676264485:Nat:=0
def tw12390581380597818251:Nat:=0
def tw12388101781930683768:Nat:=0
def tw10933658711112723749:Nat:=0
def tw12914170920221474179:Nat:=0
def tw2303112584802367517:Nat:=0
def tw9605809371353596217:Nat:=0
def tw518323368981645299:Nat:=0
def tw1169529923613661084:Nat:=0
def tw18017591155153518209:Nat:=0
def tw6819122751860843632:Nat:=0
def tw14073367461501165105:Nat:=0
def tw17519081448876539810:Nat:=0
def tw17805764117508427535:Nat:=0
def tw2563644331359699298:Nat:=0
def tw3994870592094739813:Nat:=0
def tw1397986251893979474:Nat:=0
def tw9701610860055182223:Nat:=0
def tw14544166883122142737:Nat:=0
def tw17920984696542794144:Nat:=0
def tw14815942195123929315:Nat:=0
def tw8947069577373069729:Nat:=0
def tw14821358287362793568:Nat:=0
def tw18390746384882761745:Nat:=0
def tw4434771696502837419:Nat:=0
def tw15794750707837694439:Nat:=0
def tw3977514988066433556:Nat:=0
def tw3302390398768089635:Nat:=0
def tw5004192348986818788:Nat:=0
def tw4625436175073974405:Nat:=0
def tw1389153455691693881:Nat:=0
def tw6854277032182080282:Nat:=0
def tw11930771193745155373:Nat:=0
def tw1763485559247300675:Nat:=0
def tw2080348067123267266:Nat:=0
def tw11161816501722459485:Nat:=0
def tw1680223319780405296:Nat:=0
def tw13814590421455011917:Nat:=0
def tw16618568170165343900:Nat:=0
def tw14831488579717250662:Nat:=0
def tw1658577477225958440:Nat:=0
def tw1221748405573925204:Nat:=0
def tw16674428408419114719:Nat:=0
def tw824143598082985554:Nat:=0
def tw13448363619567376248:Nat:=0
def tw15918770417569828651:Nat:=0
def tw4625137014684406085:Nat:=0
def tw7392099602001398350:Nat:=0
def tw8390388962306134996:Nat:=0
def tw9159101274224561565:Nat:=0
def tw15110836623712924079:Nat:=0
def tw16367387370857175132:Nat:=0
def tw5453819144009152472:Nat:=0
def tw11058198676021528742:Nat:=0
def tw12274451277130130976:Nat:=0
def tw11209092645389556734:Nat:=0
def tw16085926614592685565:Nat:=0
def tw17650713393710565303:Nat:=0
def tw11561809447473706384:Nat:=0
def tw17939855069347352447:Nat:=0
def tw7485918313054496508:Nat:=0
def tw17919124863152934533:Nat:=0
def tw3754815069707572658:Nat:=0
def tw16307666604017408460:Nat:=0
def tw1083700979524219699:Nat:=0
def tw15396544935693207180:Nat:=0
def tw6592189201432779850:Nat:=0
def tw16572516318230855933:Nat:=0
def tw64892115228338061:Nat:=0
def tw2966318558664590724:Nat:=0
def tw11161680139232753695:Nat:=0
def tw17062914313752313727:Nat:=0
def tw1636518180764669937:Nat:=0
def tw7141482140991102092:Nat:=0
def tw15374625518998983518:Nat:=0
def tw14939356077320966694:Nat:=0
def tw17284683341695602236:Nat:=0
def tw10852875721105020285:Nat:=0
def tw14743746746562199158:Nat:=0
def tw4093573588355540868:Nat:=0
def tw5662290898651028468:Nat:=0
def tw4076234349320111802:Nat:=0
def tw188678494839069713:Nat:=0
def tw7804953318167382566:Nat:=0
def tw3810349830353515740:Nat:=0
def tw5681415356038779741:Nat:=0
def tw8569491111423170325:Nat:=0
def tw5486940181490124399:Nat:=0
def tw12573336618772012771:Nat:=0
def tw1418608460878914052:Nat:=0
def tw4994911278025188360:Nat:=0
def tw7799545626092327802:Nat:=0
def tw873848006271330705:Nat:=0
def tw15723690662188735644:Nat:=0
def tw16011571375721878103:Nat:=0
def tw17041808032593723217:Nat:=0
def tw12058738182770356915:Nat:=0
def tw11180833170102178934:Nat:=0
def tw14483037898326577940:Nat:=0
def tw11258640054997796408:Nat:=0
def tw15350015330699856510:Nat:=0
def tw180550294980607766:Nat:=0
def tw16423477900739788637:Nat:=0
def tw1494395236549875449:Nat:=0
def tw8494792080657019164:Nat:=0
def tw80182848145151676:Nat:=0
def tw7990396740513087319:Nat:=0
def tw6781989626612878154:Nat:=0
def tw13772928024786348788:Nat:=0
def tw15525990927298683037:Nat:=0
def tw9830579255509973085:Nat:=0
def tw7543056336696182356:Nat:=0
def tw2075228262282783547:Nat:=0
def tw3437692240567546619:Nat:=0
def tw16661776104129684076:Nat:=0
def tw15385350853292735299:Nat:=0
def tw567586032639257928:Nat:=0
def tw6244326513403184801:Nat:=0
def tw1940498632309834061:Nat:=0
def tw3612878491999612349:Nat:=0
def tw9364237049868023579:Nat:=0
def tw11059090955569355946:Nat:=0
def tw8480084902409323555:Nat:=0
def tw2105099124407370302:Nat:=0
def tw15790069516749879315:Nat:=0
def tw14279037368777283456:Nat:=0
def tw2087378140195146944:Nat:=0
def tw15843544303670936933:Nat:=0
def tw10332909685217539298:Nat:=0
def tw2815589506042474168:Nat:=0
def tw13605375822408981733:Nat:=0
def tw2869457517295402380:Nat:=0
def tw17004450185292815:Nat:=0
def tw12369583338614798737:Nat:=0
def tw4731798116868960388:Nat:=0
def tw6948698566169000445:Nat:=0
def tw10011186153629650724:Nat:=0
def tw13738133017817496099:Nat:=0
def tw4462581037792195974:Nat:=0
def tw11759103749948790736:Nat:=0
def tw8071883989104051922:Nat:=0
def tw7890764510636401059:Nat:=0
def tw13994718438402565097:Nat:=0
def tw11534820098958728747:Nat:=0
def tw16500814652697444008:Nat:=0
def tw6400152358985248135:Nat:=0
def tw363360666817315747:Nat:=0
def tw15583896252779285548:Nat:=0
def tw10849272395564975072:Nat:=0
def tw619919251699966096:Nat:=0
def tw1272285208078802927:Nat:=0
def tw9015196683793695306:Nat:=0
def tw8695015986148160395:Nat:=0
def tw6246021163683122159:Nat:=0
def tw7769572684656602793:Nat:=0
def tw16454900637498435199:Nat:=0
def tw16509813669253268744:Nat:=0
def tw5410015153383365403:Nat:=0
def tw820353655687657745:Nat:=0
def tw10850178659128252130:Nat:=0
def tw16518969761660324224:Nat:=0
def tw6615432262741651211:Nat:=0
def tw8176097098544267733:Nat:=0
def tw5909502087644201277:Nat:=0
def tw16466602408293701047:Nat:=0
def tw15501322321580521226:Nat:=0
def tw7996747609994991311:Nat:=0
def tw14691120934348739101:Nat:=0
def tw8256391090947801749:Nat:=0
def tw13925183087790091420:Nat:=0
def tw18365482132053516162:Nat:=0
def tw14677391903642003042:Nat:=0
def tw11615694991577893797:Nat:=0
def tw8111575548416795121:Nat:=0
def tw8332643430037704721:Nat:=0
def tw2618675418746502118:Nat:=0
def tw4730814990046624910:Nat:=0
def tw14402920734424093900:Nat:=0
def tw17050533153776094525:Nat:=0
def tw13131225080516422139:Nat:=0
def tw10907437562832233762:Nat:=0
def tw10843921775470946685:Nat:=0
def tw6683448477898491929:Nat:=0
def tw640749302054381971:Nat:=0
def tw7012825638876517869:Nat:=0
def tw16721784973597436486:Nat:=0
def tw2398054378569289930:Nat:=0
def tw2259730024850126790:Nat:=0
def tw5760611014468827112:Nat:=0
def tw132951960271774871:Nat:=0
def tw9642797832615355654:Nat:=0
def tw14814583022140479707:Nat:=0
def tw15259293729465136910:Nat:=0
def tw7258703746229564199:Nat:=0
def tw15853296838506299360:Nat:=0
def tw2210924696299358322:Nat:=0
def tw969764261135710256:Nat:=0
def tw14597403140439939294:Nat:=0
def tw17570044452815138896:Nat:=0
def tw11783349623934987714:Nat:=0
def tw9762682949506386681:Nat:=0
def tw11184973676004779268:Nat:=0
def tw748699067005804278:Nat:=0
def tw11363854744277794284:Nat:=0
def tw15485541518335945793:Nat:=0
def tw9007150992988221355:Nat:=0
def tw10053678588792137105:Nat:=0
def tw8198866039133773251:Nat:=0
def tw4491191295809058885:Nat:=0
def tw6838625319444331565:Nat:=0
def tw6278598826833251518:Nat:=0
def tw4824212814987647393:Nat:=0
def tw7354481180295696700:Nat:=0
def tw4021740459886000843:Nat:=0
end PySem.W.Fast
namespace M
local macro_rules|`(∅)=>`(by first|exact L7.Ws.wk (by repeat (first|exact L7.Ws.nil|apply L7.Ws.same|apply L7.Ws.drop))|lia|omega|decide|decide +kernel|(simp;done)|simp_all)
open L2
def top(i:Nat):B5:=ko.main.body.getD i (.Pass #[0,0,0,0])
structure Wd where
 Web:AL
 Field:AL
abbrev Kg:B5:=top 11
abbrev Kf:B5:=top 12
abbrev P8:B5:=Jv (top 10) 0
abbrev IX:B5:=top 13
abbrev bj:B5:=top 14
abbrev P5:B5:=top 16
abbrev R5:B5:=top 17
abbrev R4:B5:=top 18
abbrev Ke:B5:=top 19
abbrev bn:B5:=top 20
abbrev OS:B5:=top 22
abbrev R3:B5:=top 24
abbrev JT:B5:=top 27
abbrev P6:B5:=top 28
abbrev OT:B5:=top 29
abbrev Gk:B5:=Jv (top 31) 3
abbrev Gn:B5:=Jv (top 31) 4
abbrev M8:B5:=Jv (top 31) 0
abbrev L3:B5:=Jv (top 31) 1
abbrev E4:B5:=Jv (top 31) 2
abbrev Kj:B5:=Jv (top 31) 5
abbrev Ly:B5:=top 33
abbrev Uj:B5:=top 32
abbrev Xu:B5:=top 34
abbrev Kh:B5:=top 36
abbrev M7:B5:=top 37
abbrev IY:B5:=top 38
abbrev OU:B5:=top 39
abbrev Lz:B5:=top 40
abbrev OW:B5:=top 41
abbrev OV:B5:=top 42
abbrev Ki:B5:=top 43
abbrev L1:B5:=top 44
abbrev L0:B5:=top 45
abbrev M6:B5:=top 46
abbrev P7:B5:=top 47
abbrev bm:B5:=top 48
structure Txt(K:AB)(mg:Str->⇑AE)(W:Wd) where
 ST:Dfn K mg "checked_ties" "checked_ties" Kg ["places", "ties"]
 Tm:Dfn K mg "near_sets_of" "near_sets_of" Kf ["places", "ties"]
 wS:Mtd K "__init__" "Web.__init__" P8 ["self", "places", "ties"]
 Ty:Dfn K mg "refuse_no_place" "refuse_no_place" IX ["web", "place"]
 XL:Dfn K mg "near" "near" bj ["web", "place"]
 aaa:Dfn K mg "takes_of" "takes_of" P5 ["web"]
 aab:Dfn K mg "bits_of" "bits_of" R5 ["some"]
 aac:Dfn K mg "members" "members" R4 ["bits"]
 em:Dfn K mg "settle" "settle" Ke ["takes", "bits", "holders", "guard", "seen"]
 wv:Dfn K mg "fits" "fits" bn ["takes", "guards", "bits"]
 aad:Dfn K mg "with_step" "with_step" OS ["standing", "guard", "place"]
 aae:Dfn K mg "sets_of" "sets_of" R3 ["places", "size"]
 aaf:Dfn K mg "ways_to_choose" "ways_to_choose" JT ["places", "size"]
 aag:Dfn K mg "how_many" "how_many" P6 ["web", "guards"]
 aah:Dfn K mg "standings" "standings" OT ["web", "guards"]
 wT:Mtd K "linked_by_one" "Field.linked_by_one" Gk ["self", "number"]
 xz:Mtd K "linked_by_all" "Field.linked_by_all" Gn ["self", "number"]
 v0:Mtd K "__init__" "Field.__init__" M8 ["self", "web", "guards", "kind"]
 xL:Mtd K "calls" "Field.calls" L3 ["self", "number"]
 mt:Mtd K "linked" "Field.linked" E4 ["self", "number"]
 BT:Mtd K "behind" "Field.behind" Kj ["self", "number", "call"]
 Cl:Dfn K mg "falling_now" "falling_now" Ly ["field", "left"]
 aai:Dfn K mg "fallen" "fallen" Uj ["field"]
 EE:Dfn K mg "falls" "falls" Xu ["web", "guards", "kind"]
 tt:Dfn K mg "_law_cell_at" "_law_cell_at" Kh ["script", "k"]
 Id:Dfn K mg "_law_pairs" "_law_pairs" M7 ["places"]
 aaj:Dfn K mg "_law_first_ties" "_law_first_ties" IY ["places", "style"]
 aak:Dfn K mg "_law_ties" "_law_ties" OU ["script", "first", "places"]
 aal:Dfn K mg "_law_handed" "_law_handed" Lz ["script", "ties"]
 IO:Dfn K mg "_law_near" "_law_near" OW ["ties", "place"]
 aam:Dfn K mg "_law_sets" "_law_sets" OV ["places", "guards"]
 aan:Dfn K mg "_law_answers" "_law_answers" Ki ["ties", "standing", "call", "kind"]
 aao:Dfn K mg "_law_behind" "_law_behind" L1 ["ties", "standing", "call", "kind"]
 aap:Dfn K mg "_law_fallen" "_law_fallen" L0 ["ties", "places", "some", "kind"]
 KK:Dfn K mg "_law_whole" "_law_whole" M6 ["found"]
 aaq:Dfn K mg "_law_due" "_law_due" P7 ["places", "some", "fallen_v", "behind"]
 tz:Dfn K mg "law" "law" bm ["script"]
 gg:Own K mg "Web" W.Web wS.f
 mo:Cy K W.Web "places"
 wf:Cy K W.Web "ties"
 ww:Cy K W.Web "near_sets"
 ce:Own K mg "Field" W.Field v0.f
 ld:Cy K W.Field "everything"
 wE:Cy K W.Field "kind"
 t0:Cy K W.Field "takes"
 wl:Cy K W.Field "numbers"
 wn:Cy K W.Field "having"
 wP:Cy K W.Field "place_bits"
 ul:Cy K W.Field "known"
 aay:Tx K W.Field "linked_by_one" wT.f
 aaz:Tx K W.Field "linked_by_all" xz.f
 aaA:Tx K W.Field "calls" xL.f
 aaB:Tx K W.Field "linked" mt.f
 aaC:Tx K W.Field "behind" BT.f
 aaw:mg "all" = none
 aaD:mg "bool" = none
 aax:mg "enumerate" = none
 aas:mg "int" = none
 aar:mg "isinstance" = none
 ut:mg "len" = none
 aat:mg "list" = none
 aaE:mg "max" = none
 aau:mg "min" = none
 dl:mg "range" = none
 aav:mg "reversed" = none
 aaF:mg "set" = none
 ss:mg "sorted" = none
 u8:mg "tuple" = none
 LE:∃tk,mg "MOST_PLACES" = !.int 60 tk
 LT:∃tk,mg "MOST_STANDINGS" = !.int 400 tk
open L2 L4
def pairD(x:Int×Int):D:=.tup [.int x.1,.int x.2]
noncomputable def nrm(x:Int×Int):Int×Int:=(if x.2 < x.1 then x.2 else x.1,if x.2 > x.1 then x.2 else x.1)
def Nv(x:Int×Int):Z':=[x.1,x.2]
def Fit(p:Int)(x:Int×Int):Prop:=(nrm x).1≠(nrm x).2/\0<=(nrm x).1/\(nrm x).2 < p
def FT(p:Int)(j:¬YP):Prop:=(∀x∈j,Fit p x)/\(j.map nrm).Nodup
theorem FT.snoc:FT p (j++[x])↔FT p j/\Fit p x/\nrm x∉j.map nrm:=by
 unfold FT;rw[Bv,JK]
 constructor
 ·grind
 ·rintro⟨⟨m,l⟩,o,w⟩
  refine#[λy A=>?_,l,by simp,λa B b hb e=>?_]
  ·grind
  grind
theorem FT.take(h:FT p j)(i:Nat):FT p (j.take i):=by
 refine#[λx l=>h.1 x (FM l),?_];rw[Ml];exact h.2.sublist (aH _ _)
def MH(j:¬YP):¬Z':=IW (j.map λx=>Nv (nrm x))
def toP(r:Z'):Int×Int:=(r.getD 0 0,r.getD 1 0)
theorem hJ(x:Int×Int):toP (Nv x)=x:=rfl
def FD(j:¬YP):¬YP:=(MH j).map toP
theorem WQ(h:r∈MH j):∃x∈j,r=Nv (nrm x):=by
 let:=(C7 _).mem_iff.mp h
 grind
theorem bV(h:t∈FD j):∃x∈j,t=nrm x:=by
 let#[r,l,rfl]:=Ay.mp h;let#[x,m,rfl]:=WQ l;exact#[x,m,rfl]
theorem Nt(j:¬YP):(FD j).Perm (j.map nrm):=by
 unfold FD MH;let:=(C7 (j.map λx=>Nv (nrm x))).map toP;refine this.trans ?_;rw[Aw];rfl
theorem nM(x:Int×Int):(nrm x).1<=(nrm x).2:=by
 unfold nrm;symm
 split <;> split <;> ext
def In(p:Nat)(t:Int×Int):Prop:=0<=t.1/\t.1 < p/\0<=t.2/\t.2 < p/\t.1≠t.2
theorem Fit.in{p:Nat}{x:Int×Int}(h:Fit p x):In p (nrm x):=by
 let#[j,l,m]:=h;let:=nM x;exact#[l,by lia,by lia,m,j]
noncomputable def Dg(ts:¬YP)(x:Nat):Z':=ts.flatMap λt=>(if t.1=(x:Int)then[t.2]else[])++(if t.2=(x:Int)then[t.1]else[])
theorem U4(ts:¬YP)(t:Int×Int)(x:Nat):Dg (ts++[t]) x=Dg ts x++((if t.1=(x:Int)then[t.2]else[])++(if t.2=(x:Int)then[t.1]else[])):=by
 unfold Dg;ext
theorem Wp(ts:¬YP)(x:Nat):-Dg ts x<=2 * -ts:=by
 unfold Dg
 induction ts with
 | nil=>simp
 | cons t ts j=>
  rw[JL,AT,Au]
  let:-((if t.1=(x:Int)then[t.2]else[])++(if t.2=(x:Int)then[t.1]else[]))<=2:=by split <;> split <;> simp
  lia
def WW(p:Nat)(ts:¬YP):¬D:=(A0 p).map λx=>.tup ((CH (Dg ts x)).map D.int)
def IA(p:Nat)(ts:¬YP):¬Z':=(A0 p).map λx=>CH (Dg ts x)
theorem U3(p:Nat)(ts:¬YP):D.tup (WW p ts)=eT (eT D.int) (IA p ts):=by
 unfold WW IA eT;rw[Aw];rfl
def HW(W:Wd)(w:Nat×¬YP):Ob:=.ins W.Web [("places",.int w.1),("ties",.tup (w.2.map pairD)),("near_sets",.tup (WW w.1 w.2))]
open Classical in
def Yq(x:Int)(l:¬YP):⇑(Nat×¬YP):=if 1<=x/\x<=60/\FT x l/\-l<=90000 then !(x.toNat,FD l)else none
theorem SE(a b c:D):([("places",a),("ties",b),("near_sets",c)]:¬(Str×D)).lookup ("places" : Str)=!a:=by
 rfl
theorem rR(a b c:D):([("places",a),("ties",b),("near_sets",c)]:¬(Str×D)).lookup ("ties" : Str)=!b:=by
 rfl
theorem rQ(a b c:D):([("places",a),("ties",b),("near_sets",c)]:¬(Str×D)).lookup ("near_sets" : Str)=!c:=by
 rfl
open L2 L7
open L4 (Fw AU BW Bx Jq BQ AS eT eP eP3 eF eU oL oDK oDP oDR HG Gg EF FF Kl CA Gf Ir Op Ky MN Bu whF B4 QJ DE FS GK EqN Bo GS GR GT EM Hz Js oFK)
section
variable{P:Ao}{w:A3}{K:AB}{mg:Str->⇑AE}{base:BG}{W:Wd}
def Hw(j:Z')(l:Int):⇑(Fw Int Unit):=
 AU (if (decide (l < (-j:Int))) then(atI j l).bind λm=>!.rt m else !.nx ()) λG=>!.rt (0:Int)
def Bt(j:Z')(l:Int):⇑Int:=Bx (Hw j l)
abbrev _root_.T'(P:Ao)(w:A3)(base:BG)(D:Dfn K mg z1 z2 z3 z4)(k:Nat):=Ca P w K mg base (CXG P w) k D.f D.fd
theorem E3(T:Txt K mg W)(j:Z')(l:Int):T' P w base T.tt 1 ["script", "k"] (spV [aV K (eF j),aV K (D.int l)] (rV K D.int) (Bt j l)):=by
 unfold Bt Hw
 exact fnV (N:=["script", "k"]) (B:=λG=>[]) T.tt.F En rfl λG G G G G G m o A=>(Ac (HU (jx (vv 1) (Xc T.ut (vv 0))) (Aq (CW (bA (vv 0) (vv 1)) upV)) (Ci Wk.refl)) (λG=>(Aq (CW A1 upV))))
def ND(o:Int):⇑(Fw (¬YP) Unit):=
 AU ((![]).bind EF*>λB=>!.nx B) λC=>AU ((!o).bind FF*>λj=>BW j C λ(E:(¬YP)) A=>BQ (λG=>G) (Kl (A+(1:Int)) o*>λl=>BW l E λ(H:(¬YP)) I=>BQ (λJ=>J) (HG H (A,I)*>λm=>!.nx m))) λL=>!.rt L
def FG(j:Int):⇑(¬YP):=Bx (ND j)
theorem M1(T:Txt K mg W)(j:Int):T' P w base T.Id 1 ["places"] (spV [aV K (D.int j)] (rN K (oL (eP D.int D.int))) (FG j)):=by
 unfold FG ND
 exact fnV (N:=["places", "found", "one", "other"]) (B:=λI=>[]) T.Id.F En rfl λI I I I I I E G l=>(Ac (D1 1 (FQ DH)) (λm=>(Ac (Ds (s0:=m) 1 (λ(o:(¬YP))=>sw K ((oL (eP D.int D.int)) o)) (Dy T.dl (vv 0)) (pgn 2 l) CB (λA H=>(Aq (DQ (Ds (s0:=A) 1 (λ(C:(¬YP))=>sw K ((oL (eP D.int D.int)) C)) (JP T.dl (FR (vv 2) A1) (vv 0)) (pgn 3 l) CB (λI J=>(Aq (DQ (MG (pv 1) (G4 (vv 2) (vv 3))) (λL=>∅))))) (λO=>∅))))) (λQ=>(Aq (Ji (pv 1)))))))
def IZ(j:Int)(l:Int):⇑(Fw (¬YP) Unit):=
 AU (if (decide (l=(1:Int))) then((!j - (1:Int)).bind FF*>λC=>Bu C (λm=>!true) (λm=>!(m,(m+(1:Int))))).bind λE=>!.rt E else !.nx ()) λM=>AU (if (decide (l=(2:Int))) then(((!j - (1:Int)).bind FF*>λo=>Bu o (λA=>!true) (λA=>!(A,(A+(1:Int)))))*>λG=>(!((0:Int),(j - (1:Int))) :: []).bind EF*>λH=>Gg G H).bind λI=>!.rt I else !.nx ()) λM=>AU (if (decide (l=(3:Int))) then(FG j).bind λJ=>!.rt J else !.nx ()) λM=>AU (if (decide (l=(4:Int))) then(Kl (1:Int) j*>λL=>Bu L (λB=>!true) (λB=>!((0:Int),B))).bind λN=>!.rt N else !.nx ()) λM=>(![]).bind EF*>λO=>!.rt O
def DZ(j:Int)(l:Int):⇑(¬YP):=Bx (IZ j l)
theorem M3(T:Txt K mg W)(m:Int)(o:Int):T' P w base T.aaj 2 ["places", "style"] (spV [aV K (D.int m),aV K (D.int o)] (rN K (oL (eP D.int D.int))) (DZ m o)):=by
 unfold DZ IZ
 exact fnV (N:=["places", "style"]) (B:=λG=>[]) T.aaj.F En rfl λG G G G G G A j H=>(Ac (HU (Lv Bo EM j (vv 1) A1) (Aq (CW (vc (N':=["k", ".1", ".2"]) (Dy T.dl (Ip (vv 0) A1)) (λC G G G G G G=>Ea) (λC G G G G G G=>(G4 (vv 0) (FR (vv 0) A1)))) upN)) (Ci Wk.refl)) (λG=>(Ac (HU (Lv Bo EM j (vv 1) A1) (Aq (CW (Xj (Fo (vc (N':=["k", ".1", ".2"]) (Dy T.dl (Ip (vv 0) A1)) (λE G G G G G G=>Ea) (λE G G G G G G=>(G4 (vv 0) (FR (vv 0) A1))))) (Fo (FQ (EZ (G4 A1 (Ip (vv 0) A1)) DH)))) upN)) (Ci Wk.refl)) (λG=>(Ac (HU (Lv Bo EM j (vv 1) A1) (Aq (CW (C3 (Bi T.Id (λ(l:Int×Unit)=>M1 T l.1) A (Ce (vv 0) Bs) upN)) upN)) (Ci Wk.refl)) (λG=>(Ac (HU (Lv Bo EM j (vv 1) A1) (Aq (CW (vc (N':=["k", ".1", ".2"]) (JP T.dl A1 (vv 0)) (λG G G G G G G=>Ea) (λG G G G G G G=>(G4 A1 (vv 0)))) upN)) (Ci Wk.refl)) (λG=>(Aq (CW (FQ DH) upN))))))))))
def Ko(l:Z')(Q:Int)(J:Int):⇑(Fw (¬YP) Unit):=
 AU (FG J*>λR=>!.nx R) λm=>AU (!.nx []) λS=>AU ((((((Bt l (0:Int)*>λT=>!T / 7)*>λU=>!U % 6)*>λX=>!(X,()))*>λo=>!(J,o))*>λL=>DZ L.1 L.2.1)*>λY=>BW Y S λ(Z:(¬(YP×Bool))) uw=>BQ (λzM=>zM) (B4 Z uw true*>λϜ=>!.nx Ϝ)) λvR=>AU ((((!(-l:Int))*>λN=>!(if (63:Int) < N then(63:Int)else N))*>λA=>Kl Q A)*>λB=>BW B vR λ(C:(¬(YP×Bool))) uH=>AU (((atI l uH*>λE=>MN E (-m:Int))*>λxB=>atI m xB)*>λϚ=>!.nx Ϛ) λG=>BQ (λy6=>y6) ((if (not (AR C G).isSome) then !true else(AR C G).bind λH=>!not H)*>λyT=>B4 C G yT*>λϛ=>!.nx ϛ)) λO=>Bu m (λj=>if ((AR O j).isSome) then AR O j else !false) (λj=>!j)*>λI=>!.rt I
def Fs(j:Z')(l:Int)(m:Int):⇑(¬YP):=Bx (Ko j l m)
theorem Ub(T:Txt K mg W)(C:Z')(E:Int)(G:Int):T' P w base T.aak 3 ["script", "first", "places"] (spV [aV K (eF C),aV K (D.int E),aV K (D.int G)] (rN K (oL (eP D.int D.int))) (Fs C E G)):=by
 unfold Fs Ko
 exact fnV (N:=["script", "first", "places", "pairs", "there", "tie", "k"]) (B:=λM=>[]) T.aak.F En rfl λM M M M M M m j H=>(Ac (G3 3 (C3 (Bi T.Id (λ(J:Int×Unit)=>M1 T J.1) m (Ce (vv 2) Bs) upN))) (λR=>(Ac (D1 4 (IT dkP)) (λL=>(Ac (Ds (s0:=L) 4 (λ(o:(¬(YP×Bool)))=>sw K ((oDP D.bl) o)) (Pp (Bi T.aaj (λI=>M3 T I.1 I.2.1) m (Ce (vv 2) (Ce (Mu rfl (Ps rfl (C3 (Bi T.tt (λ(l:Z'×Int×Unit)=>E3 T l.1 l.2.1) m (Ce (vv 0) (Ce A1 Bs)) upV)))) Bs)) upN)) (pgn 5 H) CB (λS U=>(Aq (DQ (Fd dkP (hu1 j) (pv 4) (vv 5) Lu) (λX=>∅))))) (λO=>(Ac (Ds (s0:=O) 4 (λ(A:(¬(YP×Bool)))=>sw K ((oDP D.bl) A)) (JP T.dl (vv 1) (Sy T.aau (Xc T.ut (vv 0)) A1)) (pgn 6 H) CB (λY Z=>(Ac (DP 5 (Hs (DY (pv 3)) (WE (bA (vv 0) (vv 6)) (S3 T.ut (DY (pv 3)))))) (λzN=>(Aq (DQ (Fd dkP (hu1 j) (pv 4) (vv 5) (lL (gZ dkP (hu1 j) (vv 5) (Ep (pv 4))) (WD (Xb (IU dkP (hu1 j) (Ep (pv 4)) (vv 5)))))) (λy6=>∅))))))) (λϝ=>(Aq (CW (vc (N':=["tie", ".1", ".2", ".3", ".4", "there", ".6", ".7"]) (Hh (pv 3)) (λQ M M M M M M=>(Jj (Yv (V9 (WG dkP (hu1 j) (vv 0) (Ep (pv 5))) (Sr (IV (IU dkP (hu1 j) (Ep (pv 5)) (vv 0)))))))) (λQ M M M M M M=>(vv 0))) upN))))))))))
def Iu(m:Z')(l:(¬YP)):⇑(Fw (¬YP) Unit):=
 AU ((((Bt m (0:Int)*>λo=>!o / 42)*>λA=>!A % 2)*>λB=>!decide (B=(0:Int)))*>λC=>if C=true then !.rt l else !.nx ()) λG=>Bu l.reverse (λj=>!true) (λj=>!(j.2,j.1))*>λE=>!.rt E
def Fg(j:Z')(l:(¬YP)):⇑(¬YP):=Bx (Iu j l)
theorem RU(T:Txt K mg W)(j:Z')(l:(¬YP)):T' P w base T.aal 2 ["script", "ties"] (spV [aV K (eF j),aO K ((oL (eP D.int D.int)) l)] (rN K (oL (eP D.int D.int))) (Fg j l)):=by
 unfold Fg Iu
 exact fnV (N:=["script", "ties"]) (B:=λG=>[]) T.aal.F En rfl λG G G G G G o A E=>(Ac (HU (Lv Bo EM A (Mu rfl (Ps rfl (C3 (Bi T.tt (λ(m:Z'×Int×Unit)=>E3 T m.1 m.2.1) o (Ce (vv 0) (Ce A1 Bs)) upV)))) A1) (Aq (CW (a9 T.aat (Cr (pv 1))) upN)) (Ci Wk.refl)) (λG=>(Aq (CW (vc (N':=["tie", ".1", ".2"]) (ao T.aav (gQ (pv 1))) (λC G G G G G G=>Ea) (λC G G G G G G=>(G4 (Sw (vv 0)) (No (vv 0))))) upN))))
def Kq(o:(¬YP))(l:Int):⇑(Fw Z' Unit):=
 AU ((![]).bind EF*>λA=>!.nx A) λB=>AU (BW o B λ(m:Z') j=>BQ (λC=>C) (if (decide (l∈[j.1,j.2])) then BQ (λE=>E) (HG m ((j.1+j.2) - l)*>λG=>!.nx G)else !.nx m)) λH=>!.rt (CH H)
def Fu(j:(¬YP))(l:Int):⇑Z':=Bx (Kq j l)
theorem OQ(T:Txt K mg W)(j:(¬YP))(l:Int):T' P w base T.IO 1 ["ties", "place"] (spV [aO K ((oL (eP D.int D.int)) j),aV K (D.int l)] (rN K (oL D.int)) (Fu j l)):=by
 unfold Fu Kq
 exact fnV (N:=["ties", "place", "found", "tie"]) (B:=λJ=>[]) T.IO.F En rfl λJ J J J J J G m o=>(Ac (D1 2 (FQ DH)) (λA=>(Ac (Ds (s0:=A) 2 (λ(C:Z')=>sw K ((oL D.int) C)) (Ms (pv 0)) (pgn 3 o) CB (λH I=>(Aq (DQ (Pn 2 (λ(E:Z')=>sw K ((oL D.int) E)) (lQ Bo m (vv 1) (vv 3)) (Aq (DQ (MG (pv 2) (Ip (FR (No (vv 3)) (Sw (vv 3))) (vv 1))) (λJ=>Wk.refl))) (Ci Wk.refl)) (λL=>∅))))) (λO=>(Aq (CW (UQ T.ss (Ep (pv 2))) upN))))))
def Oa(H:Int)(E:Int):⇑(Fw (¬Z') Unit):=
 AU (((![]).bind EF*>λI=>!I :: []).bind EF*>λJ=>!.nx J) λL=>AU ((!E).bind FF*>λj=>BW j L λ(N:(¬Z')) O=>AU ((![]).bind EF*>λQ=>!.nx Q) λR=>AU (BW N R λ(S:(¬Z')) l=>AU (!.nx (0:Int)) λm=>AU (((![]).bind EF*>λT=>!not (decide (l=T)))*>λU=>if U=true then BQ (λo=>o) ((atI l ((unop% Neg.neg (1:Int)))*>λX=>!X+(1:Int))*>λY=>!.nx Y)else !.nx m) λZ=>BQ (λA=>A) ((Kl Z (((H - E)+O)+(1:Int))*>λB=>Bu B (λG=>!true) (λG=>(!G :: []).bind EF*>λϟ=>Gg l ϟ))*>λvG=>Gg S vG*>λC=>!.nx C)) λϠ=>BQ (λM=>Ϡ) (!.nx ())) λxC=>!.rt xC
def Ft(j:Int)(l:Int):⇑(¬Z'):=Bx (Oa j l)
theorem Uc(T:Txt K mg W)(l:Int)(m:Int):T' P w base T.aam 1 ["places", "guards"] (spV [aV K (D.int l),aV K (D.int m)] (rN K (oL (eT D.int))) (Ft l m)):=by
 unfold Ft Oa
 exact fnV (N:=["places", "guards", "rows", "k", "longer", "row", "least"]) (B:=λJ=>[]) T.aam.F En rfl λJ J J J J J R A o=>(Ac (G3 2 (FQ (EZ (Hr DH) DH))) (λC=>(Ac (Ds (s0:=C) 2 (λ(E:(¬Z'))=>sy K ((oL (eT D.int)) E)) (Dy T.dl (vv 1)) (pgn 3 o) CB (λS U=>(Ac (D1 4 (FQ DH)) (λG=>(Ac (Ds (s0:=G) 4 (λ(j:(¬Z'))=>sw K ((oL (eT D.int)) j)) (Hh (pv 2)) (pgn 5 o) CB (λX Y=>(Ac (DP 6 A1) (λH=>(Ac (Pn 6 (λ(I:Int)=>sv K (D.int I)) (jw (GR Bo) Js A (vv 5) (Hr DH)) (Aq (DQ (DP 6 (FR (S4 (vv 5) (Pr A1)) A1)) (λJ=>Wk.refl))) (Ci Wk.refl)) (λZ=>(Aq (DQ (ag (pv 4) (vc (N':=["place", ".1", ".2", ".3", ".4", ".5", "row", ".7"]) (JP T.dl (vv 6) (FR (FR (Ip (vv 0) (vv 1)) (vv 3)) A1)) (λL J J J J J J=>Ea) (λL J J J J J J=>(LD (vv 6) (Hr (EZ (vv 0) DH)))))) (λO=>∅))))))))) (λQ=>(Aq (GJ (g:=λJ=>Q) (Ss (LB (i:=4) rfl) (Po 2 (pv 4))) (λJ=>∅))))))))) (λxC=>(Aq (Ji (pv 2)))))))
def GN(S:(¬YP))(j:Z')(l:Int)(Y:Str):⇑(Fw (¬Z') Unit):=
 AU (if (decide (Y=("one" : Str))) then AU (((!(-j:Int)).bind FF*>λm=>Bu m (λo=>(((atI j o*>λZ=>!(Z,()))*>λvF=>!(S,vF))*>λT=>Fu T.1 T.2.1)*>λx7=>!decide (l∈x7)) (λo=>!o))*>λvg=>!.nx vg) λv3=>(Bu v3 (λA=>!true) (λA=>((!l :: []).bind EF*>λB=>Gg (Ot j none (!A)) B)*>λϢ=>Gg Ϣ (Ot j (!A+(1:Int)) none))).bind FS*>λuH=>!.rt uH else !.nx ()) λM=>AU (((![]).bind EF*>λϣ=>!ϣ :: []).bind EF*>λϟ=>!.nx ϟ) λϤ=>AU (BW j Ϥ λ(C:(¬Z')) U=>AU (((!U :: []).bind EF*>λyT=>Fu S U*>λxD=>Gg yT xD)*>λvh=>!.nx vh) λE=>AU ((![]).bind EF*>λG=>!.nx G) λwo=>AU (BW C wo λ(H:(¬Z')) X=>BQ (λwt=>wt) (Bu E (λI=>!not (decide (I∈X))) (λI=>(!I :: []).bind EF*>λJ=>Gg X J)*>λL=>Gg H L*>λN=>!.nx N)) λϥ=>BQ (λM=>ϥ) (!.nx ())) λO=>(Bu O (λQ=>!decide (l∈Q)) (λQ=>!Q)).bind FS*>λR=>!.rt R
def DR(j:(¬YP))(l:Z')(m:Int)(o:Str):⇑(¬Z'):=Bx (GN j l m o)
theorem Px(T:Txt K mg W)(o:(¬YP))(A:Z')(C:Int)(E:Str):T' P w base T.aan 2 ["ties", "standing", "call", "kind"] (spV [aO K ((oL (eP D.int D.int)) o),aV K ((eT D.int) A),aV K (D.int C),aV K (D.str E)] (rN K (oL (eT D.int))) (DR o A C E)):=by
 unfold DR GN
 exact fnV (N:=["ties", "standing", "call", "kind", "some", "rows", "guard", "steps", "longer", "row"]) (B:=λJ=>[]) T.aan.F En rfl λJ J J J J J G l H=>(Ac (HU (Lv GS Hz l (vv 3) Sv) (Ac (Rs (i:=4) (vd (N':=["k", "ties", "standing", "call", ".4", ".5", ".6", ".7", ".8", ".9", ".10"]) (Dy T.dl (gW T.ut (vv 1))) (λJ J J J J J J=>(Jj (lR Bo l (vv 3) (Fo (Bi T.IO (λI=>OQ T I.1 I.2.1) G (Ct (Cr (pv 1)) arO (Ce (S4 (vv 2) (vv 0)) Bs)) upN))))) (λJ J J J J J J=>(vv 0)))) (λZ=>(Aq (CW (US T.ss (Fo (vc (N':=["k", ".1", "standing", "call", ".4", ".5", ".6", ".7", ".8", ".9", ".10"]) (Hh (pv 4)) (λL J J J J J J=>Ea) (λL J J J J J J=>(LD (LD (Xi (vv 2) XZ (XY (vv 0))) (Hr (EZ (vv 3) DH))) (Xi (vv 2) (XY (FR (vv 0) A1)) XZ)))))) upN)))) (Ci Wk.refl)) (λJ=>(Ac (G3 5 (FQ (EZ (Hr DH) DH))) (λϤ=>(Ac (Ds (s0:=Ϥ) 5 (λ(Ϧ:(¬Z'))=>sy K ((oL (eT D.int)) Ϧ)) (Io (vv 1)) (pgn 6 H) CB (λO xB=>(Ac (G3 7 (Xj (Fo (FQ (EZ (vv 6) DH))) (Fo (C3 (Bi T.IO (λ(j:(¬YP)×Int×Unit)=>OQ T j.1 j.2.1) G (Ct (Cr (pv 0)) arO (Ce (vv 6) Bs)) upN))))) (λQ=>(Ac (D1 8 (FQ DH)) (λR=>(Ac (Ds (s0:=R) 8 (λ(m:(¬Z'))=>sw K ((oL (eT D.int)) m)) (Hh (pv 5)) (pgn 9 H) CB (λS xA=>(Aq (DQ (ag (pv 8) (vc (N':=["place", ".1", ".2", ".3", ".4", ".5", ".6", ".7", ".8", ".9", "row"]) (Hh (pv 7)) (λU J J J J J J=>(Jj (Mw Bo l (vv 0) (vv 10)))) (λU J J J J J J=>(LD (vv 10) (Hr (EZ (vv 0) DH)))))) (λwt=>∅))))) (λϥ=>(Aq (GJ (g:=λJ=>ϥ) (Ss (LB (i:=8) rfl) (Po 5 (pv 8))) (λJ=>∅))))))))))) (λX=>(Aq (CW (US T.ss (Fo (vc (N':=["row", ".1", ".2", "call", ".4", ".5", ".6", ".7", ".8", ".9", ".10"]) (Hh (pv 5)) (λY J J J J J J=>(Jj (gm Bo l (vv 3) (vv 0)))) (λY J J J J J J=>(vv 0))))) upN))))))))
def Iw(l:(¬YP))(m:Z')(o:Int)(A:Str):⇑(Fw (¬Z') Unit):=
 (DR l m o A*>λB=>Bu B (λj=>!true) (λj=>!CH j)).bind setRO*>λC=>!.rt C
def EC(j:(¬YP))(l:Z')(m:Int)(o:Str):⇑(¬Z'):=Bx (Iw j l m o)
theorem RW(T:Txt K mg W)(l:(¬YP))(m:Z')(o:Int)(A:Str):T' P w base T.aao 3 ["ties", "standing", "call", "kind"] (spV [aO K ((oL (eP D.int D.int)) l),aV K ((eT D.int) m),aV K (D.int o),aV K (D.str A)] (rN K (oL (eT D.int))) (EC l m o A)):=by
 unfold EC Iw
 exact fnV (N:=["ties", "standing", "call", "kind"]) (B:=λG=>[]) T.aao.F En rfl λG G G G G G C E H=>(Aq (CW (UR E T.ss T.aaF (Fo (vc (N':=["row", ".1", ".2", ".3", ".4"]) (Pp (C3 (Bi T.aan (λ(j:(¬YP)×Z'×Int×Str×Unit)=>Px T j.1 j.2.1 j.2.2.1 j.2.2.2.1) C (Ct (Cr (pv 0)) arO (Ce (vv 1) (Ce (vv 2) (Ce (vv 3) Bs)))) upN))) (λG G G G G G G=>Ea) (λG G G G G G G=>(Gv T.u8 (Fo (Nm T.ss (vv 0)))))))) upN))
def Hv(o:Int)(A:(¬YP)):⇑(Fw (¬YP) Unit):=
 AU (!.nx []) λB=>AU (BW A B λ(m:(¬(YP×Bool))) j=>AU (!.nx ((if j.2 < j.1 then j.2 else j.1),(if j.2 > j.1 then j.2 else j.1))) λl=>AU (if (decide (l.1=l.2)) then none else !.nx ()) λI=>AU ((if (decide (l.1 < (0:Int))) then !true else !decide (o<=l.2))*>λC=>if C=true then none else !.nx ()) λI=>AU (if ((AR m l).isSome) then none else !.nx ()) λI=>BQ (λE=>E) (B4 m l true*>λG=>!.nx G)) λH=>!.rt (GK (H.map (·.1)))
def E7(j:Int)(l:(¬YP)):⇑(¬YP):=Bx (Hv j l)
theorem Pw(T:Txt K mg W)(j:Int)(l:(¬YP)):T' P w base T.ST 1 ["places", "ties"] (spV [aV K (D.int j),aO K ((oL (eP D.int D.int)) l)] (rV K (eT (eP D.int D.int))) (E7 j l)):=by
 unfold E7 Hv
 exact fnV (N:=["places", "ties", "found", "one", "other", "tie"]) (B:=λI=>[]) T.ST.F En rfl λI I I I I I H o E=>(Ac (D1 2 (IT dkP)) (λG=>(Ac (FP (s0:=G) (B:=(λ(ϧ:(¬(YP×Bool)))=>[sv K (D.int j),sz K ((oL (eP D.int D.int)) l),sw K ((oDP D.bl) ϧ),.u,.u,.u])) (Ms (pv 1)) (QM rfl (Ff (pgn 3 E) (Ff (pgn 4 E) NI))) O8 Wk.refl (λA m=>(Ac (DP 5 (G4 (Sy T.aau (vv 3) (vv 4)) (gU T.aaE (vv 3) (vv 4)))) (λC=>(Ac (Ha (B:=(λ(_:Unit)=>[sv K (D.int j),sz K ((oL (eP D.int D.int)) l),sw K ((oDP D.bl) A),sv K (D.int m.1),sv K (D.int m.2),sv K ((eP D.int D.int) C)])) (Lv Bo EM o (No (vv 5)) (Sw (vv 5))) MF (Ci Wk.refl)) (λI=>(Ac (Ha (B:=(λ(_:Unit)=>[sv K (D.int j),sz K ((oL (eP D.int D.int)) l),sw K ((oDP D.bl) A),sv K (D.int m.1),sv K (D.int m.2),sv K ((eP D.int D.int) C)])) (Yv (XU (jx (No (vv 5)) A1) (V8 (qH (Sw (vv 5)) (vv 0))))) MF (Ci Wk.refl)) (λI=>(Ac (Ha (B:=(λ(_:Unit)=>[sv K (D.int j),sz K ((oL (eP D.int D.int)) l),sw K ((oDP D.bl) A),sv K (D.int m.1),sv K (D.int m.2),sv K ((eP D.int D.int) C)])) (WG dkP (hu1 o) (vv 5) (Ep (pv 2))) MF (Ci Wk.refl)) (λI=>(Aq (DQ (Fd dkP (hu1 o) (pv 2) (vv 5) Lu) (λI=>∅))))))))))))) (λJ=>(Aq (CW (Gv T.u8 (Fo (Yt T.ss (Ep (pv 2))))) upV))))))
end
open L2 L7
open L4 (Fw AU BW Bx Jq BQ AS eT eP oL oDP FF CA Bu GK B4 EqN Bo EM GQ)
section
variable{P:Ao}{w:A3}{K:AB}{mg:Str->⇑AE}{base:BG}{W:Wd}
def EK(p:Int)(ts:¬YP):⇑(Fw (¬Z') Unit):=
 AU ((FF p).bind Wo*>λv=>!.nx v) λj=>AU (BW ts j λ(s:¬Z') x=>AU (Tv s x.1 x.2*>λl=>!.nx l) λm=>BQ (λs=>s) (Tv m x.2 x.1*>λl=>!.nx l)) λs=>(Bu s (λG=>!true) λr=>!CH r)*>λr=>!.rt r
theorem Pv(T:Txt K mg W)(p:Int)(ts:¬YP):T' P w base T.Tm 1 ["places", "ties"] (spV [aV K (D.int p),aV K (eT (eP D.int D.int) ts)] (rV K (eT (eT D.int))) (Bx (EK p ts))):=by
 unfold EK
 exact fnV (N:=["places", "ties", "rows", "one", "other"]) (B:=λG=>[]) T.Tm.F En rfl λG G G G G G m o j=>
  Ac (jo (i:=2) (gr (own:=["place"]) (N':=["place", ".1", ".2", ".3", ".4", ".5"]) (eb:=D.int) (Jx (by kernel_rfl)) (Dy T.dl (vv 0)) (λG G G G G G=>pgn 0 (by decide +kernel:(["place", ".1", ".2", ".3", ".4", ".5"]:¬Str).Nodup)) LC (λx=>by exact(.drop (.same (.same (.same (.same (.same .nil))))))))) λl=>
  Ac (FP (s0:=l) (B:=λ(s:¬Z')=>[sv K (D.int p),sv K (eT (eP D.int D.int) ts),.g (pn K (oL D.int) s),.u,.u]) (Io (vv 1)) (QM rfl (Ff (pgn 3 j) (Ff (pgn 4 j) NI))) O8 Wk.refl λs x=>
   Ac (XW (pv 2) (vv 3) (vv 4)) λA=>Aq <| GJ (g:=λs=>s) (XW (pv 2) (vv 4) (vv 3)) λs=>by exact Ws.wk (.same (.same (.same (.drop (.drop .nil)))))) λs=>
  jp (pq (i:=2) rfl) (Aq (CW (Gv T.u8 (Fo (O9 (own:=["row"]) (N':=["row", ".1", ".2", ".3", ".4", ".5"]) (Jx (by kernel_rfl)) (qB (pv 2)) (λG G G G G G=>pgn 0 (by decide +kernel:(["row", ".1", ".2", ".3", ".4", ".5"]:¬Str).Nodup)) aj (λr=>by exact(.drop (.same (.same (.same (.same (.same .nil))))))) (λr G G G G G G=>Ea) (λr G G G G G G=>Gv T.u8 (Fo (UQ T.ss (Cr (pv 0)))))))) upV))
def oW3(W:Wd)(v:Int×¬YP×¬Z'):Ob:=.ins W.Web [("places",.int v.1),("ties",eT (eP D.int D.int) v.2.1),("near_sets",eT (eT D.int) v.2.2)]
def X0(p:Int)(l:¬YP):⇑(Fw Unit (Int×¬YP×¬Z')):=
 AU (((if (decide ((1:Int)<=p)) then !decide (p<=(60:Int))else !false)*>λx=>!not x)*>λx=>if x=true then none else !.nx ()) λG=>AU (!.nx p) λv=>AU (E7 p l*>λt=>!.nx t) λt=>BQ (λn=>(v,t,n)) (Bx (EK p t)*>λn=>!.nx n)
theorem qJ(T:Txt K mg W)(p:Int)(l:¬YP):Czq P w K mg base 2 T.wS.f T.wS.fd ["self", "places", "ties"] (spI K W.Web [aV K (D.int p),aO K (oL (eP D.int D.int) l)] (oW3 W) (Oo (X0 p l))):=by
 unfold X0
 exact fnI (N:=["self", "places", "ties"]) (R:=rV K L4.eU) (B:=λz v=>[sx K z (oW3 W v),sv K (D.int p),sz K (oL (eP D.int D.int) l)]) T.wS.F En rfl (λG G=>rfl) λz G G G G G G j m o=>
  Ac (Ha (B:=λ(_:Unit)=>[sx K z (.ins W.Web []),sv K (D.int p),sz K (oL (eP D.int D.int) l)]) (KW (Pu Uz Uz A1 (vv 1) (UW T.LE.choose_spec))) MF (Ci Wk.refl)) λG=>
  Ac (WA (Z:=λa=>a=z) (enc:=D.int) (fs:=[]) T.gg.cl T.mo (pv 0) (vv 1)) λv=>
  Ac (WA (hl:=Cu rfl) (Z:=λa=>a=z) (fs:=[("places",.int v)]) T.gg.cl T.wf (pv 0) (C3 (Bi T.ST (λ(z:Int×¬YP×Unit)=>Pw T z.1 z.2.1) j (Ce (vv 1) (Ct (Cr (pv 2)) arO Bs)) upV))) λt=>
  Aq (GJ (C:=λv=>[sx K z (oW3 W v),sv K (D.int p),sz K (oL (eP D.int D.int) l)]) (WA (hl:=Cu rfl) (Z:=λa=>a=z) (fs:=[("places",.int v),("ties",eT (eP D.int D.int) t)]) T.gg.cl T.ww (pv 0) (C3 (Bi T.Tm (λ(z:Int×¬YP×Unit)=>Pv T z.1 z.2.1) j (Ce (vv 1) (Ce (Jl (ob:=λt=>.ins W.Web [("places",.int v),("ties",eT (eP D.int D.int) t)]) (g:=λt=>t) (ec:=eT (eP D.int D.int)) T.gg.cl T.wf (Mt (v:=t) (pv 0)) (λt=>#[_,rfl,rfl])) Bs)) upV))) λn=>Wk.refl)
section
open Classical
theorem Yb{p:Nat}{f:Nat->Z'}{j v:Int}(m:0<=j)(o:j < p)(hl:-f j.toNat < 1000000):Tv ((A0 p).map f) j v=!((A0 p).map λx=>if x=j.toNat then f x++[v]else f x):=by
 let l:j.toNat < p:=by ext
 let e:((A0 p).map f).getD j.toNat []=f j.toNat:=by
  rw[B2,Ai,ET l];rfl
 unfold Tv;rw[e,qX #[m,by rw[AD,DB];exact l,hl]]
 congr 1
 apply E0
 grind
theorem nN{p:Nat}{ts:¬YP}(U:p<=60)(A:∀t∈ts,In p t)(hl:-ts<=90000):Bx (EK p ts)=!IA p ts:=by
 let B:FF (p:Int)=!CA 0 p:=by
  unfold FF;rw[qX #[by ext,by lia]]
  congr 1
 let C:Wo (CA 0 p)=!((A0 p).map λx=>Dg [] x):=by
  unfold Wo
  let j:-CA 0 p=p:=by unfold CA;simp
  rw[j,qX ∅]
  congr 1
  unfold CA Dg;rw[Aw];rfl
 let#[s,E,G]:=GQ (ρ:=¬Z') (l:=ts) (s0:=(A0 p).map λx=>Dg [] x) (q:=λ(s:¬Z') x=>AU (Tv s x.1 x.2*>λl=>!.nx l) λH=>BQ (λs=>s) (Tv H x.2 x.1*>λl=>!.nx l))
  (λpre s=>s=(A0 p).map λx=>Dg pre x) rfl (λpre t s I J L=>by
   subst L;let#[N,O,Q,R,X]:=A t I
   let S:-pre<=90000:=by
    let:=J.length_le;rw[AT]at this;lia
   let m:∀x,(Dg pre x).length < 999999:=λx=>Il (Wp pre x) ∅
   refine#[(A0 p).map λx=>Dg (pre++[t]) x,?_,rfl];rw[Yb N O (Ol (m _) (by ext))];show BQ (λs=>s) (Tv ((A0 p).map λx=>if x=t.1.toNat then Dg pre x++[t.2]else Dg pre x) t.2 t.1*>λl=>!.nx l)=_
   rw[Yb Q R (by
    let:=m t.2.toNat;split
    ·rw[AT];exact Nat.add_lt_add_right this 1
    ·lia)]
   show (!Fw.nx _)=!Fw.nx _
   congr 2
   refine B0 λx Y=>?_
   rw[U4]
   let Z:(x=t.1.toNat)↔t.1=(x:Int):=by lia
   let e2:(x=t.2.toNat)↔t.2=(x:Int):=by grind
   grind)
 let T:Bu s (λM=>!true) (λr=>!CH r)=!IA p ts:=by
  rw[G];unfold Bu;rw[qX (by rw[AD,DB];lia)];unfold IA;generalize A0 p=o
  induction o with
  | nil=>rfl
  | cons r o ih=>rw[Al];unfold L4.L8;ext
 unfold EK;rw[B];show Bx (AU (Wo (CA 0 p)*>λv=>!.nx v) _)=_;rw[C];show Bx (AU (BW ts _ _) _)=_;rw[E];show Bx (Bu s _ _*>λr=>!.rt r)=_;rw[T];rfl
end
end
open L2 L7
open L4 (Fw AU BW Bx Jq BQ AS eT eP oL oDP FF CA Bu GK B4 EqN Bo EM GQ lY)
theorem iw(j:¬YP)(x:Int×Int):(AR (j.map λy=>(nrm y,true)) (nrm x)).isSome=decide (nrm x∈j.map nrm):=by
 unfold AR
 grind
theorem iu(j:¬YP)(x:Int×Int)(h:nrm x∉j.map nrm):Cz (j.map λy=>(nrm y,true)) (nrm x) true=(j++[x]).map λy=>(nrm y,true):=by
 unfold Cz
 ext
theorem Zl{p:Int}{m:¬YP}(hl:-m<=90000)(I:FT p m):E7 p m=!FD m:=by
 unfold E7 Hv
 let#[s,J,L]:=GQ (ρ:=¬YP) (l:=m) (s0:=([]:¬(YP×Bool))) (q:=λ(E:¬(YP×Bool)) j=>AU (!.nx ((if j.2 < j.1 then j.2 else j.1),(if j.2 > j.1 then j.2 else j.1))) λo=>AU (if (decide (o.1=o.2)) then none else !.nx ()) λM=>AU ((if (decide (o.1 < (0:Int))) then !true else !decide (p<=o.2))*>λB=>if B=true then none else !.nx ()) λM=>AU (if ((AR E o).isSome) then none else !.nx ()) λM=>BQ (λw=>w) (B4 E o true*>λA=>!.nx A))
  (λpre s=>s=pre.map λy=>(nrm y,true)) rfl (λpre t s R N O=>by
   subst O;let#[r,G]:=N
   let P:FT p (pre++[t]):=by
    let:=I.take (-(pre++[t]));rwa [<-G,List.take_left]at this
   let#[_,#[Q,S,T],H]:=FT.snoc.mp P;refine#[(pre++[t]).map λy=>(nrm y,true),?_,rfl];show AU (if (decide ((nrm t).1=(nrm t).2)) then none else !.nx ()) (λM=>AU ((if (decide ((nrm t).1 < (0:Int))) then !true else !decide (p<=(nrm t).2))*>λB=>if B=true then none else !.nx ()) λM=>AU (if ((AR (pre.map λy=>(nrm y,true)) (nrm t)).isSome) then none else !.nx ()) λM=>BQ (λw=>w) (B4 (pre.map λy=>(nrm y,true)) (nrm t) true*>λA=>!.nx A))=_;rw[wY Q,wY (by simp_all:Not ((nrm t).1 < 0)),wY (by simp_all:Not (p<=(nrm t).2)),iw,wY H];show BQ (λw=>w) (B4 (pre.map λy=>(nrm y,true)) (nrm t) true*>λA=>!.nx A)=_
   let C:-(pre.map λy=>(nrm y,true)) < 1000000:=by
    let:=congrArg Dp G;rw[AT,AT]at this;rw[AD];lia
   unfold B4;rw[qX C,iu _ _ H]
   rfl)
 show Bx (AU (BW m [] _) _)=_;rw[J];show (!GK (s.map (·.1)))=_;rw[L,Aw]
 congr 1
 unfold GK FD MH;rw[Aw];rfl
set_option tactic.hygienic true in
theorem pr{x:Int}{l:¬YP}{v:Nat×¬YP}(h:Yq x l=!v):Oo (X0 x l)=!((v.1:Int),v.2,IA v.1 v.2):=by
 unfold Yq at h;split at h
 ·rename_i w
  cases h;let#[A,B,j,o]:=w;let m:((x.toNat:Nat):Int)=x:=B1 ∅;unfold X0;rw[wX A,wX B,Zl o j];show Oo (BQ (λn=>(x,FD l,n)) (Bx (EK x (FD l))*>λn=>!.nx n))=_
  let:=nN (p:=x.toNat) (ts:=FD l) (by ext) (λt C=>by
   let#[y,E,rfl]:=bV C;rw[<-m]at j
   exact(j.1 y E).in) (by rw[(Nt l).length_eq,AD];exact o)
  rw[m]at this;rw[this];show (!_)=!_;rw[m]
 ·cases h
section
variable{P:Ao}{w:A3}{K:AB}{mg:Str->⇑AE}{base:BG}{W:Wd}{X:Cx}{A:¬Sl}{a b:Expr}{pc pos:Pos}{k':Nat}
theorem rK(v:Nat×¬YP):oW3 W ((v.1:Int),v.2,IA v.1 v.2)=HW W v:=by
 unfold oW3 HW;symm;rw[<-U3];rfl
theorem lE(T:Txt X.K X.mg W){pa:⇑Int}{pl:⇑(¬YP)}(E:FK (k'+1) X.A)(G:VE X A a (XP X) pa)(hb:VE X A b (rO X.K (oL (eP D.int D.int))) pl)(I:↥(2<=k'))(J:↑(X.xe=λM M=>False))(L:↑(Gl X "Web")) (C:↑(AG [a,b] X.env=(false,A2 a X.env) :: AG [b] X.env)) (j:↑(AG [b] X.env=(false,A2 b X.env) :: AG [] X.env)) (o:↑((Cv pos (AG [b] X.env)).any (·.1)=false)) :
  VE X A (.Call (.Name "Web" pc) [a,b] [] pos) (rN X.K (HW W)) (pa*>λx=>pl*>λl=>Yq x l):=by
 let h:=gV (X:=X) (A:=A) (pos:=pos) (pc:=pc) (x:="Web") (k':=k') (ob:=oW3 W) T.gg.mk' (λ(z:Int×¬YP×Unit)=>qJ (P:=X.prog) (w:=X.w) (base:=X.base) T z.1 z.2.1) T.wS.b T.gg.m E (Ce G (Ct hb arO Bs j) C) I J L (by rfl) C o
 refine S5 h λv B=>?_
 let#[x,N,B]:=AS B;let#[l,O,Q]:=AS B;refine#[_,by rw[N,O];exact pr Q,λH y R z=>?_];unfold rN at z ⊢;rwa [rK]at z
end
open L2 L7
open L4 (Fw AU BW Bx Jq BQ AS eT eP oL oDK Bu B4 Ir)
abbrev HQ:=¬YP×¬(Int×Bool)
def spS(K:AB)(l:¬Z')(bits:Int)(m:¬YP)(g:Int)(o:¬(Int×Bool))(z:⇑(Bool×HQ)):Sp:=λvs H Q E=>∃t h s r,vs=[t,.int bits,.ref h,.int g,.ref s]/\z=!r/\h≠s/\OB K H h (oDK D.int m)/\OB K H s (oDK D.bl o)/\(∀j,Kp (Qp H h s) j->∃a,t=.ref a/\OB K j a (oL (eT D.int) l))/\∀j,Kp (Qp H h s) j->OB K j h (oDK D.int r.2.1)->OB K j s (oDK D.bl r.2.2)->Q (.bl r.1) j
def RS(K:AB)(h s:AL):Rk (Bool×HQ):=λz G x j=>x=.bl z.1/\OB K j h (oDK D.int z.2.1)/\OB K j s (oDK D.bl z.2.2)
section
variable{X:Cx}{A:¬Sl}{e0 e1 e2 e3 e4:Expr}{pc pos:Pos}{W:Wd}{k k':Nat}{tk:¬Z'}{bits:Int}{Hc:¬YP}{Qc:¬(Int×Bool)}{st:¬YP->Int->¬(Int×Bool)->⇑(Bool×HQ)}{i0 i1 i2 i4:Nat}{Z2 Z4:AL->Prop}{p3:⇑Int}
theorem WF(T:Txt X.K X.mg W)(F:∀H g Q,Ca X.prog X.w X.K X.mg X.base (CXG X.prog X.w) k T.em.f T.em.fd ["takes", "bits", "holders", "guard", "seen"] (spS X.K tk bits H g Q (st H g Q))) (hr:FK k' X.A) (hk:k<=k')
  (h0:PE X e0 (DI i0)) (h1:PE X e1 (DI i1)) (h2:PE X e2 (DI i2)) (h3:VE X A e3 (XP X) p3) (h4:PE X e4 (DI i4)) (tq:i2≠i4)
  (a0:↑(A[i0]?=!sz X.K (oL (eT D.int) tk))) (a1:↑(A[i1]?=!sv X.K (D.int bits))) (a2:↑(A[i2]?=!.g (pa X.K Z2 (oDK D.int Hc)))) (a4:↑(A[i4]?=!.g (pa X.K Z4 (oDK D.bl Qc))))
  (hx:↑(X.xe=λM M=>False)) (hg:↑(Gl X "settle")) (s0:↑(AG [e0,e1,e2,e3,e4] X.env=(false,A2 e0 X.env) :: AG [e1,e2,e3,e4] X.env)) (s1:↑(AG [e1,e2,e3,e4] X.env=(false,A2 e1 X.env) :: AG [e2,e3,e4] X.env)) (s2:↑(AG [e2,e3,e4] X.env=(false,A2 e2 X.env) :: AG [e3,e4] X.env)) (s3:↑(AG [e3,e4] X.env=(false,A2 e3 X.env) :: AG [e4] X.env)) (s4:↑(AG [e4] X.env=(false,A2 e4 X.env) :: AG [] X.env)) (S:↑((Cv pos (AG [e1,e2,e3,e4] X.env)).any (·.1)=false))
  (he:autoParam (∀l,KN (.Call (.Name "settle" pc) [e0,e1,e2,e3,e4] [] pos) X.env l=(do let v <-l;JD (Expr.Call (.Name "settle" pc) [e0,e1,e2,e3,e4] [] pos).pos;F7 [v] (NZ v))) yq2q) :
  VBw X A (.Call (.Name "settle" pc) [e0,e1,e2,e3,e4] [] pos) (p3*>λg=>st Hc g Qc) (λs=>(A.set i2 (.g (pa X.K Z2 (oDK D.int s.1)))).set i4 (.g (pa X.K Z4 (oDK D.bl s.2)))):=λz hz=>by
 let#[g,q1,q2]:=AS hz;refine(QI (TN (E:=k8 noE) (F Hc g Qc) (hr.mono hk) hg T.em.m T.em.kp T.em.b .nil (good_none hx).pass (Bn h0 (Bn h1 (Bn h2 (Bn (h3 g q1) (Bn h4 Du s4) s3) s2) s1) s0) (by rfl) s0 S) he).imp ?_;rintro σ H Q ⟨H0,F,⟨G,C⟩,kq⟩;let#[t,t1,t2]:=Vs.at #[G,C] a0;let#[b,b1,b2]:=Vs.at #[G,C] a1;let b3:=b2 H Kp.refl.fr;cases b3;let#[y2,c1,c2]:=C.atG a2
 let#[h,rfl,c3,U,c5]:=c2 H Kp.refl.fr λM M=>rfl
 let#[y4,d1,d2]:=C.atG a4
 let#[s,rfl,d3,d4,d5]:=d2 H Kp.refl.fr λM M=>rfl
 let J:G i2 h:=by rw[c3]
 let N:G i4 s:=by rw[d3]
 let Y:h≠s:=λc=>tq (C.ds i2 i4 h J (c▸N))
 refine#[_,t1,_,b1,_,c1,H0,F,#[G,C],λy H1 I r1=>?_];cases r1;let Z:=C.grow I;let c6:=I.ob U;let d6:=I.ob d4;refine#[_,d1,t,h,s,z,rfl,q2,Y,c6,d6,λH' O=>?_,λH' O oh os=>#[z.1,rfl,?_]]
 ·refine t2 H' #[λa P e=>?_,λa ob u e=>?_,λa o f e=>?_]
  ·exact O a _ (by rw[Ig (λw=>by rw[w]at e;exact(Ib U).1 P e) (λw=>by rw[w]at e;exact(Ib d4).1 P e)];exact I a _ e)
  ·exact O a _ (by rw[Ig (λw=>by rw[w]at e;exact(Ib U).2 _ _ e) (λw=>by rw[w]at e;exact(Ib d4).2 _ _ e)];exact I a _ e)
  ·exact O a _ (by rw[Ig (show a≠h from λw=>(C.gn i2 h J).1 (by ext)) (show a≠s from λw=>(C.gn i4 s N).1 ∅)];exact I a _ e)
 ·let gL:∀j a,(a=h∨a=s)->G j a->j=i2∨j=i4:=λj a c z=>c.elim (λw=>.inl (C.ds j i2 a z (w▸J))) λw=>.inr (C.ds j i4 a z (w▸N))
  let#[v1,f1]:=WB (L:=λa=>a=h∨a=s) (B:=(A.set i2 (.g (pa X.K Z2 (oDK D.int z.2.1)))).set i4 (.g (pa X.K Z4 (oDK D.bl z.2.2)))) Z (λa c=>c.elim (λw=>w▸(Z.gn i2 h J).1) λw=>w▸(Z.gn i4 s N).1) (λa o e n=>O a o (by rw[Ig (λw=>n (.inl w)) (λw=>n (.inr w))];exact e))
   (λa P c=>c.elim (λw=>w▸(Ib c6).1 P) λw=>w▸(Ib d6).1 P) (λa ob u c=>c.elim (λw=>w▸(Ib c6).2 ob u) λw=>w▸(Ib d6).2 ob u) (λi a M c=>c.elim (λw=>w▸oh.at) λw=>w▸os.at) (λj t R=>by
    rcases HV R with⟨rfl,rfl,_⟩ | ⟨n4,R⟩
    ·exact .inr #[_,d1,_,rfl,λH2 f w=>#[s,rfl,d3,f.ob (w s N) os,d5]]
    ·rcases HV R with⟨rfl,rfl,_⟩ | ⟨n2,R⟩
     ·exact .inr #[_,c1,_,rfl,λH2 f w=>#[h,rfl,c3,f.ob (w h J) oh,c5]]
     ·exact .inl #[R,λa c w=>(gL j a c w).elim (λu=>n2 u.symm) λu=>n4 u.symm])
  exact kq _ H' #[G,v1] (I.fe.trans f1)
end
def Ht(o:¬Z')(bits:Int)(st:¬YP->Int->¬(Int×Bool)->⇑(Bool×HQ))(j:¬YP)(g:Int)(m:¬(Int×Bool)):⇑(Fw (Bool×HQ) Unit):=
 AU ((atI o g*>λl=>Bu l (λx=>((Ir bits x*>λy=>!BE y (1:Int))*>λy=>!y != 0)*>λb=>if b=true then !not (AR m x).isSome else !false) (λx=>!x))*>λw=>!.nx w) λw=>
 AU (BW w () λ(_:Unit) x=>if (not (AR j x).isSome) then AU (B4 j x g*>λl=>!.nx l) λl=>!.rt (true,l,m)else !.nx ()) λG=>
 AU (BW w (j,m) λ(s:HQ) x=>if (not (AR s.2 x).isSome) then AU (B4 s.2 x true*>λl=>!.nx l) λq=>((AR s.1 x*>λA=>st s.1 A q)*>λv=>if v.1 then AU (B4 v.2.1 x g*>λl=>!.nx l) λl=>!.rt (true,l,v.2.2)else !.nx v.2)else !.nx s) λs=>!.rt (false,s.1,s.2)
def FE(j:¬Z')(bits:Int):Nat->¬YP->Int->¬(Int×Bool)->⇑(Bool×HQ)
 | 0,_,_,_=>none
 | n+1,H,g,Q=>Bx (Ht j bits (FE j bits n) H g Q)
section
variable{P:Ao}{w:A3}{K:AB}{mg:Str->⇑AE}{base:BG}{W:Wd}
theorem mF{X:Cx}{A:¬Sl}{e:Expr}{pos:Pos}{m:Type}{B:m->¬Sl}{b:Bool}{l:¬YP}{q:¬(Int×Bool)}{h s:AL}(o:VE X A e (rV X.K D.bl) (!b))(C:↑(A[2]?=!sx X.K h (oDK D.int l)))(E:↑(A[4]?=!sx X.K s (oDK D.bl q))):VS X A (.Return (!e) pos) (RS X.K h s) (!.rt (b,l,q)) B:=
 XV (g:=λb=>(b,l,q)) o λv J L F H x N j kp r=>by
  let#[_,_,G,I,_]:=j.put C;let#[_,_,d4,d5,_]:=j.put E;subst I d5;cases r;exact#[rfl,kp.ob G,kp.ob d4]
theorem bM(T:Txt K mg W)(L:¬Z')(bits:Int):∀n O g R,Czq P w K mg base n T.em.f T.em.fd ["takes", "bits", "holders", "guard", "seen"] (spS K L bits O g R (FE L bits n O g R)):=by
 intro n
 induction n with
 | zero=>intro O g R;exact#[by rintro vs H Q E ⟨_,_,_,_,_,z,_⟩;exact(nomatch z),by rintro A S s H args us vs Q E hr e0 hb r ⟨_,_,_,_,_,z,_⟩;exact(nomatch z)]
 | succ n ih=>
  intro O g R;let#[oc,od,kV,doc,pm,an,t4,ct,uz,Ϩ,lk,tR]:=T.em.F.ex;rw[Ϩ]at lk ⊢;let Sc:Hk ["takes", "bits", "holders", "guard", "seen", "wanted", "place"] ["takes", "bits", "holders", "guard", "seen"] (By Ke):=En;refine SJ lk tR Sc (by rintro vs H Q E ⟨_,_,_,_,e,_⟩;rw[e];rfl) ?_;rintro A S s H vs Q E hr ⟨t,h,m,r,e,Y,tq,oh,os,ht,hq⟩;subst e
  let vk:Ht L bits (FE L bits n) O g R=!.rt r:=by
   let Y:Bx (Ht L bits (FE L bits n) O g R)=!r:=Y;unfold Bx at Y;split at Y
   ·ext
   ·cases Y
  let nd:(["takes", "bits", "holders", "guard", "seen", "wanted", "place"]:¬Str).Nodup:=Sc.nd;let U:=hr.units
  let hv:Vs (Qp H h m) [sz K (oL (eT D.int) L),sv K (D.int bits),sx K h (oDK D.int O),sv K (D.int g),sx K m (oDK D.bl R),.u,.u] (L2.start ["takes", "bits", "holders", "guard", "seen", "wanted", "place"] [t,.int bits,.ref h,.int g,.ref m]) (λa=>∃o,Qp H h m a=!o) H:=by
   let fe:∀a o,Qp H h m a=!o->H a=!o:=λa o z=>(OA z).2.2
   let kp':∀{H'},Fr (λa=>∃o,Qp H h m a=!o) H H'->Kp (Qp H h m) H':=λf a o z=>f.fix a o #[o,z] (fe a o z)
   refine#[λi a=>(i=2/\a=h)∨(i=4/\a=m),fe,λa o z=>#[o,z],by rintro a ⟨o,z⟩;exact#[o,fe a o z],λi s G=>?_,λi a z=>?_,λi j a z1 z2=>?_]
   ·match i,G with
    | 0,G=>cases G;exact#[_,rfl,t,rfl,λH' f=>ht H' (kp' f)]
    | 1,G=>cases G;exact#[_,rfl,_,rfl,λH' f=>.int _]
    | 2,G=>cases G;exact#[_,rfl,_,rfl,λH' f z=>#[h,rfl,funext λb=>propext #[λq=>q.elim (λq=>q.2) λq=>zX q.1 (by decide),λq=>.inl #[rfl,q]],f.ob (z h (.inl #[rfl,rfl])) oh,rfl]]
    | 3,G=>cases G;exact#[_,rfl,_,rfl,λH' f=>.int _]
    | 4,G=>cases G;exact#[_,rfl,_,rfl,λH' f z=>#[m,rfl,funext λb=>propext #[λq=>q.elim (λq=>zX q.1 (by decide)) λq=>q.2,λq=>.inr #[rfl,q]],f.ob (z m (.inr #[rfl,rfl])) os,rfl]]
    | 5,G=>cases G;exact#[_,rfl,trivial]
    | 6,G=>cases G;exact#[_,rfl,trivial]
    | _+7,G=>cases G
   ·rcases z with⟨_,rfl⟩ | ⟨_,rfl⟩
    ·exact#[by rintro⟨o,z⟩;exact(OA z).1 rfl,oh.at]
    ·exact#[by rintro⟨o,z⟩;exact(OA z).2.1 rfl,os.at]
   ·lia
  let hb:VSs (Qm (CXG P w) P w K mg base ["takes", "bits", "holders", "guard", "seen", "wanted", "place"] "settle" (By Ke) T.em.f t4 A S s H E).q [sz K (oL (eT D.int) L),sv K (D.int bits),sx K h (oDK D.int O),sv K (D.int g),sx K m (oDK D.bl R),.u,.u] (FI Ke) (RS K h m) (Ht L bits (FE L bits n) O g R) (λM=>[]):=by
   unfold Ht
   exact Ac (Rs (i:=5) (Xl (own:=["place"]) (N':=["place", ".1", "bits", ".3", ".4", "seen", ".6", ".7"]) (Jx (by kernel_rfl)) (Io (Hs (Cr (pv 0)) (vv 3))) (λM M M M M M=>pgn 0 (by decide +kernel:(["place", ".1", "bits", ".3", ".4", "seen", ".6", ".7"]:¬Str).Nodup)) LC (λx=>by exact(.drop (.same (.same (.same (.same (.same (.same (.same .nil)))))))))
     (λx M M M M M M=>Jj (Yv (V9 (PB (LF (WC (vv 2) (vv 0)) A1)) (Sr (Mx dkK (hu1 U) (vv 0) (Mt (pv 5))))))) (λx M M M M M M=>au (pv 0)))) λZ=>
    Ac (FP (s0:=()) (B:=λ(_:Unit)=>[sz K (oL (eT D.int) L),sv K (D.int bits),sx K h (oDK D.int O),sv K (D.int g),sx K m (oDK D.bl R),sy K (oL D.int Z),.u]) (Hh (pv 5)) (pgn 6 nd) CB Wk.refl λM x=>
     Aq (Ha (B:=λ(_:Unit)=>[sz K (oL (eT D.int) L),sv K (D.int bits),sx K h (oDK D.int O),sv K (D.int g),sx K m (oDK D.bl R),sy K (oL D.int Z),.u]) (Mx dkK (hu1 U) (vv 6) (Mt (pv 2))) (Ac (Fd dkK (hu1 U) (pv 2) (vv 6) (vv 3)) λl=>Aq (mF Lu)) (Ci ∅)))
     λM=>
    Ac (FP (s0:=(O,R)) (B:=λ(s:HQ)=>[sz K (oL (eT D.int) L),sv K (D.int bits),sx K h (oDK D.int s.1),sv K (D.int g),sx K m (oDK D.bl s.2),sy K (oL D.int Z),.u]) (Hh (pv 5)) (pgn 6 nd) CB Wk.refl λs x=>
     Aq (Ha (B:=λ(s:HQ)=>[sz K (oL (eT D.int) L),sv K (D.int bits),sx K h (oDK D.int s.1),sv K (D.int g),sx K m (oDK D.bl s.2),sy K (oL D.int Z),.u]) (Mx dkK (hu1 U) (vv 6) (Mt (pv 4)))
      (Ac (Fd dkK (hu1 U) (pv 4) (vv 6) Lu) λq=>Aq (aZ (q:=λ(v:HQ)=>AU (B4 v.1 x g*>λl=>!.nx l) λl=>!.rt (true,l,v.2)) (r:=λ(v:HQ)=>!.nx v) (C:=λ(s:HQ)=>[sz K (oL (eT D.int) L),sv K (D.int bits),sx K h (oDK D.int s.1),sv K (D.int g),sx K m (oDK D.bl s.2),sy K (oL D.int Z),.u]) (WF (Z2:=λa=>a=h) (Z4:=λa=>a=m) T ih hr (AM n) (pv 0) (pv 1) (pv 2) (IU dkK (hu1 U) (Mt (pv 2)) (vv 6)) (pv 4) (by decide)) (λv=>Ac (Fd dkK (hu1 U) (pv 2) (vv 6) (vv 3)) λl=>Aq (mF Lu)) (λv=>Ci ∅)))
      (Ci ∅))) λs=>Aq (mF Lu)
  let hb:=hb _ vk;refine#[_,λζ s' σ H' D I q=>Da (hb ζ s' σ H' D (I.with _) q) (λfl s1 z=>?_) λe s1 z=>z.elim,Qp H h m,_,hv,by rintro x H' kp ⟨h1,h2,h3⟩;ext]
  cases fl with
  | next=>let#[N,X,J,z]:=z;exact#[N,X,J.without,z]
  | brk=>let#[N,X,J,z]:=z;exact#[N,X,J.without,z]
  | cont=>let#[N,X,J,z]:=z;exact#[N,X,J.without,z]
  | ret u=>let#[v,N,X,J,r,z]:=z;exact#[v,N,X,J.without,r,z]
end
open L2 L7
open L4 (Fw AU BW Bx Jq BQ AS eT eP oL oDK Bu B4 Ir G6 Od hb Qb OR OY Fm Ts Tt CN)
def Tk(j:¬Z')(g:Int):Z':=(atI j g).getD []
theorem PL{j m:Type}[DecidableEq j]{l o:¬(j×m)}{k:j}{v:m}(h:B4 l k v=!o):-l < 1000000/\o=Cz l k v:=by
 unfold B4 at h;ext
section
variable{α σ ρ:Type}{l:¬α}{x:α}{s s':σ}{q:σ->α->⇑(Fw ρ σ)}
theorem MP(h:q s x=!.nx s'):BW (x :: l) s q=BW l s' q:=by
 conv=>lhs;unfold BW
 rw[h]
theorem W3{r:ρ}(h:q s x=!.rt r):BW (x :: l) s q=!.rt r:=by
 conv=>lhs;unfold BW
 rw[h]
theorem dZ(h:q s x=none):BW (x :: l) s q=none:=by
 conv=>lhs;unfold BW
 rw[h]
end
theorem rM{H:¬YP}{Q:¬(Int×Bool)}{g:Int}:∀(w:Z'),BW w () (λ(_:Unit) x=>if (not (AR H x).isSome) then AU (B4 H x g*>λl=>!.nx l) λl=>!.rt (true,l,Q)else !.nx ())=match w.find? (λx=>not (AR H x).isSome)with
 | some x=>B4 H x g*>λl=>!.rt (true,l,Q)
 | none=>!(Fw.nx ():Fw (Bool×HQ) Unit):=by
 intro w
 induction w with
 | nil=>rfl
 | cons x w j=>
  rw[CV]
  cases c:not (AR H x).isSome with
  | true=>
   symm
   cases e:B4 H x g with
   | none=>exact dZ (by rw[c,qX rfl,e];rfl)
   | some l=>exact W3 (by rw[c,qX rfl,e];rfl)
  | false=>exact(MP (by rw[c];rfl)).trans j
theorem WV{j:¬Z'}{bits:Int}(Z:∀t∈j,t.length<=1000/\∀x∈t,0<=x):∀(n:Nat) (H:¬YP) (g:Int) (Q:¬(Int×Bool)) (z:Bool×HQ),G6 (Tk j) bits n H g Q=!z->0<=g/\g < -j->(∀x a,AR H x=!a->0<=a/\a < -j)->(∀x a,AR z.2.1 x=!a->0<=a/\a < -j)/\FE j bits n H g Q=!z:=by
 intro n
 induction n with
 | zero=>intro H g Q z A;cases A
 | succ n ih=>
  intro H g Q z A R L;unfold G6 at A;obtain⟨t,N,-⟩:=Ts R.1 R.2;let tm:=Z t (Tt N)
  let ht:Tk j g=t:=by unfold Tk;rw[N];rfl
  rw[ht]at A
  let S:∀(H:¬YP) (x:Int),(∀x a,AR H x=!a->0<=a/\a < -j)->∀y a,AR (Cz H x g) y=!a->0<=a/\a < -j:=λH x L y a e=>by
   rw[CN]at e;split at e
   ·ext
   ·exact L y a e
  let T:Bu t (λx=>((Ir bits x*>λy=>!BE y (1:Int))*>λy=>!y != 0)*>λb=>if b=true then !not (AR Q x).isSome else !false) (λx=>!x)=!(t.filter λx=>hb bits x&&not (AR Q x).isSome):=Fm ∅ λx hx=>by
   rw[show Ir bits x=!bits / 2 ^ x.toNat from qX (tm.2 x hx)];show(if hb bits x then _ else _)=_
   cases hb bits x <;> rfl
  generalize t.filter (λx=>hb bits x&&not (AR Q x).isSome)=w at A T
  let lp:∀(r:Z') (m:¬YP) (o:¬(Int×Bool)),(∀x a,AR m x=!a->0<=a/\a < -j)->Od (G6 (Tk j) bits n) g r m o=!z->(∀x a,AR z.2.1 x=!a->0<=a/\a < -j) /\
    AU (BW r (m,o) λ(s:HQ) x=>if (not (AR s.2 x).isSome) then AU (B4 s.2 x true*>λl=>!.nx l) λq=>((AR s.1 x*>λC=>FE j bits n s.1 C q)*>λv=>if v.1 then AU (B4 v.2.1 x g*>λl=>!.nx l) λl=>!.rt (true,l,v.2.2)else !.nx v.2)else !.nx s) (λs=>!.rt (false,s.1,s.2))=!(Fw.rt z:Fw (Bool×HQ) Unit):=by
   intro r
   induction r with
   | nil=>intro m o G e;cases e;exact#[G,rfl]
   | cons x r I=>
    intro m o G e;unfold Od at e
    cases c:(AR o x).isSome with
    | true=>
     rw[qX c]at e;rw[MP (s':=(m,o)) (by ext)];exact I m o G e
    | false=>
     rw[qY ∅]at e;let#[U,b1,e]:=AS e;let#[C,b2,e]:=AS e;let#[E,b3,e]:=AS e;let#[X,h2]:=ih m C U E b3 (G x C b2) G
     let B:(if (not (AR (m,o).2 x).isSome) then AU (B4 (m,o).2 x true*>λl=>!.nx l) λq=>((AR (m,o).1 x*>λC=>FE j bits n (m,o).1 C q)*>λv=>if v.1 then AU (B4 v.2.1 x g*>λl=>!.nx l) λl=>!.rt (true,l,v.2.2)else !.nx v.2)else !.nx (m,o))=(if E.1 then AU (B4 E.2.1 x g*>λl=>!.nx l) λl=>!.rt (true,l,E.2.2)else !(Fw.nx E.2:Fw (Bool×HQ) HQ)):=by
      symm;rw[c,b1,b2];show(FE j bits n m C U*>λv=>if v.1 then AU (B4 v.2.1 x g*>λl=>!.nx l) λl=>!.rt (true,l,v.2.2)else !.nx v.2)=_;rw[h2];rfl
     cases O:E.1 with
     | true=>
      rw[qX O]at e;let#[H',J,P]:=AS e;cases P;rw[W3 (B.trans (by rw[O,qX rfl,J];rfl))];refine#[?_,rfl];rw[(PL J).2];exact S _ x X
     | false=>
      rw[qY (by ext)]at e;rw[MP (B.trans (by rw[O];rfl))];exact I _ _ X e
  show _/\Bx (Ht j bits (FE j bits n) H g Q)=!z;unfold Ht;rw[N];show _/\Bx (AU (Bu t _ _*>λw=>!.nx w) _)=!z;rw[T];show _/\Bx (AU (BW w () _) _)=!z;rw[rM]
  cases Y:w.find? (λx=>not (AR H x).isSome)with
  | some x=>
   rw[Y]at A;let#[H',J,P]:=AS A;cases P;symm;rw[J];refine#[?_,rfl];rw[(PL J).2];exact S _ x L
  | none=>
   rw[Y]at A;let#[a1,a2]:=lp w H Q L A;refine#[a1,?_];show Bx (AU (BW w (H,Q) _) _)=!z;rw[a2];rfl
section
variable{X:Cx}{A:¬Sl}{e0 e1 e2 e3:Expr}{pc pos pd:Pos}{W:Wd}{k k':Nat}{tk:¬Z'}{bits:Int}{Hc:¬YP}{st:¬YP->Int->¬(Int×Bool)->⇑(Bool×HQ)}{i0 i1 i2:Nat}{Z2:AL->Prop}{p3:⇑Int}
theorem UX(T:Txt X.K X.mg W)(F:∀H g Q,Ca X.prog X.w X.K X.mg X.base (CXG X.prog X.w) k T.em.f T.em.fd ["takes", "bits", "holders", "guard", "seen"] (spS X.K tk bits H g Q (st H g Q))) (hr:FK k' X.A) (hk:k<=k')
  (h0:PE X e0 (DI i0)) (h1:PE X e1 (DI i1)) (h2:PE X e2 (DI i2)) (h3:VE X A e3 (XP X) p3)
  (a0:↑(A[i0]?=!sz X.K (oL (eT D.int) tk))) (a1:↑(A[i1]?=!sv X.K (D.int bits))) (a2:↑(A[i2]?=!.g (pa X.K Z2 (oDK D.int Hc))))
  (hx:↑(X.xe=λM M=>False)) (hg:↑(Gl X "settle")) (s0:↑(AG [e0,e1,e2,e3,.Dict [] [] pd] X.env=(false,A2 e0 X.env) :: AG [e1,e2,e3,.Dict [] [] pd] X.env)) (s1:↑(AG [e1,e2,e3,.Dict [] [] pd] X.env=(false,A2 e1 X.env) :: AG [e2,e3,.Dict [] [] pd] X.env)) (s2:↑(AG [e2,e3,.Dict [] [] pd] X.env=(false,A2 e2 X.env) :: AG [e3,.Dict [] [] pd] X.env)) (s3:↑(AG [e3,.Dict [] [] pd] X.env=(false,A2 e3 X.env) :: AG [.Dict [] [] pd] X.env)) (s4:↑(AG [.Dict [] [] pd] X.env=(false,A2 (.Dict [] [] pd) X.env) :: AG [] X.env)) (S:↑((Cv pos (AG [e1,e2,e3,.Dict [] [] pd] X.env)).any (·.1)=false))
  (he:autoParam (∀l,KN (.Call (.Name "settle" pc) [e0,e1,e2,e3,.Dict [] [] pd] [] pos) X.env l=(do let v <-l;JD (Expr.Call (.Name "settle" pc) [e0,e1,e2,e3,.Dict [] [] pd] [] pos).pos;F7 [v] (NZ v))) yq2q) :
  VBw X A (.Call (.Name "settle" pc) [e0,e1,e2,e3,.Dict [] [] pd] [] pos) (p3*>λg=>st Hc g []*>λz=>!(z.1,z.2.1)) (λs=>A.set i2 (.g (pa X.K Z2 (oDK D.int s)))):=λz' J=>by
 let#[g,q1,J]:=AS J;let#[z,q2,J]:=AS J;cases J;refine(QI (TN (E:=k8 noE) (F Hc g []) (hr.mono hk) hg T.em.m T.em.kp T.em.b .nil (good_none hx).pass (Bn h0 (Bn h1 (Bn h2 (Bn (h3 g q1) (Bn Uy Du s4) s3) s2) s1) s0) (by rfl) s0 S) he).imp ?_;rintro σ H Q ⟨H0,F,⟨G,C⟩,kq⟩;let#[t,t1,t2]:=Vs.at #[G,C] a0;let#[b,b1,b2]:=Vs.at #[G,C] a1;let b3:=b2 H Kp.refl.fr;cases b3;let#[y2,c1,c2]:=C.atG a2
 let#[h,rfl,c3,N,c5]:=c2 H Kp.refl.fr λM M=>rfl
 let R:G i2 h:=by rw[c3]
 refine#[_,t1,_,b1,_,c1,H0,F,#[G,C],λy H1 I r1=>?_];cases r1;intro s ϩ;let O:=I.trans (BH (o:=.dK []) ϩ);let vO:=C.grow O;let c6:=O.ob N;let d6:OB X.K (upd H1 s (.dK [])) s (oDK D.bl []):=#[[],Ap,.nil]
 let U:h≠s:=λc=>by let#[u,hu]:=(I.ob N).at;ext
 let n0:H s=none:=by
  cases e:H s with
  | none=>rfl
  | some o=>rw[I s o e]at ϩ;cases ϩ
 refine#[t,h,s,z,rfl,q2,U,c6,d6,λH' P=>?_,λH' P oh os=>#[z.1,rfl,?_]]
 ·refine t2 H' #[λa Y e=>?_,λa ob u e=>?_,λa o f e=>?_]
  ·exact P a _ (by rw[Ig (λw=>by rw[w]at e;exact(Ib N).1 Y e) (λw=>by ext)];exact O a _ e)
  ·exact P a _ (by rw[Ig (λw=>by rw[w]at e;exact(Ib N).2 _ _ e) (λw=>by ext)];exact O a _ e)
  ·exact P a _ (by rw[Ig (show a≠h from λw=>(C.gn i2 h R).1 ∅) (λw=>by lia)];exact O a _ e)
 ·let kk:∀a o,H1 a=!o->a≠h->H' a=!o:=λa o e n=>P a o (by rw[Ig n (λw=>by lia),AQ (λw=>by lia)];exact e)
  let vQ:=C.grow I;let c7:=I.ob N
  let#[v1,f1]:=WB (H':=H') (L:=λa=>a=h) (B:=A.set i2 (.g (pa X.K Z2 (oDK D.int z.2.1)))) vQ (λa c=>c▸(vQ.gn i2 h R).1) (λa o e n=>kk a o e n)
   (λa Y c=>c▸(Ib c7).1 Y) (λa ob u c=>c▸(Ib c7).2 ob u) (λi a M c=>c▸oh.at) (λj t Z=>by
    rcases HV Z with⟨rfl,rfl,_⟩ | ⟨n2,Z⟩
    ·exact .inr #[_,c1,_,rfl,λH2 f w=>#[h,rfl,c3,f.ob (w h R) oh,c5]]
    ·exact .inl #[Z,λa c w=>n2 (C.ds i2 j a (c▸R) w)])
  exact kq _ H' #[G,v1] (I.fe.trans f1)
end
def TB(j:Z')(bits:Int)(st:¬YP->Int->¬(Int×Bool)->⇑(Bool×HQ)):⇑(Fw Bool Unit):=
 AU (!.nx []) λv=>AU (BW j v λ(s:¬YP) x=>((Ir bits x*>λy=>!BE y (1:Int))*>λy=>!y != 0)*>λb=>if b=true then BQ (λl=>l) (B4 s x x*>λl=>!.nx l)else !.nx s) λs=>
  AU (BW j s λ(s:¬YP) x=>((((Ir bits x*>λy=>!BE y (1:Int))*>λy=>!y != 0)*>λb=>!not b)*>λb=>if b=true then(st s x []*>λz=>!(z.1,z.2.1)).bind λv=>!(not v.1,v.2)else !(false,s))*>λv=>if v.1 then !.rt false else !.nx v.2) λG=>!.rt true
section
variable{P:Ao}{w:A3}{K:AB}{mg:Str->⇑AE}{base:BG}{W:Wd}
theorem gu(T:Txt K mg W)(j:¬Z')(m:Z')(bits:Int):T' P w base T.wv 10 ["takes", "guards", "bits"] (spV [aO K (oL (eT D.int) j),aV K (eT D.int m),aV K (D.int bits)] (rV K D.bl) (Bx (TB m bits (FE j bits 9)))):=by
 unfold TB
 exact fnV (N:=["takes", "guards", "bits", "holders", "guard"]) (B:=λG=>[]) T.wv.F En rfl λG G G G G G A E o=>
  Ac (D1 3 (IT dkK)) λv=>
  Ac (FP (s0:=v) (B:=λ(s:¬YP)=>[sz K (oL (eT D.int) j),sv K (eT D.int m),sv K (D.int bits),sw K (oDK D.int s),.u]) (Io (vv 1)) (pgn 4 o) CB Wk.refl λs x=>
   Aq (Ha (B:=λ(s:¬YP)=>[sz K (oL (eT D.int) j),sv K (eT D.int m),sv K (D.int bits),sw K (oDK D.int s),.u]) (PB (LF (WC (vv 2) (vv 4)) A1)) (Aq (DQ (Fd dkK (hu1 E) (pv 3) (vv 4) (vv 4)) λl=>by exact Ws.wk (.same (.same (.same (.same (.drop .nil))))))) (Ci ∅))) λs=>
  Ac (FP (s0:=s) (B:=λ(s:¬YP)=>[sz K (oL (eT D.int) j),sv K (eT D.int m),sv K (D.int bits),sw K (oDK D.int s),.u]) (Io (vv 1)) (pgn 4 o) CB Wk.refl λs x=>
   Aq (aZ (B:=λ(s:¬YP)=>[sz K (oL (eT D.int) j),sv K (eT D.int m),sv K (D.int bits),sw K (oDK D.int s),sv K (D.int x)]) (q:=λ(_:¬YP)=>!.rt false) (r:=λ(v:¬YP)=>!.nx v) (C:=λ(s:¬YP)=>[sz K (oL (eT D.int) j),sv K (eT D.int m),sv K (D.int bits),sw K (oDK D.int s),.u])
    (gf (s0:=s) (KW (PB (LF (WC (vv 2) (vv 4)) A1))) (ge (UX (Z2:=λG=>True) T (bM T j bits 9) A (by ext) (pv 0) (pv 2) (pv 3) (vv 4))) Wk.refl)
    (λv=>Aq (CW Lu upV)) (λv=>Ci ∅))) λG=>Aq (CW Lu upV)
end
theorem db{j:¬Z'}{bits:Int}{o:Z'}{b:Bool}(R:∀t∈j,t.length<=1000/\∀x∈t,0<=x)(w:∀g∈o,0<=g/\g < -j)(O:Qb (Tk j) bits 9 o=!b):Bx (TB o bits (FE j bits 9))=!b:=by
 let bit:∀x:Int,0<=x->((Ir bits x*>λy=>!BE y (1:Int))*>λy=>!y != 0)=!hb bits x:=λx A=>by
  rw[show Ir bits x=!bits / 2 ^ x.toNat from qX A];rfl
 unfold Qb at O;let#[I,S,T]:=AS O
 let U:∀(r:Z') (H:¬YP),(∀g∈r,0<=g/\g < -j)->OR bits r H=!I->(∀x a,AR H x=!a->0<=a/\a < -j)->(∀x a,AR I x=!a->0<=a/\a < -j)/\BW r H (λ(s:¬YP) x=>((Ir bits x*>λy=>!BE y (1:Int))*>λy=>!y != 0)*>λb=>if b=true then BQ (λl=>l) (B4 s x x*>λl=>!.nx l)else !.nx s)=!(Fw.nx I:Fw Bool (¬YP)):=by
  intro r
  induction r with
  | nil=>intro H _ e m;cases e;exact#[m,rfl]
  | cons x r C=>
   intro H E e m;let A:=E x (Aa ..)
   let G:∀g∈r,0<=g/\g < -j:=λg w=>E g (AN _ w)
   unfold OR at e;let J:=bit x A.1
   cases c:hb bits x with
   | true=>
    rw[qX c]at e;let#[P,L,B]:=AS e;rw[MP (s':=P) (by rw[J,c,L];rfl)]
    refine C P G B λy a z=>?_
    rw[(PL L).2,CN]at z;split at z
    ·ext
    ·exact m y a z
   | false=>
    rw[qY (by ext)]at e;rw[MP (s':=H) (by rw[J,c];rfl)];exact C H G e m
 let X:∀(r:Z') (H:¬YP),(∀g∈r,0<=g/\g < -j)->OY (Tk j) bits 9 r H=!b->(∀x a,AR H x=!a->0<=a/\a < -j)->Bx (AU (BW r H λ(s:¬YP) x=>((((Ir bits x*>λy=>!BE y (1:Int))*>λy=>!y != 0)*>λb=>!not b)*>λb=>if b=true then(FE j bits 9 s x []*>λz=>!(z.1,z.2.1)).bind λv=>!(not v.1,v.2)else !(false,s))*>λv=>if v.1 then !.rt false else !.nx v.2) λM=>!(Fw.rt true:Fw Bool Unit))=!b:=by
  intro r
  induction r with
  | nil=>intro H _ e m;cases e;rfl
  | cons x r C=>
   intro H E e m;let A:=E x (Aa ..)
   let G:∀g∈r,0<=g/\g < -j:=λg w=>E g (AN _ w)
   unfold OY at e;let J:=bit x A.1
   cases c:hb bits x with
   | true=>
    rw[qX c]at e;rw[MP (s':=H) (by rw[J,c];rfl)];exact C H G e m
   | false=>
    rw[qY ∅]at e;let#[z,L,B]:=AS e;let#[N,Q]:=WV R 9 H x [] z L A m
    cases Y:z.1 with
    | true=>
     rw[qX Y]at B;rw[MP (s':=z.2.1) ∅];exact C _ G B N
    | false=>
     rw[qY (by ext)]at B;cases B;rw[W3 (r:=false) ∅];rfl
 let#[N,Q]:=U o [] w S λx a e=>nomatch e
 unfold TB;show Bx (AU (BW o [] _) _)=_;rw[Q];exact X o I w T N
open Classical in
def QR(j:¬Z')(l:Z')(bits:Int):⇑Bool:=if (∀t∈j,t.length<=1000/\∀x∈t,0<=x)/\∀g∈l,0<=g/\g < -j then Qb (Tk j) bits 9 l else none
set_option tactic.hygienic true in
theorem lU{P:Ao}{w:A3}{K:AB}{o:Str->⇑AE}{base:BG}{W:Wd}(T:Txt K o W)(l:¬Z')(m:Z')(bits:Int):Ca P w K o base (CXG P w) 10 T.wv.f T.wv.fd ["takes", "guards", "bits"] (spV [aO K (oL (eT D.int) l),aV K (eT D.int m),aV K (D.int bits)] (rV K D.bl) (QR l m bits)):=
 (gu T l m bits).imp (by
  rintro vs H Q E ⟨v,j,B⟩;unfold QR at j;split at j
  ·rename_i A
   exact#[v,db A.1 A.2 j,B]
  ·cases j)
open L2 L7
open L4 (Fw AU BW Bx Jq BQ AS eT eP eP3 eF eU oL oDK oDP oDR HG Gg EF FF Kl CA Gf Ir Op Ky MN Bu whF B4 QJ DE FS GK EqN Bo GS GR GT EM Hz Js oFK)
section
variable{P:Ao}{w:A3}{K:AB}{mg:Str->⇑AE}{base:BG}{W:Wd}
def GM(l:(Nat×¬YP))(j:Int):⇑(Fw Unit Unit):=
 ((if decide ((0:Int)<=j) then !decide (j < (l.1:Int))else !false)*>λm=>!not m)*>λo=>if o=true then none else !.nx ()
def Es(j:(Nat×¬YP))(l:Int):⇑Unit:=Jq (GM j l)
theorem Mz(T:Txt K mg W)(j:(Nat×¬YP))(l:Int):T' P w base T.Ty 1 ["web", "place"] (spV [aO K ((HW W) j),aV K (D.int l)] (rV K eU) (Es j l)):=by
 unfold Es GM
 exact fnU (N:=["web", "place"]) (B:=λG=>_) T.Ty.F En rfl λG G G G G G m o A=>(Aq (HU (KW (Pu Uz cX A1 (vv 1) (Jl (ob:=HW W) (g:=λw=>(w.1:Int)) (ec:=D.int) T.gg.cl T.mo (Cr (pv 0)) (λw=>#[_,rfl,SE _ _ _])))) MF (Ci Wk.refl)))
def We(j:(Nat×¬YP))(l:Int):⇑(Fw Z' Unit):=
 AU (Es j l*>λG=>!.nx ()) λG=>atI (IA j.1 j.2) l*>λm=>!.rt m
def QQ(j:(Nat×¬YP))(l:Int):⇑Z':=Bx (We j l)
theorem lT(T:Txt K mg W)(j:(Nat×¬YP))(l:Int):T' P w base T.XL 2 ["web", "place"] (spV [aO K ((HW W) j),aV K (D.int l)] (rV K (eT D.int)) (QQ j l)):=by
 unfold QQ We
 exact fnV (N:=["web", "place"]) (B:=λG=>[]) T.XL.F En rfl λG G G G G G o A C=>(Ac (gI (C3 (Bi T.Ty (λ(m:(Nat×¬YP)×Int×Unit)=>Mz T m.1 m.2.1) o (Ct (Cr (pv 0)) arO (Ce (vv 1) Bs)) upV))) (λG=>(Aq (CW (S4 (Jl (ob:=HW W) (g:=λw=>IA w.1 w.2) (ec:=eT (eT D.int)) T.gg.cl T.ww (Cr (pv 0)) (λw=>#[_,rfl,by rw[<-U3];exact rQ _ _ _])) (vv 1)) upV))))
def MJ(m:(Nat×¬YP)):⇑(Fw (¬Z') Unit):=
 ((!(m.1:Int)).bind FF*>λj=>Bu j (λl=>!true) (λl=>((!l :: []).bind EF*>λϪ=>QQ m l*>λo=>Gg Ϫ o)*>λA=>!CH A))*>λB=>!.rt B
def Gy(j:(Nat×¬YP)):⇑(¬Z'):=Bx (MJ j)
theorem WH(T:Txt K mg W)(j:(Nat×¬YP)):T' P w base T.aaa 3 ["web"] (spV [aO K ((HW W) j)] (rN K (oL (eT D.int))) (Gy j)):=by
 unfold Gy MJ
 exact fnV (N:=["web"]) (B:=λG=>[]) T.aaa.F En rfl λG G G G G G m A C=>(Aq (CW (vc (N':=["place", "web"]) (Dy T.dl (Jl (ob:=HW W) (g:=λw=>(w.1:Int)) (ec:=D.int) T.gg.cl T.mo (Cr (pv 0)) (λw=>#[_,rfl,SE _ _ _]))) (λo G G G G G G=>Ea) (λo G G G G G G=>(Gv T.u8 (Fo (Nm T.ss (LD (Hr (EZ (vv 0) DH)) (C3 (Bi T.XL (λ(l:(Nat×¬YP)×Int×Unit)=>lT T l.1 l.2.1) m (Ct (Cr (pv 1)) arO (Ce (vv 0) Bs)) upV)))))))) upN))
def Nz(j:Z'):⇑(Fw Int Unit):=
 AU (!.nx (0:Int)) λl=>AU (BW j l λ(m:Int) o=>BQ (λA=>A) (Gf (1:Int) o*>λB=>!.nx (DL m B))) λC=>!.rt C
def Fq(j:Z'):⇑Int:=Bx (Nz j)
theorem Yy(T:Txt K mg W)(l:Z'):T' P w base T.aab 1 ["some"] (spV [aV K ((eT D.int) l)] (rV K D.int) (Fq l)):=by
 unfold Fq Nz
 exact fnV (N:=["some", "bits", "place"]) (B:=λI=>[]) T.aab.F En rfl λI I I I I I A C m=>(Ac (DP 1 A1) (λo=>(Ac (Ds (s0:=o) 1 (λ(j:Int)=>sv K (D.int j)) (Io (vv 0)) (pgn 2 m) CB (λE G=>(Aq (DQ (Nl 1 YM (Nn A1 (vv 2))) (λH=>∅))))) (λI=>(Aq (CW (vv 1) upV))))))
def Ny(m:Int):⇑(Fw Z' Unit):=
 AU ((![]).bind EF*>λo=>!.nx o) λA=>AU (!.nx m) λB=>AU (whF (λ(j:Z'×Int)=>!j.2 != 0) (λ(j:Z'×Int)=>AU (HG j.1 ((D5 (BE j.2 ((unop% Neg.neg j.2))):Int) - (1:Int))*>λl=>!.nx l) λC=>BQ (λE=>(C,E)) (!.nx (BE j.2 (j.2 - (1:Int))))) wN (A,B)) λG=>!.rt G.1
def JW(j:Int):⇑Z':=Bx (Ny j)
theorem Yx(T:Txt K mg W)(l:Int):T' P w base T.aac 1 ["bits"] (spV [aV K (D.int l)] (rN K (oL D.int)) (JW l)):=by
 unfold JW Ny
 exact fnV (N:=["bits", "told", "left"]) (B:=λJ=>[]) T.aac.F En rfl λJ J J J J J G H I=>(Ac (D1 1 (FQ DH)) (λo=>(Ac (DP 2 (vv 0)) (λA=>(Ac (Ys (s0:=(o,A)) 1 (λ(j:Z'×Int)=>sw K ((oL D.int) j.1)) 2 (λ(j:Z'×Int)=>sv K (D.int j.2)) wN (λC=>(PB (vv 2))) (λC=>(Ac (MG (pv 1) (Ip (gc (LF (vv 2) (Pr (vv 2)))) A1)) (λE=>(Aq (GJ (g:=λm=>(E,m)) (Nl 2 nq (Ip (vv 2) A1)) (λm=>Wk.refl))))))) (λJ=>(Aq (Ji (pv 1)))))))))
def Kn(l:Z')(m:Int)(o:Int):⇑(Fw Z' Unit):=
 Bu l (λj=>!true) (λj=>if (decide (j=m)) then !o else !j)*>λA=>!.rt A
def HE(j:Z')(l:Int)(m:Int):⇑Z':=Bx (Kn j l m)
theorem UZ(T:Txt K mg W)(j:Z')(l:Int)(m:Int):T' P w base T.aad 1 ["standing", "guard", "place"] (spV [aV K ((eT D.int) j),aV K (D.int l),aV K (D.int m)] (rV K (eT D.int)) (HE j l m)):=by
 unfold HE Kn
 exact fnV (N:=["standing", "guard", "place"]) (B:=λG=>[]) T.aad.F En rfl λG G G G G G C o E=>(Aq (CW (Gv T.u8 (Fo (vc (N':=["other", ".1", "guard", "place"]) (Io (vv 0)) (λA G G G G G G=>Ea) (λA G G G G G G=>(bB (Lv Bo EM o (vv 0) (vv 2)) (vv 3) (vv 0) upV))))) upV))
def R7(B:Int)(A:Int):⇑(Fw (¬Z') Unit):=
 AU (((![]).bind EF*>λC=>!C :: []).bind EF*>λE=>!.nx E) λG=>AU ((!A).bind FF*>λj=>BW j G λ(H:(¬Z')) I=>AU ((![]).bind EF*>λJ=>!.nx J) λL=>AU (BW H L λ(N:(¬Z')) l=>AU ((if (not l.isEmpty) then(atI l ((unop% Neg.neg (1:Int)))).bind λO=>!O+(1:Int)else !(0:Int))*>λQ=>!.nx Q) λm=>BQ (λR=>R) (Kl m (((B - A)+I)+(1:Int))*>λϫ=>BW ϫ N λ(S:(¬Z')) T=>BQ (λU=>U) (((!T :: []).bind EF*>λX=>Gg l X)*>λϢ=>HG S Ϣ*>λϬ=>!.nx Ϭ))) λϭ=>BQ (λM=>ϭ) (!.nx ())) λo=>!.rt o
def N1(j:Int)(l:Int):⇑(¬Z'):=Bx (R7 j l)
theorem Yw(T:Txt K mg W)(o:Int)(A:Int):T' P w base T.aae 1 ["places", "size"] (spV [aV K (D.int o),aV K (D.int A)] (rN K (oL (eT D.int))) (N1 o A)):=by
 unfold N1 R7
 exact fnV (N:=["places", "size", "told", "step", "longer", "some", "least", "place"]) (B:=λI=>[]) T.aae.F En rfl λI I I I I I L O j=>(Ac (G3 2 (FQ (EZ (Hr DH) DH))) (λC=>(Ac (Ds (s0:=C) 2 (λ(E:(¬Z'))=>sy K ((oL (eT D.int)) E)) (Dy T.dl (vv 1)) (pgn 3 j) CB (λQ R=>(Ac (D1 4 (FQ DH)) (λG=>(Ac (Ds (s0:=G) 4 (λ(l:(¬Z'))=>sw K ((oL (eT D.int)) l)) (Hh (pv 2)) (pgn 5 j) CB (λH S=>(Ac (DP 6 (bB (gh (vv 5)) (FR (S4 (vv 5) (Pr A1)) A1) A1 upV)) (λI=>(Aq (DQ (Ds (s0:=H) 4 (λ(m:(¬Z'))=>sw K ((oL (eT D.int)) m)) (JP T.dl (vv 6) (FR (FR (Ip (vv 0) (vv 1)) (vv 3)) A1)) (pgn 7 j) CB (λU X=>(Aq (DQ (MG (pv 4) (LD (vv 5) (Hr (EZ (vv 7) DH)))) (λY=>∅))))) (λZ=>∅))))))) (λϭ=>(Aq (GJ (g:=λI=>ϭ) (Ss (LB (i:=4) rfl) (Po 2 (pv 4))) (λI=>∅))))))))) (λJ=>(Aq (Ji (pv 2)))))))
def JU(m:Int)(o:Int):⇑(Fw Int Unit):=
 AU (!.nx (1:Int)) λA=>AU ((!o).bind FF*>λj=>BW j A λ(B:Int) l=>BQ (λC=>C) ((Op B (m - l)*>λE=>Ky E (l+(1:Int)))*>λϪ=>!.nx Ϫ)) λG=>!.rt G
def Gx(j:Int)(l:Int):⇑Int:=Bx (JU j l)
theorem Nq(T:Txt K mg W)(l:Int)(m:Int):T' P w base T.aaf 1 ["places", "size"] (spV [aV K (D.int l),aV K (D.int m)] (rV K D.int) (Gx l m)):=by
 unfold Gx JU
 exact fnV (N:=["places", "size", "ways", "step"]) (B:=λG=>[]) T.aaf.F En rfl λG G G G G G C E o=>(Ac (DP 2 A1) (λA=>(Ac (Ds (s0:=A) 2 (λ(j:Int)=>sv K (D.int j)) (Dy T.dl (vv 1)) (pgn 3 o) CB (λG H=>(Aq (DQ (DP 2 (Xg (lM (vv 2) (Ip (vv 0) (vv 3))) (FR (vv 3) A1))) (λI=>∅))))) (λJ=>(Aq (CW (vv 2) upV))))))
def QE(l:(Nat×¬YP))(j:Int):⇑(Fw Int Unit):=
 AU (((if decide ((1:Int)<=j) then !decide (j<=(l.1:Int))else !false)*>λm=>!not m)*>λo=>if o=true then none else !.nx ()) λG=>Gx (l.1:Int) j*>λA=>!.rt A
def MM(j:(Nat×¬YP))(l:Int):⇑Int:=Bx (QE j l)
theorem WI(T:Txt K mg W)(j:(Nat×¬YP))(l:Int):T' P w base T.aag 2 ["web", "guards"] (spV [aO K ((HW W) j),aV K (D.int l)] (rV K D.int) (MM j l)):=by
 unfold MM QE
 exact fnV (N:=["web", "guards"]) (B:=λG=>[]) T.aag.F En rfl λG G G G G G o A C=>(Ac (HU (KW (Pu Uz Uz A1 (vv 1) (Jl (ob:=HW W) (g:=λw=>(w.1:Int)) (ec:=D.int) T.gg.cl T.mo (Cr (pv 0)) (λw=>#[_,rfl,SE _ _ _])))) MF (Ci Wk.refl)) (λG=>(Aq (CW (C3 (Bi T.aaf (λ(m:Int×Int×Unit)=>Nq T m.1 m.2.1) o (Ce (Jl (ob:=HW W) (g:=λw=>(w.1:Int)) (ec:=D.int) T.gg.cl T.mo (Cr (pv 0)) (λw=>#[_,rfl,SE _ _ _])) (Ce (vv 1) Bs)) upV)) upV))))
def OZ(j:(Nat×¬YP))(l:Int):⇑(Fw (¬Z') Unit):=
 AU ((MM j l*>λm=>!decide ((400:Int) < m))*>λo=>if o=true then none else !.nx ()) λG=>N1 (j.1:Int) l*>λA=>!.rt A
def E6(j:(Nat×¬YP))(l:Int):⇑(¬Z'):=Bx (OZ j l)
theorem Ua(T:Txt K mg W)(l:(Nat×¬YP))(m:Int):T' P w base T.aah 3 ["web", "guards"] (spV [aO K ((HW W) l),aV K (D.int m)] (rN K (oL (eT D.int))) (E6 l m)):=by
 unfold E6 OZ
 exact fnV (N:=["web", "guards"]) (B:=λG=>[]) T.aah.F En rfl λG G G G G G o C E=>(Ac (HU (qG (C3 (Bi T.aag (λ(A:(Nat×¬YP)×Int×Unit)=>WI T A.1 A.2.1) o (Ct (Cr (pv 0)) arO (Ce (vv 1) Bs)) upV)) (UW T.LT.choose_spec)) MF (Ci Wk.refl)) (λG=>(Aq (CW (C3 (Bi T.aae (λ(j:Int×Int×Unit)=>Yw T j.1 j.2.1) o (Ce (Jl (ob:=HW W) (g:=λw=>(w.1:Int)) (ec:=D.int) T.gg.cl T.mo (Cr (pv 0)) (λw=>#[_,rfl,SE _ _ _])) (Ce (vv 1) Bs)) upN)) upN))))
end
open L2 L7
open L4 (eT oL oDK oDR)
structure Fp where
 ev:¬Z'
 kd:Str
 tk:¬Z'
 nu:¬(Z'×Int)
 hv:Z'
 pb:Z'
abbrev fdF(a b c h k m:AL)(kd:Str):¬(Str×V):=[("everything",.ref a),("kind",.str kd),("takes",.ref b),("numbers",.ref c),("having",.ref h),("place_bits",.ref k),("known",.ref m)]
def OH(K:AB)(W:Wd)(f:Fp)(H:Hp)(q m:AL):Prop:=∃j a b c h k,H q=!.ins W.Field j (fdF a b c h k m f.kd)/\OB K H a (oL (eT D.int) f.ev)/\OB K H b (oL (eT D.int) f.tk)/\OB K H c (oDR D.int f.nu)/\OB K H h (oL D.int f.hv)/\OB K H k (oL D.int f.pb)
def Q0(K:AB)(W:Wd)(f:Fp)(H:Hp)(y:V):Prop:=∃q m,y=.ref q/\OH K W f H q m
section
variable{K:AB}{W:Wd}
theorem OH.keep{f:Fp}{H H':Hp}{q m:AL}(h:OH K W f H q m)(k:Kp H H'):OH K W f H' q m:=by
 let#[j,a,b,c,l,o,w,A,B,C,E,G]:=h;exact#[j,a,b,c,l,o,k _ _ w,k.ob A,k.ob B,k.ob C,k.ob E,k.ob G]
theorem G8:AtI (Q0 K W) W.Field "everything" λv H y=>∃a,y=.ref a/\OB K H a (oL (eT D.int) v.ev):=by rintro v H x ⟨q,m,e,j,a,b,c,h,k,g,l,_⟩;exact #[q,j,_,_,e,g,rfl,a,rfl,l]
theorem Qa:AtI (Q0 K W) W.Field "takes" λv H y=>∃a,y=.ref a/\OB K H a (oL (eT D.int) v.tk):=λv H x #[q,m,e,j,a,b,c,h,k,g,o,l,_]=>#[q,j,_,_,e,g,rfl,b,rfl,l]
theorem W2:AtI (Q0 K W) W.Field "numbers" λv H y=>∃a,y=.ref a/\OB K H a (oDR D.int v.nu):=by rintro v H x ⟨q,m,e,j,a,b,c,h,k,g,o,w,l,_⟩;exact#[q,j,_,_,e,g,rfl,c,rfl,l]
theorem Za:AtI (Q0 K W) W.Field "having" λv H y=>∃a,y=.ref a/\OB K H a (oL D.int v.hv):=by rintro v H x ⟨q,m,e,j,a,b,c,h,k,g,o,w,A,l,_⟩;exact#[q,j,_,_,e,g,rfl,h,rfl,l]
theorem Ra:AtI (Q0 K W) W.Field "place_bits" λv H y=>∃a,y=.ref a/\OB K H a (oL D.int v.pb):=by rintro v H x ⟨q,m,e,j,a,b,c,h,k,g,o,w,A,B,l⟩;exact #[q,j,_,_,e,g,rfl,k,rfl,l]
theorem YR{x:Str}(l:∀a b c h k m kd,(fdF a b c h k m kd).lookup x=none):∀(v:Fp) H y,Q0 K W v H y->∃a j fs,y=.ref a/\H a=!.ins W.Field j fs/\fs.lookup x=none:=λv H y #[q,m,e,j,a,b,c,h,k,g,_]=>#[q,j,_,e,g,l ..]
end
open L2 L7
open L4 (Fw AU BW Bx Jq BQ AS eT eP eP3 eF eU oL oDK oDP oDR HG Gg EF FF Kl CA Gf Ir Op Ky MN Bu whF B4 QJ DE FS GK EqN Bo GS GR GT EM Hz Js oFK)
section
variable{P:Ao}{w:A3}{K:AB}{mg:Str->⇑AE}{base:BG}{W:Wd}
def Ix(l:Fp)(m:Int):⇑(Fw Z' Unit):=
 AU (atI l.ev m*>λo=>!.nx o) λA=>((!(-l.tk:Int)).bind FF*>λB=>Bu B (λj=>!not (decide (j∈A))) (λj=>!j))*>λC=>!.rt C
def Ef(j:Fp)(l:Int):⇑Z':=Bx (Ix j l)
theorem RX(T:Txt K mg W)(j:Fp)(l:Int):Czq P w K mg base 1 T.xL.f T.xL.fd ["self", "number"] (spV [λH y=>(Q0 K W j) H y,aV K (D.int l)] (rN K (oL D.int)) (Ef j l)):=by
 unfold Ef Ix
 exact fnV (N:=["self", "number", "standing"]) (B:=λG=>[]) T.xL.F En rfl λG G G G G G A m C=>(Ac (DP 2 (Hs (G5 T.ce.cl T.ld G8 (pv 0)) (vv 1))) (λE=>(Aq (CW (vc (N':=["place", ".1", ".2", "standing"]) (Dy T.dl (S3 T.ut (G5 T.ce.cl T.t0 Qa (pv 0)))) (λo G G G G G G=>(Jj (Mw Bo m (vv 0) (vv 3)))) (λo G G G G G G=>(vv 0))) upN))))
def El(j:Fp)(B:Int):⇑(Fw Int Unit):=
 AU (atI j.ev B*>λC=>!.nx C) λl=>AU (!.nx (0:Int)) λE=>AU (BW l E λ(G:Int) o=>BQ (λH=>H) (atI j.tk o*>λI=>BW I G λ(Ϯ:Int) A=>BQ (λJ=>J) (if (not (decide (A∈l))) then BQ (λL=>L) ((((HE l o A*>λN=>!CH N)*>λO=>AR j.nu O)*>λm=>Gf (1:Int) m)*>λQ=>!.nx (DL Ϯ Q))else !.nx Ϯ))) λR=>!.rt R
def Cg(j:Fp)(l:Int):⇑Int:=Bx (El j l)
theorem J9(T:Txt K mg W)(j:Fp)(l:Int):Czq P w K mg base 2 T.wT.f T.wT.fd ["self", "number"] (spV [λH y=>(Q0 K W j) H y,aV K (D.int l)] (rV K D.int) (Cg j l)):=by
 unfold Cg El
 exact fnV (N:=["self", "number", "standing", "told", "guard", "place"]) (B:=λJ=>[]) T.wT.F En rfl λJ J J J J J A m o=>(Ac (DP 2 (Hs (G5 T.ce.cl T.ld G8 (pv 0)) (vv 1))) (λJ=>(Ac (DP 3 A1) (λC=>(Ac (Ds (s0:=C) 3 (λ(E:Int)=>sv K (D.int E)) (Io (vv 2)) (pgn 4 o) CB (λG L=>(Aq (DQ (Ds (s0:=G) 3 (λ(I:Int)=>sv K (D.int I)) (Io (Hs (G5 T.ce.cl T.t0 Qa (pv 0)) (vv 4))) (pgn 5 o) CB (λϮ O=>(Aq (DQ (Pn 3 (λ(ϯ:Int)=>sv K (D.int ϯ)) (Mw Bo m (vv 5) (vv 2)) (Aq (DQ (Nl 3 YM (Nn A1 (IU dkR (hu1 m) (G5 T.ce.cl T.wl W2 (pv 0)) (Gv T.u8 (Fo (Nm T.ss (C3 (Bi T.aad (λ(ϰ:Z'×Int×Int×Unit)=>UZ T ϰ.1 ϰ.2.1 ϰ.2.2.1) A (Ce (vv 2) (Ce (vv 4) (Ce (vv 5) Bs))) upV)))))))) (λQ=>Wk.refl))) (Ci Wk.refl)) (λR=>∅))))) (λS=>∅))))) (λU=>(Aq (CW (vv 3) upV))))))))
def Em(j:Fp)(o:Int):⇑(Fw Int Unit):=
 AU (atI j.ev o*>λA=>!.nx A) λB=>AU (!.nx (0:Int)) λC=>AU (BW (DE j.pb) C λ(l:Int) m=>BQ (λE=>E) (QR j.tk B m.2*>λG=>if G=true then BQ (λH=>H) (Gf (1:Int) m.1*>λI=>!.nx (DL l I))else !.nx l)) λJ=>!.rt J
def Ch(j:Fp)(l:Int):⇑Int:=Bx (Em j l)
theorem KA(T:Txt K mg W)(j:Fp)(l:Int):Czq P w K mg base 11 T.xz.f T.xz.fd ["self", "number"] (spV [λH y=>(Q0 K W j) H y,aV K (D.int l)] (rV K D.int) (Ch j l)):=by
 unfold Ch Em
 exact fnV (N:=["self", "number", "standing", "told", "other", "bits"]) (B:=λI=>[]) T.xz.F En rfl λI I I I I I o G m=>(Ac (DP 2 (Hs (G5 T.ce.cl T.ld G8 (pv 0)) (vv 1))) (λI=>(Ac (DP 3 A1) (λA=>(Ac (Ds (s0:=A) 3 (λ(C:Int)=>sv K (D.int C)) (Xa T.aax (lD T.ce.cl T.wP Ra (pv 0))) (QM rfl (Ff (pgn 4 m) (Ff (pgn 5 m) NI))) O8 (λJ L=>(Aq (DQ (Pn 3 (λ(E:Int)=>sv K (D.int E)) (IV (C3 (Bi T.wv (λ(ϱ:(¬Z')×Z'×Int×Unit)=>lU T ϱ.1 ϱ.2.1 ϱ.2.2.1) o (Ct (G5 T.ce.cl T.t0 Qa (pv 0)) arO (Ce (vv 2) (Ce (vv 5) Bs))) upV))) (Aq (DQ (Nl 3 YM (Nn A1 (vv 4))) (λO=>Wk.refl))) (Ci Wk.refl)) (λQ=>∅))))) (λR=>(Aq (CW (vv 3) upV))))))))
end
open L2 L7
open L4 (Fw AU BQ Bx AS eT oL oDK oDR B4 GS Hz)
def Ia(f:Fp)(n:Int):⇑Int:=if decide (f.kd = "one") then Cg f n else Ch f n
def E8(f:Fp)(n:Int):⇑Int:=if 0<=n/\n < 1000 then Ia f n else none
abbrev KL:=¬YP
def gL(K:AB)(W:Wd)(f:Fp)(m:AL)(kvs:KL):Hp->(AL->Prop)->Hp->V->Prop:=λG S H y=>∃q,y=.ref q/\S=(λb=>b=m)/\OH K W f (Ec H m) q m/\OB K H m (oDK D.int kvs)
theorem Qo{H:Hp}{m:AL}:Kp (Ec H m) H:=λa o e=>(HF e).2
theorem PV{H:Hp}{m:AL}{u:HO}:Ec (L2.upd H m u) m=Ec H m:=funext λa=>by
 by_cases c:a=m
 ·rw[c,MR,MR]
 ·rw[Fl c,Fl c,AQ c]
def RL(K:AB)(m:AL):Rk (Int×KL):=λz G x j=>x=.int z.1/\OB K j m (oDK D.int z.2)
section
variable{X:Cx}{A:¬Sl}{o e i:Expr}{pos pos' apos:Pos}{W:Wd}{f:Fp}{m:AL}{kvs:KL}{j:Nat}{ρ:Type}
theorem UT(l:PE X o (DI j))(w:↑(A[j]?=!.g (gL X.K W f m kvs))):VE X A o (rP (Q0 X.K W)) (!f):=λM B=>l.imp (by
 rintro L H Q ⟨N,F,⟨G,C⟩,k⟩;cases B;let#[y,E,I]:=C.atG w
 let#[q,rfl,_,J,_]:=I H Kp.refl.fr λM M=>rfl
 exact#[_,E,k _ H .refl λO kp=>#[q,m,rfl,(J.keep Qo).keep kp]])
theorem UV(l:Cls X.K W.Field)(w:Cy X.K W.Field "known") (B:PE X o (DI j)) (C:↑(A[j]?=!.g (gL X.K W f m kvs))) (hb:↑(Bd o "known" X.env (A2 o X.env)=A2 o X.env)):VE X A (.Attribute o "known" pos) (rO X.K (oDK D.int)) (!kvs):=λM E=>(Jm B hb).imp (by
 rintro R H Q ⟨S,F,⟨G,I⟩,k⟩;cases E;let#[y,J,L]:=I.atG C
 let#[q,rfl,_,#[N,a,b,c,h,T,O,_],P]:=L H Kp.refl.fr λM M=>rfl
 exact#[_,J,q,W.Field,N,_,.ref m,rfl,Qo _ _ O,l,w,rfl,k _ H .refl #[m,rfl,P]])
theorem aw(l:Cls X.K W.Field)(w:Cy X.K W.Field "kind") (B:PE X o (DI j)) (C:↑(A[j]?=!.g (gL X.K W f m kvs))) (hb:↑(Bd o "kind" X.env (A2 o X.env)=A2 o X.env)):VE X A (.Attribute o "kind" pos) (rV X.K D.str) (!f.kd):=λM E=>(Jm B hb).imp (by
 rintro P H Q ⟨R,F,⟨G,I⟩,k⟩;cases E;let#[y,J,L]:=I.atG C
 let#[q,rfl,_,#[N,a,b,c,h,S,O,_],T]:=L H Kp.refl.fr λM M=>rfl
 exact#[_,J,q,W.Field,N,_,.str f.kd,rfl,Qo _ _ O,l,w,rfl,k _ H .refl (.str _)])
theorem gB{R:Rk ρ}{Z pv:⇑Int}(hu:X.A.units+1 < Bf)(hc:Cls X.K W.Field)(hn:Cy X.K W.Field "known") (ho:PE X o (DI j)) (hi:VE X A i (XP X) Z) (hv:VE X A e (XP X) pv) (hj:↑(A[j]?=!.g (gL X.K W f m kvs))) (hb:↑(Bd o "known" X.env (A2 o X.env)=A2 o X.env)) (hs:↑(BX e (!.Subscript (.Attribute o "known" apos) i pos') pos.line X.env=pure false)) :
  VS X A (.Assign [.Subscript (.Attribute o "known" apos) i pos'] e pos) R (pv*>λv=>Z*>λk=>B4 kvs k v*>λI=>!.nx I) (λI=>A.set j (.g (gL X.K W f m I))):=λg hg=>by
 let#[v,q1,vn]:=AS hg;let#[k,q2,uG]:=AS vn;let#[I,q3,q4]:=AS uG
 clear hg vn uG
 cases q4;let#[hl,rfl]:=PL q3
 refine(TJ hu (Jm ho hb) (hi k q2) (hv v q1) hs).imp λDd σ H #[H0,F,#[G,hs],q]=>#[H0,F,#[G,hs],λx H1 k1 r1=>?_]
 let O:=hs.grow k1;let#[y0,P,g2]:=O.atG hj
 let#[qq,rfl,Q,#[dx,a,b,c,h,k',g3,_],g4]:=g2 H1 Kp.refl.fr λM M=>rfl
 refine#[_,P,qq,W.Field,dx,_,.ref m,rfl,Qo _ _ g3,hc,hn,rfl,H0,_,#[G,O],λy H2 l r2=>?_];let C:=O.grow l
 let J:G j m:=by rw[Q]
 let#[S,T,u,g5,g6]:=dkK.put _ _ _ _ _ _ _ _ (l.ob g4) r2 (l.rd r1) hl;let#[y2,h1,h2]:=C.atG hj;rw[P]at h1;cases h1
 let#[v1,f1]:=WB (H':=L2.upd H2 m u) (L:=λa=>a=m) (B:=A.set j (.g (gL X.K W f m (Cz kvs k v)))) C (λa c=>c▸(C.gn j m J).1) (λa o e n=>by rw[AQ n];exact e) (λa E c=>c▸S E) (λa ob z c=>c▸T ob z) (λi a M c=>#[u,by rw[c];exact Ap]) (λi t U=>by
  rcases HV U with⟨rfl,rfl,_⟩ | ⟨n2,U⟩
  ·refine .inr #[_,P,_,rfl,λY N w3=>?_]
   let#[uu,zE]:=(l.ob g4).at
   let ne:∀a,a≠m->L2.upd Y m uu a=Y a:=λa c=>AQ c
   let#[q',e',_,g8,_]:=h2 (L2.upd Y m uu) #[λa E e=>by rw[AQ (show a≠m from λc=>S E (c▸e))];exact N.tup a E (by rw[AQ (show a≠m from λc=>S E (c▸e))];exact e),λa ob z e=>by rw[AQ (show a≠m from λc=>T ob z (c▸e))];exact N.frz a ob z (by rw[AQ (show a≠m from λc=>T ob z (c▸e))];exact e),λa o w e=>by
    let am:a≠m:=λc=>(C.gn j m J).1 (c▸w)
    rw[AQ am]
    exact N.fix a o (.inl w) (by rw[AQ am];exact e)] λa w=>by rw[Q]at w;cases w;rw[Ap,zE]
   cases e';rw[PV]at g8;exact#[qq,rfl,Q,g8,N.ob (w3 m J) g6]
  ·exact .inl #[U,λa c w=>n2 (C.ds j i a (c▸J) w)])
 exact#[m,_,rfl,g5,q _ _ _ #[G,v1] ((k1.fe.trans l.fe).trans f1)]
theorem gA{l:Type}{B:l->¬Sl}{q:⇑Int}(w:VE X A e (XP X) q)(C:↑(A[0]?=!.g (gL X.K W f m kvs))):VS X A (.Return (!e) pos) (RL X.K m) (q*>λv=>!.rt (v,kvs)) B:=
 XV (g:=λv=>(v,kvs)) w<|by
  rintro v L N F H x O ⟨G,E⟩ kp r
  let#[y,_,I]:=E.atG C
  let#[_,_,_,_,J]:=I H Kp.refl.fr λM M=>rfl
  cases r;exact#[rfl,kp.ob J]
end
def Hu(f:Fp)(n:Int)(kvs:KL):⇑(Fw (Int×KL) Unit):=
 AU (if (not (AR kvs n).isSome) then BQ (λl=>l) ((if decide (f.kd = "one") then Cg f n else Ch f n)*>λv=>B4 kvs n v*>λl=>!.nx l)else !.nx kvs) λl=>AR l n*>λv=>!.rt (v,l)
def spL(K:AB)(W:Wd)(f:Fp)(n:Int)(kvs:KL)(z:⇑(Int×KL)):Sp:=λvs H Q E=>∃q m r,vs=[.ref q,.int n]/\z=!r/\OH K W f (Ec H m) q m/\OB K H m (oDK D.int kvs)/\∀j,Kp (Ec H m) j->OB K j m (oDK D.int r.2)->Q (.int r.1) j
section
variable{P:Ao}{w:A3}{K:AB}{mg:Str->⇑AE}{base:BG}{W:Wd}
theorem Rv(T:Txt K mg W)(f:Fp)(n:Int)(kvs:KL):Czq P w K mg base 12 T.mt.f T.mt.fd ["self", "number"] (spL K W f n kvs (Bx (Hu f n kvs))):=by
 let#[oc,od,kV,doc,pm,an,t4,ct,uz,Ϩ,Y,tR]:=T.mt.F.ex;rw[Ϩ]at Y ⊢;let Z:Hk ["self", "number"] ["self", "number"] (By E4):=En;refine SJ Y tR Z (by rintro vs H Q E ⟨_,_,_,e,_⟩;rw[e];rfl) ?_;rintro A G s H vs Q E S ⟨q,m,r,e,U,hC,hm,hq⟩;subst e
 let vk:Hu f n kvs=!.rt r:=by
  unfold Bx at U;split at U
  ·ext
  ·cases U
 let nd:(["self", "number"]:¬Str).Nodup:=Z.nd;let O:=S.units
 let fe:∀a o,Ec H m a=!o->H a=!o:=λa o z=>(HF z).2
 let hv:Vs (Ec H m) [.g (gL K W f m kvs),sv K (D.int n)] (L2.start ["self", "number"] [.ref q,.int n]) (λa=>∃o,Ec H m a=!o) H:=by
  refine#[λi a=>i=0/\a=m,fe,λa o z=>#[o,z],by rintro a ⟨o,z⟩;exact#[o,fe a o z],λi s L=>?_,λi a #[_,z]=>?_,λi j a z1 z2=>z1.1.trans z2.1.symm]
  ·match i,L with
   | 0,L=>
    cases L;refine#[_,rfl,_,rfl,λR f' z=>#[q,rfl,funext λb=>propext #[λq=>q.2,λq=>#[rfl,q]],hC.keep λa o e=>?_,f'.ob (z m #[rfl,rfl]) hm]];let#[am,e]:=HF e;rw[Fl am];exact f'.fix a o #[o,by assumption] e
   | 1,L=>cases L;exact#[_,rfl,_,rfl,λR f=>.int _]
   | _+2,L=>cases L
  ·subst z
   exact#[by rintro⟨o,q⟩;exact(by rw[MR]at q;cases q),hm.at]
 let hb:VSs (Qm (CXG P w) P w K mg base ["self", "number"] "Field.linked" (By E4) T.mt.f t4 A G s H E).q [.g (gL K W f m kvs),sv K (D.int n)] (FI E4) (RL K m) (Hu f n kvs) (λM=>[]):=by
  unfold Hu
  exact Ac (Ha (B:=λ(l:KL)=>[.g (gL K W f m l),sv K (D.int n)]) (Mx dkK (hu1 O) (vv 1) (UV T.ce.cl T.ul (pv 0)))
    (Aq (DQ (gB (hu1 O) T.ce.cl T.ul (pv 0) (vv 1)
     (bB (Lv GS Hz O (aw T.ce.cl T.wE (pv 0)) Sv)
      (C3 (Mv T.ce.cl T.aay (λ(X:Fp) (z:Int×Unit)=>J9 T X z.1) T.wT.b (UT (pv 0)) (YR λM M M M M M M=>rfl) (Ce (vv 1) Bs) S upV))
      (C3 (Mv T.ce.cl T.aaz (λ(X:Fp) (z:Int×Unit)=>KA T X z.1) T.xz.b (UT (pv 0)) (YR λM M M M M M M=>rfl) (Ce (vv 1) Bs) S upV)) upV)) λl=>Wk.refl))
    (Ci Wk.refl)) λl=>Aq (gA (IU dkK (hu1 O) (UV T.ce.cl T.ul (pv 0)) (vv 1)))
 let hb:=hb _ vk;refine#[_,λζ s' σ R D I q=>Da (hb ζ s' σ R D (I.with _) q) (λfl s1 z=>?_) λe s1 z=>z.elim,Ec H m,_,hv,by rintro x R kp ⟨h1,h2⟩;ext]
 cases fl with
 | next=>let#[C,N,J,z]:=z;exact#[C,N,J.without,z]
 | brk=>let#[C,N,J,z]:=z;exact#[C,N,J.without,z]
 | cont=>let#[C,N,J,z]:=z;exact#[C,N,J.without,z]
 | ret u=>let#[v,C,N,J,r,z]:=z;exact#[v,C,N,J.without,r,z]
def Vc(j:Int->Int)(kvs:KL):Prop:=(kvs.map (·.1)).Nodup/\∀x∈kvs,0<=x.1/\x.1 < 1000/\x.2=j x.1
def kvK(kvs:KL):¬(Key×V):=kvs.map λx=>(.inl x.1,.int x.2)
def ZP(P:Ao)(w:A3)(m:AL)(l:Int->Int):BG->Prop:=λh=>∃j,Vc l j/\CZ P w (λG=>none) h m (.dK (kvK j))
theorem YH{H:Hp}:∀(kvs:KL),KVR K [] H (kvs.map λx=>(Dw x.1,D.int x.2)) (kvK kvs)
 | []=>.nil
 | x :: l=>.cons #[rfl,.int _] (YH l)
theorem cx{H:Hp}:∀{kvs:KL} {us:¬(Key×V)},KVR K [] H (kvs.map λx=>(Dw x.1,D.int x.2)) us->us=kvK kvs
 | [],_,h=>by cases h;rfl
 | (a,b) :: l,(k,v) :: us,h=>by
  cases h with
  | cons r t=>
   let#[e,r]:=r;dsimp only at e r;subst e;cases r;rw[cx t];rfl
theorem mem_ext{H H':Hp}{h:BG}{m:AL}{j:Int->Int}{kvs:KL}(B:Vc j kvs)(A:CZ P w H h m (.dK (kvK kvs))):CZ P w H' h m (.ext (ZP P w m j)):=by
 refine#[#[kvs,B,A],?_,λG I #[l,C,E] k=>#[l,C,E.stay (λb u c e=>?_) (λG e=>e) λG G e=>e]]
 ·let#[_,_,_,_,o,_,_,e,_]:=A
  exact#[o,e]
 ext
def IF(P:Ao)(w:A3)(K:AB)(W:Wd)(f:Fp)(H:Hp)(y:V):Prop:=∃q m j,y=.ref q/\OH K W f H q m/\H m=!.ext (ZP P w m j)/\∀n z:Int,0<=n->n < 1000->Ia f n=!z->j n=z
theorem IF.q(v:Fp)(H:Hp)(x:V)(h:IF P w K W v H x):Q0 K W v H x:=let #[q,m,j,e,h,_]:=h;#[q,m,e,h]
theorem Qn{H:Hp}{m a:AL}{o:Ob}(j:∀b,OB K H m b->False)(l:∀xs,H m≠!.tup xs)(A:∀ob z,H m≠!.frz ob z)(h:OB K H a o):OB K (Ec H m) a o:=by
 let B:a≠m:=λc=>j o (c▸h)
 exact h.keep (λb xs e=>by rw[Fl (show b≠m from λc=>l xs (c▸e))];exact e) (λb ob z e=>by rw[Fl (show b≠m from λc=>A ob z (c▸e))];exact e) (Fl B)
theorem OH.cut{f:Fp}{H:Hp}{q m:AL}{C:BG->Prop}(S:H m=!.ext C)(h:OH K W f H q m):OH K W f (Ec H m) q m:=by
 let#[E,a,b,c,G,I,J,L,N,O,Q,R]:=h
 let j:∀o,OB K H m o->False:=λo z=>by
  cases o with
  | lst _=>let#[_,e,_]:=z;ext
  | dK _=>let#[_,e,_]:=z;ext
  | dT _=>let#[_,e,_]:=z;ext
  | ins _ _=>let#[_,_,e,_]:=z;ext
  | fK _=>let#[_,_,e,_]:=z;ext
  | fT _=>let#[_,_,e,_]:=z;ext
  | mem _=>let#[_,e,_]:=z;lia
 let l:∀B,H m≠!.tup B:=λB z=>by ext
 let A:∀ob z,H m≠!.frz ob z:=λob z e=>by ext
 exact#[E,a,b,c,G,I,by rw[Fl (show q≠m from λe=>by ext)];exact J,Qn j l A L,Qn j l A N,Qn j l A O,Qn j l A Q,Qn j l A R]
set_option tactic.hygienic true in
theorem Py(T:Txt K mg W)(f:Fp)(n:Int):Czq P w K mg base 12 T.mt.f T.mt.fd ["self", "number"] (spV [λH y=>IF P w K W f H y,aV K (D.int n)] (rV K D.int) (E8 f n)):=by
 let Y:∀j:KL,∀z B,Ia f n=!z->0<=n->n < 1000->B n=z->Vc B j->∃t5,Bx (Hu f n j)=!(z,t5)/\Vc B t5:=λj z B G h0 S Z I=>by
  unfold Hu
  cases c:AR j n with
  | some v=>
   refine#[j,?_,I];show Bx (AR j n*>λv=>!.rt (v,j))=_;rw[c]
   let hv:v=z:=by
    unfold AR at c
    cases hf:j.find? λkv=>decide (kv.1=n)with
    | none=>ext
    | some x=>
     rw[hf]at c;cases c
     let e1:x.1=n:=by simpa using fL hf
     show x.2=z;rw[(I.2 x (Se hf)).2.2,e1,Z]
   rw[hv];rfl
  | none=>
   let nk:n∉j.map (·.1):=λN=>by
    let:=(L4.C6 j n).mpr N
    ext
   let pe:Cz j n z=j++[(n,z)]:=by
    unfold Cz;rw[qY];intro c;let#[y,hy,h2]:=HH.mp c;exact nk (Ay.mpr #[y,hy,of_decide_eq_true h2])
   let O:-j < 1000000:=by
    let S:-j.map (·.1)<=-((A0 1000).map λ(i:Nat)=>(i:Int)):=IR.length_le_of_subset I.1 λx N=>by
     let#[y,hy,rfl]:=Ay.mp N;let#[a1,a2,_]:=I.2 y hy;exact Ay.mpr #[y.1.toNat,CG.mpr (by ext),B1 a1]
    rw[AD,AD,DB]at S;lia
   refine#[j++[(n,z)],?_,?_]
   ·show Bx (AU (BQ (λl=>l) (Ia f n*>λv=>B4 j n v*>λl=>!.nx l)) _)=_
    rw[G];show Bx (AU (BQ (λl=>l) (B4 j n z*>λl=>!.nx l)) _)=_;unfold B4;rw[qX O];show Bx (AR (Cz j n z) n*>λv=>!.rt (v,Cz j n z))=_;rw[L4.CN,qX rfl,pe];rfl
   ·refine#[?_,λx N=>?_]
    ·rw[Bv]
     exact JK.mpr #[I.1,by simp,λa C b hb e=>nk (by grind)]
    ·rcases Aj.mp N with h | h
     ·exact I.2 x h
     ext
 let F1:Czq P w K mg base 12 T.mt.f T.mt.fd ["self", "number"] (λvs H Q E=>∃j,spL K W f n j (Bx (Hu f n j)) vs H Q E):=
  #[by rintro vs H Q E ⟨j,z⟩;exact(Rv (P:=P) (w:=w) (base:=base) T f n j).len vs H Q E z,by rintro A J s H R us vs Q E hr e0 hb r ⟨j,z⟩;exact(Rv (P:=P) (w:=w) (base:=base) T f n j).run A J s H R us vs Q E hr e0 hb r z]
 let F2:=VM (sp2:=λvs H Q E=>∃j q m B z,vs=[.ref q,.int n]/\Vc B j/\Ia f n=!z/\0<=n/\n < 1000/\B n=z/\OH K W f (Ec H m) q m/\OB K H m (oDK D.int j)/\∀L,Kp (Ec H m) L->L m=!.ext (ZP P w m B)->Q (.int z) L) F1 (by rintro vs H Q E ⟨_,_,_,_,_,e,_⟩;rw[e];rfl)<|by
  rintro vs H Q E ⟨j,q,m,B,z,e,I,G,h0,S,Z,hC,U,hq⟩
  let#[t5,o1,o2]:=Y j z B G h0 S Z I;refine#[j,q,m,(z,t5),e,o1,hC,U,λL kp #[us,u1,u2]=>#[m,.dK us,.ext (ZP P w m B),u1,trivial,λhp ho=>mem_ext o2 (by rw[<-cx u2];exact ho),hq _ (λa o e=>?_) Ap]];rw[AQ (HF e).1];exact kp a o e
 refine jG F2 (by rintro vs H Q E ⟨_,_,h,_⟩;exact h.1.symm) ?_;rintro vs H Q E ⟨z,G,C,hq⟩;unfold E8 at G;split at G
 rotate_left
 ·cases G
 rename_i X
 match vs,C with
 | [y0,y1],C=>
  let#[q,m,B,rfl,hC,U,hlk]:=C.2 0 _ _ rfl rfl H .refl;let r1:RD K H (D.int n) y1:=C.2 1 _ _ rfl rfl H .refl;cases r1;refine#[m,_,U,trivial,λhp #[#[j,k1,k2],_]=>#[.dK (kvK j),k2,j,q,m,B,z,rfl,k1,G,X.1,X.2,hlk n z X.1 X.2 G,by rw[PV];exact hC.cut U,#[_,Ap,YH j],λL kp e=>hq _ L (λa o e1=>?_) (.int _)]]
  by_cases c:a=m
  ·ext
  ·exact kp a o (by rw[PV,Fl c];exact e1)
 | [],C=>exact nomatch C.1
 | [_],C=>exact nomatch C.1
 | _ :: _ :: _ :: _,C=>exact nomatch C.1
end
open L2 L7
open L4 (Fw AU BQ BW Bx AS eT eP oL oDK oDR B4 Bu FF CA Gf DE)
def nuS(l:¬(Z'×Int))(x:Int×Z'):¬(Z'×Int):=Cz l x.2 x.1
def hvP(k:Int)(h:Z')(p:Int):Z':=h.set p.toNat (DL (h.getD p.toNat 0) (1 * 2 ^ k.toNat))
def hvS(h:Z')(x:Int×Z'):Z':=x.2.foldl (hvP x.1) h
def nuF(j:¬Z'):¬(Z'×Int):=(DE j).foldl nuS []
def hv0(n:Nat):Z':=(CA 0 n).map λG=>0
def hvF(n:Nat)(j:¬Z'):Z':=(DE j).foldl hvS (hv0 n)
def Jo(w:Nat×¬YP)(g:Int)(kd:Str):⇑Fp:=
 E6 w g*>λj=>Gy w*>λl=>Bu j (λG=>!true) Fq*>λm=>
  if -j<=1000/\w.1<=1000/\∀r∈j,∀x∈r,0<=x/\x < (w.1:Int)then !#[j,kd,l,nuF j,hvF w.1 j,m]else none
abbrev lF(j:¬Z')(kd:Str)(l:¬Z')(m:¬(Z'×Int))(o:Z'):¬(Str×Fv):=[("everything",.fz (oL (eT D.int) j)),("kind",.dat (.str kd)),("takes",.fz (oL (eT D.int) l)),("numbers",.own (oDR D.int m)),("having",.own (oL D.int o))]
abbrev NH:=¬(Z'×Int)×Z'
def PK(w:Nat×¬YP)(g:Int)(kd:Str):⇑(Fw Unit Fp):=
 AU (E6 w g*>λv=>!.nx v) λj=>AU (!.nx kd) λk=>AU (Gy w*>λv=>!.nx v) λm=>AU (!.nx []) λo=>
 AU ((FF (w.1:Int)*>λl=>Bu l (λG=>!true) (λG=>!(0:Int)))*>λv=>!.nx v) λA=>
 AU (BW (DE j) (o,A) λ(s:NH) x=>AU (B4 s.1 x.2 x.1*>λl=>!.nx l) λn=>BQ (λh=>(n,h)) (BW x.2 s.2 λ(h:Z') p=>BQ (λh=>h) (Gf (1:Int) x.1*>λy=>XA (λa b=>DL a b) h p y*>λl=>!.nx l))) λs=>
 AU (Bu j (λG=>!true) Fq*>λv=>!.nx v) λB=>BQ (λG=>(#[j,k,m,s.1,s.2,B]:Fp)) (!.nx ())
abbrev lH(j:¬Z')(kd:Str)(l:¬Z')(m:¬(Z'×Int))(o w:Z'):¬(Str×Fv):=[("everything",.fz (oL (eT D.int) j)),("kind",.dat (.str kd)),("takes",.fz (oL (eT D.int) l)),("numbers",.own (oDR D.int m)),("having",.own (oL D.int o)),("place_bits",.fz (oL D.int w))]
abbrev lG(f:Fp)(l:KL):¬(Str×Fv):=[("everything",.fz (oL (eT D.int) f.ev)),("kind",.dat (.str f.kd)),("takes",.fz (oL (eT D.int) f.tk)),("numbers",.own (oDR D.int f.nu)),("having",.own (oL D.int f.hv)),("place_bits",.fz (oL D.int f.pb)),("known",.own (oDK D.int l))]
def oX(K:AB)(W:Wd)(f:Fp)(H:Hp)(y:V):Prop:=∃q m,y=.ref q/\OH K W f (Ec H m) q m/\OB K H m (oDK D.int [])
theorem zk7{fs:¬(Str×V)}{a:Str}{l:¬Str}(h:fs.map (·.1)=a :: l):∃u r,fs=(a,u) :: r/\r.map (·.1)=l:=by
 cases fs with
 | nil=>cases h
 | cons x r=>cases h;exact#[x.2,r,rfl,rfl]
theorem rY{fs:¬(Str×V)}{a b c d e f g:Str}(h:fs.map (·.1)=[a,b,c,d,e,f,g]):∃j l m o w A B,fs=[(a,j),(b,l),(c,m),(d,o),(e,w),(f,A),(g,B)]:=by
 let#[j,U,C,E]:=zk7 h;let#[l,X,G,H]:=zk7 E;let#[m,Y,I,J]:=zk7 H;let#[o,Z,L,N]:=zk7 J;let#[w,x5,O,P]:=zk7 N;let#[A,x6,Q,R]:=zk7 P;let#[B,x7,S,T]:=zk7 R;cases List.map_eq_nil_iff.mp T;subst S Q O L I G C;exact#[j,l,m,o,w,A,B,rfl]
section
variable{P:Ao}{w:A3}{K:AB}{mg:Str->⇑AE}{base:BG}{W:Wd}
theorem jH{z:AL}{f:Fp}{A H l:Hp}{S:AL->Prop}(h:pF K W.Field z (lG f []) A S H (.ref z))(B:∀a,S a->A a=none/\∃o,H a=!o)(fr:Fr (λa=>A a=none/\∃o,H a=!o) H l):oX K W f l (.ref z):=by
 let#[_,I,J,fs,E,g]:=h;let#[u1,u2,u3,u4,u5,u6,u7,rfl]:=rY g.keys;let#[_,L,a,N,O,Q,aO]:=g.get "everything" (.fz (oL (eT D.int) f.ev)) rfl;let#[_,R,T]:=g.get "kind" (.dat (.str f.kd)) rfl;let#[_,U,b,X,Y,Z,bO]:=g.get "takes" (.fz (oL (eT D.int) f.tk)) rfl;let#[_,e4,c,x4,cS,cz,cO]:=g.get "numbers" (.own (oDR D.int f.nu)) rfl;let#[_,e5,d,x5,dS,dz,dO]:=g.get "having" (.own (oL D.int f.hv)) rfl;let#[_,e6,e,x6,e0,eS,eO]:=g.get "place_bits" (.fz (oL D.int f.pb)) rfl;let#[_,e7,m,x7,G,mz,mO]:=g.get "known" (.own (oDK D.int [])) rfl;cases L;cases R;cases U;cases e4;cases e5;cases e6;cases e7;subst N X x4 x5 x6 x7;cases T
 let ob:∀{x o},A x=none->OB K H x o->OB K l x o:=λ{x o} n h=>by
  let#[u,C]:=h.at;exact fr.ob (by rw[C,fr.fix x u #[n,u,C] C]) h
 let j:=ob (B m G).1 mO
 let cut:∀{x o},x≠m->OB K l x o->OB K (Ec l m) x o:=λ{x o} n h=>h.keep (λb xs e=>by rw[Fl (show b≠m from λc=>(Ib j).1 xs (c▸e))];exact e) (λb ob z e=>by rw[Fl (show b≠m from λc=>(Ib j).2 ob z (c▸e))];exact e) (Fl n)
 let ne:∀{x},Not (S x)->x≠m:=λn c=>n (c▸G)
 exact#[z,m,rfl,#[J,a,b,c,d,e,by rw[Fl (CU mz)];exact fr.fix z _ #[(B z I).1,_,E] E,cut (ne Q) (ob O aO),cut (ne Z) (ob Y bO),cut (λh=>zX (g.dis "numbers" "known" _ _ c rfl rfl rfl (by rw[h];rfl)) ∅) (ob (B c cS).1 cO),cut (λh=>zX (g.dis "having" "known" _ _ d rfl rfl rfl (by rw[h];rfl)) ∅) (ob (B d dS).1 dO),cut (ne eS) (ob e0 eO)],j]
theorem bP(T:Txt K mg W)(o:Nat×¬YP)(g:Int)(kd:Str):Czq P w K mg base 4 T.v0.f T.v0.fd ["self", "web", "guards", "kind"] (iF W.Field [aO K (HW W o),aV K (D.int g),aV K (D.str kd)] (oX K W) (Oo (PK o g kd))):=by
 unfold PK
 exact fnIF (N:=["self", "web", "guards", "kind", "number", "standing", "place"]) (R:=rV K L4.eU) (B:=λz v=>[.g (pF K W.Field z (lG v [])),sz K (HW W o),sv K (D.int g),sv K (D.str kd),.u,.u,.u]) (Pg:=λz v=>pF K W.Field z (lG v [])) T.v0.F En rfl (λM M=>rfl) (λz v J S H O Q Y U=>jH O Q U) (λz v J S H y h=>h.1) λz M M M M M M A X C=>
  Ac (aa T.ce.cl T.ld (pv 0) (C3 (Bi T.aah (λ(z:(Nat×¬YP)×Int×Unit)=>Ua T z.1 z.2.1) A (Ct (Cr (pv 1)) arO (Ce (vv 2) Bs)) upN))) λj=>
  Ac (qA (L:=[("everything",.fz (oL (eT D.int) j))]) T.ce.cl T.wE (pv 0) (vv 3)) λk=>
  Ac (aa (L:=[("everything",.fz (oL (eT D.int) j)),("kind",.dat (.str k))]) T.ce.cl T.t0 (pv 0) (C3 (Bi T.aaa (λ(z:(Nat×¬YP)×Unit)=>WH T z.1) A (Ct (Cr (pv 1)) arO Bs) upN))) λm=>
  Ac (ae (L:=[("everything",.fz (oL (eT D.int) j)),("kind",.dat (.str k)),("takes",.fz (oL (eT D.int) m))]) T.ce.cl T.wl (pv 0) (IT (enc:=D.int) dkR)) λE=>
  Ac (ae (L:=[("everything",.fz (oL (eT D.int) j)),("kind",.dat (.str k)),("takes",.fz (oL (eT D.int) m)),("numbers",.own (oDR D.int E))]) T.ce.cl T.wn (pv 0) (O9 (own:=["place"]) (N':=["place", ".1", ".2", ".3", ".4", ".5", ".6", ".7"]) (Jx (by kernel_rfl)) (Dy T.dl (Jl (ob:=HW W) (g:=λw=>(w.1:Int)) (ec:=D.int) T.gg.cl T.mo (Cr (pv 1)) (λw=>#[_,rfl,SE _ _ _]))) (λM M M M M M=>pgn 0 (by decide +kernel:(["place", ".1", ".2", ".3", ".4", ".5", ".6", ".7"]:¬Str).Nodup)) LC (λx=>by exact(.drop (.same (.same (.same (.same (.same (.same (.same .nil))))))))) (λx M M M M M M=>Ea) (λx M M M M M M=>A1))) λG=>
  Ac (FP (s0:=(E,G)) (B:=λ(s:NH)=>[.g (pF K W.Field z (lF j k m s.1 s.2)),sz K (HW W o),sv K (D.int g),sv K (D.str kd),.u,.u,.u]) (Xa T.aax (jt (z:=z) (L:=lF j k m E G) T.ce.cl T.ld (pv 0))) (QM rfl (Ff (pgn 4 C) (Ff (pgn 5 C) NI))) O8 Wk.refl λs x=>
   Ac (gD (z:=z) (L:=lF j k m s.1 s.2) (l:=s.1) (p2:=#[0,0,0,0]) dkR (hu1 X) T.ce.cl T.wl (pv 0) (vv 5) (vv 4)) λn=>
   Aq (GJ (g:=λh=>(n,h)) (FP (s0:=s.2) (B:=λ(h:Z')=>[.g (pF K W.Field z (lF j k m n h)),sz K (HW W o),sv K (D.int g),sv K (D.str kd),sv K (D.int x.1),sv K (eT D.int x.2),.u]) (Io (vv 5)) (pgn 6 C) CB Wk.refl λh p=>
    Aq (DQ (gH (z:=z) (L:=lF j k m n h) (l:=h) (p2:=#[0,0,0,0]) YM T.ce.cl T.wn (pv 0) (vv 6) (Nn A1 (vv 4))) λh=>by exact Ws.wk (.same (.same (.same (.same (.same (.same (.drop .nil))))))))) λh=>by exact Ws.wk (.same (.same (.same (.same (.drop (.drop (.same .nil)))))))) ) λs=>
  Ac (aa (L:=lF j k m s.1 s.2) T.ce.cl T.wP (pv 0) (O9 (own:=["standing"]) (N':=["standing", ".1", ".2", ".3", ".4", ".5", ".6", ".7"]) (Jx (by kernel_rfl)) (jq (jt (z:=z) (L:=lF j k m s.1 s.2) T.ce.cl T.ld (pv 0))) (λM M M M M M=>pgn 0 (by decide +kernel:(["standing", ".1", ".2", ".3", ".4", ".5", ".6", ".7"]:¬Str).Nodup)) LC (λx=>by exact(.drop (.same (.same (.same (.same (.same (.same (.same .nil))))))))) (λx M M M M M M=>Ea) (λx M M M M M M=>C3 (Bi T.aab (λ(z:Z'×Unit)=>Yy T z.1) A (Ce (vv 0) Bs) upV)))) λI=>
  Aq (GJ (g:=λM=>(#[j,k,m,s.1,s.2,I]:Fp)) (ae (L:=lH j k m s.1 s.2 I) (ob:=λ(_:Unit)=>oDK D.int []) T.ce.cl T.ul (pv 0) (S5 (r:=!()) (IT (enc:=D.int) dkK) λv G=>#[[],rfl,λH x Z z=>z])) λM=>Wk.refl)
end
open L2 L7
open L4 (Fw AU BQ BW Bx AS eT eP oL oDK oDR B4 Bu FF CA Gf DE GQ)
theorem Th(k:Int):∀(r h:Z'),(r.foldl (hvP k) h).length=-h
 | [],h=>rfl
 | p :: r,h=>by
  show(r.foldl (hvP k) (hvP k h p)).length=_;rw[Th k r];exact fJ
theorem dL:∀(l:¬(Int×Z')) (h:Z'),(l.foldl hvS h).length=-h
 | [],h=>rfl
 | x :: l,h=>by
  show(l.foldl hvS (hvS h x)).length=_;rw[dL l];exact Th _ _ _
theorem ca:∀(l:¬(Int×Z')) (h:¬(Z'×Int)),(l.foldl nuS h).length<=-h+-l
 | [],h=>AM _
 | x :: l,h=>by
  let j:=ca l (nuS h x)
  let m:-nuS h x<=-h+1:=by
   unfold nuS Cz;split
   ·simp
   ·ext
  show(l.foldl nuS (nuS h x)).length<=_;rw[Au]
  lia
theorem Zg{l:Type}(j:¬l)(i:Nat):(DE j)[i]?=(j[i]?).map λr=>((i:Int),r):=by
 unfold DE;rw[Ai,Lq]
 cases j[i]? <;> simp
set_option tactic.hygienic true in
theorem jI{w:Nat×¬YP}{g:Int}{kd:Str}{f:Fp}(h:Jo w g kd=!f):Oo (PK w g kd)=!f:=by
 unfold Jo at h;let#[j,B,h]:=AS h;let#[tk,C,h]:=AS h;let#[pb,E,h]:=AS h;split at h
 rotate_left
 ·cases h
 rename_i G;let#[c1,c2,H]:=G;cases h
 let I:FF (w.1:Int)=!CA 0 w.1:=by
  unfold FF;rw[qX #[by ext,by lia]]
  congr 1
 let J:Bu (CA 0 w.1) (λM=>!true) (λM=>!(0:Int))=!hv0 w.1:=by
  rw[L4.NS (f:=λM=>(0:Int)) (P:=λM=>true) (by unfold CA;rw[AD,DB];lia) (λM M=>rfl) λM M M=>rfl];unfold hv0;rw[Yn.mpr λM M=>rfl]
 let L:-hv0 w.1=w.1:=by unfold hv0 CA;rw[AD,AD,DB]
 let#[s,N,O]:=GQ (ρ:=Unit) (l:=DE j) (s0:=(([]:¬(Z'×Int)),hv0 w.1)) (q:=λ(s:NH) x=>AU (B4 s.1 x.2 x.1*>λl=>!.nx l) λn=>BQ (λh=>(n,h)) (BW x.2 s.2 λ(h:Z') p=>BQ (λh=>h) (Gf (1:Int) x.1*>λy=>XA (λa b=>DL a b) h p y*>λl=>!.nx l)))
  (λpre s=>s=(pre.foldl nuS [],pre.foldl hvS (hv0 w.1))) rfl (λpre x s Q R S=>by
   subst S;let#[i,T,U]:=CL Q;let m:=Zg j i;rw[AJ T,U]at m;let#[r,o,e]:=C9.mp m.symm;subst e
   let X:-pre<=1000:=by
    let:=R.length_le;rw[AT]at this
    let h5:-DE j=-j:=by unfold DE;rw[AD,List.length_zipIdx]
    lia
   let Y:∀p∈r,0<=p/\p < (w.1:Int):=H r (Az o)
   let yz:i < 1000:=by let:=(AI.mp o).1;lia
   refine#[_,?_,rfl]
   let Z:B4 (pre.foldl nuS []) r (i:Int)=!Cz (pre.foldl nuS []) r (i:Int):=qX (by
    let:=ca pre [];let h0:-([]:¬(Z'×Int))=0:=rfl
    lia)
   let sh:Gf (1:Int) (i:Int)=!1 * 2 ^ (i:Int).toNat:=qX #[by ext,by lia,by decide]
   let#[t,m1,m2]:=GQ (ρ:=Unit) (l:=r) (s0:=pre.foldl hvS (hv0 w.1)) (q:=λ(h:Z') p=>BQ (λh=>h) (Gf (1:Int) (i:Int)*>λy=>XA (λa b=>DL a b) h p y*>λl=>!.nx l))
    (λA h=>h=A.foldl (hvP (i:Int)) (pre.foldl hvS (hv0 w.1))) rfl (λA p h hp M hh=>by
     subst hh;let#[p0,pl]:=Y p hp;refine#[_,?_,rfl];rw[sh];show BQ (λh=>h) (XA _ _ p _*>λl=>!.nx l)=_;unfold XA;rw[qX #[p0,by rw[Th,dL,L];ext],Gj]
     rfl)
   symm;rw[Z];show BQ (λh=>(_,h)) (BW r (pre.foldl hvS (hv0 w.1)) _)=_;rw[m1,m2,Gj,Gj]
   rfl)
 unfold PK;rw[B,C,I];show Oo (AU (Bu (CA 0 w.1) _ _*>λv=>!.nx v) _)=_;rw[J];show Oo (AU (BW (DE j) ([],hv0 w.1) _) _)=_;rw[N,O];show Oo (AU (Bu j _ _*>λv=>!.nx v) _)=_;rw[E];rfl
section
variable{P:Ao}{w:A3}{K:AB}{mg:Str->⇑AE}{base:BG}{W:Wd}
theorem gw(T:Txt K mg W)(L:Nat×¬YP)(g:Int)(kd:Str):Czq P w K mg base 4 T.v0.f T.v0.fd ["self", "web", "guards", "kind"] (iF W.Field [aO K (HW W L),aV K (D.int g),aV K (D.str kd)] (IF P w K W) (Jo L g kd)):=by
 refine VM (bP T L g kd) (λvs H Q E #[x,U,l,v,e,_,_,h,_]=>by rw[e,Au,<-h.1];rfl) λvs H Q E #[x,U,l,v,e,hx,hv,ha,hq]=>#[x,U,l,v,e,hx,jI hv,ha,λN kp O=>?_]
 let#[q,m,e1,hC,us,X,u2]:=O N Kp.refl.fr;cases e1;cases u2;let#[yL,a,b,c,d,k,A,_]:=id hC;let#[I,A]:=HF A
 let same:∀{B:Hp},oX K W v B (.ref x)->B x=N x->OH K W v (Ec B m) x m/\B m=!.dK []:=λ{B} #[q',m',e2,R,xU,w1,w2] eq=>by
  cases e2;let#[dx2,a2,b2,c2,d2,k2,J,n1]:=id R;let#[_,J]:=HF J;rw[eq,A]at J;cases J;cases w2;ext
 let qn:Ec H x x=none:=MR
 let mn:Ec H x m=none:=by
  cases e3:Ec H x m with
  | none=>rfl
  | some o=>
   let:=(same (O (L2.upd N m (.own 0)) #[λc Y e=>by rw[AQ (show c≠m from λz=>by ext)];exact e,λc ob u e=>by rw[AQ (show c≠m from λz=>by ext)];exact e,λc o w e=>by rw[AQ (show c≠m from λz=>by ext)];exact e]) (AQ I)).2;rw[Ap]at this;cases this
 refine#[m,.dK [],.ext (ZP P w m λn=>(Ia v n).getD 0),X,trivial,λhp ho=>mem_ext (kvs:=[]) #[IQ,λM z=>nomatch z] ho,hq _ (λc o e=>?_) λZ C=>?_]
 ·rw[AQ (show c≠m from λz=>by ext)]
  exact kp c o e
 ·let S:Z m=!.ext (ZP P w m λn=>(Ia v n).getD 0):=C.fix m _ #[mn,_,Ap] Ap
  let G:=same (O (L2.upd Z m (.dK [])) #[λc Y e=>?_,λc ob u e=>?_,λc o w e=>?_]) (by
   rw[AQ I]
   exact(C.fix x _ #[qn,_,by rw[AQ I];exact A] (by rw[AQ I];exact A)).trans A.symm)
  ·rw[PV]at G
   exact#[x,m,_,rfl,G.1.keep Qo,S,λn z M M hz=>by rw[hz];rfl]
  ·let j:c≠m:=λz=>by lia
   rw[AQ j];exact C.tup c Y (by rw[AQ j];exact e)
  ·let j:c≠m:=λz=>by lia
   rw[AQ j];exact C.frz c ob u (by rw[AQ j];exact e)
  ·by_cases j:c=m
   ·rw[j,X]at e
    cases e;rw[j];exact Ap
   ·rw[AQ j]
    exact C.fix c o #[w.1,o,by rw[AQ j];exact e] (by rw[AQ j];exact e)
end
section
variable{W:Wd}{X:Cx}{A:¬Sl}{a b c:Expr}{pc pos:Pos}{k':Nat}
theorem bH(T:Txt X.K X.mg W){pa:⇑(Nat×¬YP)}{C:⇑Int}{E:⇑Str}(H:FK (k'+1) X.A)(I:VE X A a (rO X.K (HW W)) pa)(hb:VE X A b (XP X) C)(J:VE X A c (rV X.K D.str) E)(L:↥(4<=k'))(N:↑(X.xe=λM M=>False))(O:↑(Gl X "Field")) (G:↑(AG [a,b,c] X.env=(false,A2 a X.env) :: AG [b,c] X.env)) (l:↑(AG [b,c] X.env=(false,A2 b X.env) :: AG [c] X.env)) (o:↑(AG [c] X.env=(false,A2 c X.env) :: AG [] X.env)) (B:↑((Cv pos (AG [b,c] X.env)).any (·.1)=false)) :
  VE X A (.Call (.Name "Field" pc) [a,b,c] [] pos) (rF (IF X.prog X.w X.K W)) (pa*>λx=>C*>λy=>E*>λz=>Jo x y z):=by
 let h:=a6 (X:=X) (A:=A) (pos:=pos) (pc:=pc) (x:="Field") (k':=k') (Pd:=IF X.prog X.w X.K W) T.ce.mk' (λ(z:(Nat×¬YP)×Int×Str×Unit)=>gw (P:=X.prog) (w:=X.w) (base:=X.base) T z.1 z.2.1 z.2.2.1) T.v0.b T.ce.m H (Ct I arO (Ce hb (Ce J Bs o) l) G) L N O (by rfl) G B
 refine S5 h λv j=>?_
 let#[x,Q,j]:=AS j;let#[y,R,j]:=AS j;let#[z,S,U]:=AS j;ext
end
section
variable{P:Ao}{w:A3}{K:AB}{W:Wd}
theorem AtI.of{j:Type}{Pd l:j->Hp->V->Prop}{C:AL}{f:Str}{Q:j->Hp->V->Prop}(s:∀v H x,Pd v H x->l v H x)(h:AtI l C f Q):AtI Pd C f Q:=λv H x q=>h v H x (s v H x q)
theorem L6:AtI (IF P w K W) W.Field "everything" λv H y=>∃a,y=.ref a/\OB K H a (oL (eT D.int) v.ev):=AtI.of IF.q G8
theorem Zb:AtI (IF P w K W) W.Field "having" λv H y=>∃a,y=.ref a/\OB K H a (oL D.int v.hv):=AtI.of IF.q Za
theorem kM{x:Str}(j:∀a b c h k m kd,(fdF a b c h k m kd).lookup x=none):∀(v:Fp) H y,IF P w K W v H y->∃a l fs,y=.ref a/\H a=!.ins W.Field l fs/\fs.lookup x=none:=λv H y h=>YR j v H y (IF.q v H y h)
end
open L2 L7
open L4 (Fw AU BW Bx Jq BQ AS eT eP eP3 eF eU oL oDK oDP oDR HG Gg EF FF Kl CA Gf Ir Op Ky MN Bu whF B4 QJ DE FS GK EqN Bo GS GR GT EM Hz Js oFK)
section
variable{P:Ao}{w:A3}{K:AB}{mg:Str->⇑AE}{base:BG}{W:Wd}
def Hx(j:Fp)(l:Int)(m:Int):⇑(Fw Int Unit):=
 (E8 j l*>λo=>atI j.hv m*>λA=>!BE o A)*>λB=>!.rt B
def EL(j:Fp)(l:Int)(m:Int):⇑Int:=Bx (Hx j l m)
theorem P0(T:Txt K mg W)(j:Fp)(l:Int)(m:Int):Czq P w K mg base 13 T.BT.f T.BT.fd ["self", "number", "call"] (spV [λH y=>(IF P w K W j) H y,aV K (D.int l),aV K (D.int m)] (rV K D.int) (EL j l m)):=by
 unfold EL Hx
 exact fnV (N:=["self", "number", "call"]) (B:=λI=>[]) T.BT.F En rfl λI I I I I I o E G=>(Aq (CW (LF (C3 (Mv T.ce.cl T.aaB (λ(A:Fp) (C:Int×Unit)=>Py T A C.1) T.mt.b (Jk (P:=IF P w K W) (pv 0)) (kM λI I I I I I I=>rfl) (Ce (vv 1) Bs) o upV)) (Hs (G5 T.ce.cl T.wn Zb (pv 0)) (vv 2))) upV))
def Is(A:Fp)(B:Int):⇑(Fw (¬YP) Unit):=
 AU (!.nx []) λG=>AU (JW B*>λϬ=>BW Ϭ G λ(C:(¬YP)) j=>AU ((Ef A j*>λH=>Bu H (λl=>(EL A j l*>λI=>!BE I B)*>λJ=>!decide (J=(0:Int))) (λl=>!l))*>λL=>!.nx L) λE=>BQ (λm=>m) (if (not E.isEmpty) then BQ (λN=>N) (atI E (0:Int)*>λO=>B4 C j O*>λo=>!.nx o)else !.nx C)) λQ=>!.rt Q
def Dh(j:Fp)(l:Int):⇑(¬YP):=Bx (Is j l)
theorem Lw(T:Txt K mg W)(o:Fp)(A:Int):T' P w base T.Cl 14 ["field", "left"] (spV [λH y=>(IF P w K W o) H y,aV K (D.int A)] (rN K (oDK D.int)) (Dh o A)):=by
 unfold Dh Is
 exact fnV (N:=["field", "left", "told", "number", "lost"]) (B:=λM=>[]) T.Cl.F En rfl λM M M M M M j C G=>(Ac (D1 2 (IT dkK)) (λI=>(Ac (Ds (s0:=I) 2 (λ(J:(¬YP))=>sw K ((oDK D.int) J)) (Pp (C3 (Bi T.aac (λ(L:Int×Unit)=>Yx T L.1) j (Ce (vv 1) Bs) upN))) (pgn 3 G) CB (λS U=>(Ac (Rs (i:=4) (vd (N':=["call", "field", "left", ".3", "number", ".5"]) (Pp (C3 (Mv T.ce.cl T.aaA (λ(l:Fp) (m:Int×Unit)=>RX T l m.1) T.xL.b (qC IF.q (Jk (P:=IF P w K W) (pv 0))) (YR λM M M M M M M=>rfl) (Ce (vv 3) Bs) j upN))) (λO M M M M M M=>(Jj (Lv Bo EM C (LF (C3 (Mv T.ce.cl T.aaC (λ(l:Fp) (E:Int×Int×Unit)=>P0 T l E.1 E.2.1) T.BT.b (Jk (P:=IF P w K W) (pv 1)) (kM λM M M M M M M=>rfl) (Ce (vv 4) (Ce (vv 0) Bs)) j upV)) (vv 2)) A1))) (λO M M M M M M=>(vv 0)))) (λX=>(Aq (DQ (Pn 2 (λ(Q:(¬YP))=>sw K ((oDK D.int) Q)) (gi (DY (pv 4))) (Aq (DQ (Fd dkK (hu1 C) (pv 2) (vv 3) (Hs (DY (pv 4)) A1)) (λY=>Wk.refl))) (Ci Wk.refl)) (λR=>∅))))))) (λZ=>(Aq (Ji (pv 2)))))))
def QF(l:Fp):⇑(Fw (¬(Int×YP)) Unit):=
 AU (!.nx []) λI=>AU ((Gf (1:Int) (-l.ev:Int)*>λJ=>!J - (1:Int))*>λL=>!.nx L) λG=>AU (!.nx (1:Int)) λm=>AU (Dh l G*>λN=>!.nx N) λo=>AU (whF (λ(j:(¬(Int×YP))×Int×Int×(¬YP))=>!not j.2.2.2.isEmpty) (λ(j:(¬(Int×YP))×Int×Int×(¬YP))=>AU (BW (j.2.2.2.map (·.1)) (j.1,j.2.1) λ(H:(¬(Int×YP))×Int) A=>AU ((AR j.2.2.2 A*>λO=>!(j.2.2.1,O))*>λQ=>B4 H.1 A Q*>λR=>!.nx R) λS=>BQ (λT=>(S,T)) (Gf (1:Int) A*>λU=>!.nx (E1 H.2 U))) λB=>AU (!.nx (j.2.2.1+(1:Int))) λC=>BQ (λX=>(B.1,B.2,C,X)) (Dh l B.2*>λY=>!.nx Y)) wN (I,G,m,o)) λE=>!.rt E.1
def Ks(j:Fp):⇑(¬(Int×YP)):=Bx (QF j)
theorem bN(T:Txt K mg W)(m:Fp):T' P w base T.aai 15 ["field"] (spV [λH y=>(IF P w K W m) H y] (rN K (oDK (eP D.int D.int))) (Ks m)):=by
 unfold Ks QF
 exact fnV (N:=["field", "told", "left", "stage", "falling", "number"]) (B:=λM=>[]) T.aai.F En rfl λM M M M M M I J S=>(Ac (D1 1 (IT dkK)) (λU=>(Ac (DP 2 (Ip (Nn A1 (S3 T.ut (G5 T.ce.cl T.ld L6 (pv 0)))) A1)) (λX=>(Ac (DP 3 A1) (λo=>(Ac (D1 4 (C3 (Bi T.Cl (λ(L:Fp×Int×Unit)=>Lw T L.1 L.2.1) I (Ct (Jk (P:=IF P w K W) (pv 0)) arP (Ce (vv 2) Bs)) upN))) (λA=>(Ac (Pm (s0:=(U,X,o,A)) (B:=(λ(l:(¬(Int×YP))×Int×Int×(¬YP))=>[.q λM H y=>(IF P w K W m) H y,sw K ((oDK (eP D.int D.int)) l.1),sv K (D.int l.2.1),sv K (D.int l.2.2.1),sw K ((oDK D.int) l.2.2.2),.u])) wN Wk.refl (λC=>(bI (Ep (pv 4)))) (λC=>(Ac (p9 4 (gG (s0:=(C.1,C.2.1)) 1 (λ(E:(¬(Int×YP))×Int)=>sw K ((oDK (eP D.int D.int)) E.1)) 2 (λ(E:(¬(Int×YP))×Int)=>sv K (D.int E.2)) (lC (pv 4)) (pgn 5 S) CB (λuy uk=>(Ac (Fd dkK (hu1 J) (pv 1) (vv 5) (G4 (vv 3) (bE (hu1 J) (DY (pv 4)) (vv 5)))) (λY=>(Aq (GJ (g:=λO=>(Y,O)) (Nl 2 nj (Nn A1 (vv 5))) (λO=>∅)))))))) (λQ=>(Ac (Nl 3 nv A1) (λG=>(Aq (GJ (g:=λR=>(Q.1,Q.2,G,R)) (D1 4 (C3 (Bi T.Cl (λ(j:Fp×Int×Unit)=>Lw T j.1 j.2.1) I (Ct (Jk (P:=IF P w K W) (pv 0)) arP (Ce (vv 2) Bs)) upN))) (λR=>Wk.refl))))))))) (λZ=>(Aq (Ji (pv 1)))))))))))))
def TC(o:(Nat×¬YP))(A:Int)(B:Str):⇑(Fw (¬(Z'×Int×Int)) Unit):=
 AU (Jo o A B*>λC=>!.nx C) λm=>AU (Ks m*>λE=>!.nx E) λj=>Bu (CH (j.map (·.1))) (λl=>!true) (λl=>atI m.ev l*>λG=>AR j l*>λH=>!(G,H))*>λI=>!.rt I
def LI(j:(Nat×¬YP))(l:Int)(m:Str):⇑(¬(Z'×Int×Int)):=Bx (TC j l m)
theorem Xm(T:Txt K mg W)(j:(Nat×¬YP))(l:Int)(m:Str):T' P w base T.EE 16 ["web", "guards", "kind"] (spV [aO K ((HW W) j),aV K (D.int l),aV K (D.str m)] (rN K (oL (eP3 (eT D.int) D.int D.int))) (LI j l m)):=by
 unfold LI TC
 exact fnV (N:=["web", "guards", "kind", "field", "gone"]) (B:=λG=>[]) T.EE.F En rfl λG G G G G G o A H=>(Ac (fx 3 (bH T o (Cr (pv 0)) (vv 1) (vv 2))) (λI=>(Ac (G3 4 (C3 (Bi T.aai (λ(C:Fp×Unit)=>bN T C.1) o (Ct (Jk (P:=IF P w K W) (pv 3)) arP Bs) upN))) (λE=>(Aq (CW (vc (N':=["number", ".1", ".2", ".3", "field", "gone"]) (Pp (Yu T.ss (DY (pv 4)))) (λG G G G G G G=>Ea) (λG G G G G G G=>(bF (Hs (G5 T.ce.cl T.ld L6 (pv 4)) (vv 0)) (IU dkK (hu1 A) (DY (pv 5)) (vv 0))))) upN))))))
def Iv(R:(¬YP))(S:Int)(T:(¬Z'))(U:Str):⇑(Fw (¬(Z'×Int)×¬BK) Unit):=
 AU (!.nx []) λX=>AU (BW T X λ(Y:(¬BK)) m=>BQ (λZ=>Z) ((!S).bind FF*>λyS=>BW yS Y λ(N:(¬BK)) o=>BQ (λwc=>wc) (if (not (decide (o∈m))) then BQ (λxG=>xG) (EC R m o U*>λuD=>B4 N (m,o) uD*>λza=>!.nx za)else !.nx N))) λA=>AU (!.nx []) λya=>AU (!.nx (0:Int)) λB=>AU (!.nx ((unop% Neg.neg (1:Int)))) λxJ=>AU (whF (λ(j:Int×Int×(¬(Z'×Int)))=>!not (decide (j.1=(-j.2.2:Int)))) (λ(j:Int×Int×(¬(Z'×Int)))=>AU (!.nx (-j.2.2:Int)) λyc=>AU (!.nx (j.2.1+(1:Int))) λl=>AU ((![]).bind EF*>λyT=>!.nx yT) λy6=>AU (BW (A.map (·.1)) y6 λ(O:(¬(Z'×Int))) C=>AU ((AR A C*>λE=>Bu E (λQ=>!true) (λQ=>!decide (((AR j.2.2 Q).getD l) < l)))*>λG=>!.nx G) λwo=>BQ (λzU=>zU) ((if (not (AR j.2.2 C.1).isSome) then !wo.all id else !false)*>λH=>if H=true then BQ (λzV=>zV) (HG O C*>λI=>!.nx I)else !.nx O)) λJ=>BQ (λzW=>(yc,l,zW)) (BW J.reverse j.2.2 λ(zY:(¬(Z'×Int))) zZ=>BQ (λCs=>Cs) (B4 zY zZ.1 l*>λL=>!.nx L))) wN (xJ,B,ya)) λuR=>!.rt (uR.2.2,A)
def Fh(j:(¬YP))(l:Int)(m:(¬Z'))(o:Str):⇑(¬(Z'×Int)×¬BK):=Bx (Iv j l m o)
theorem RV(T:Txt K mg W)(j:(¬YP))(l:Int)(m:(¬Z'))(o:Str):T' P w base T.aap 4 ["ties", "places", "some", "kind"] (spV [aO K ((oL (eP D.int D.int)) j),aV K (D.int l),aO K ((oL (eT D.int)) m),aV K (D.str o)] (rFB K) (Fh j l m o)):=by
 unfold Fh Iv
 exact fnV (N:=["ties", "places", "some", "kind", "behind", "standing", "call", "fallen_v", "turn", "last", "fresh", "spot", "struck"]) (B:=λM=>[]) T.aap.F En rfl λM M M M M M Z A E=>(Ac (fy 4) (λv1=>(Ac (FP (s0:=v1) (B:=(λ(ϯ:(¬BK))=>[sz K ((oL (eP D.int D.int)) j),sv K (D.int l),sz K ((oL (eT D.int)) m),sv K (D.str o),.g (pB K ϯ),.u,.u,.u,.u,.u,.u,.u,.u])) (Ms (pv 2)) (pgn 5 E) CB Wk.refl (λs2 X=>(Aq (DQ (FP (s0:=s2) (B:=(λ(O:(¬BK))=>[sz K ((oL (eP D.int D.int)) j),sv K (D.int l),sz K ((oL (eT D.int)) m),sv K (D.str o),.g (pB K O),sv K ((eT D.int) X),.u,.u,.u,.u,.u,.u,.u])) (Dy T.dl (vv 1)) (pgn 6 E) CB Wk.refl (λs4 x5=>(Aq (DQ (Ha (B:=(λ(y9:(¬BK))=>[sz K ((oL (eP D.int D.int)) j),sv K (D.int l),sz K ((oL (eT D.int)) m),sv K (D.str o),.g (pB K y9),sv K ((eT D.int) X),sv K (D.int x5),.u,.u,.u,.u,.u,.u])) (Mw Bo A (vv 6) (vv 5)) (Aq (DQ (ah A (pv 4) (G4 (vv 5) (vv 6)) (C3 (Bi T.aao (λ(G:(¬YP)×Z'×Int×Str×Unit)=>RW T G.1 G.2.1 G.2.2.1 G.2.2.2.1) Z (Ct (Cr (pv 0)) arO (Ce (vv 5) (Ce (vv 6) (Ce (vv 3) Bs)))) upN))) (λxG=>Wk.refl))) (Ci Wk.refl)) (λwc=>∅))))) (λvR=>∅))))) (λH=>(Ac (D1 7 (IT dkR)) (λya=>(Ac (lB 4 (DP 8 A1)) (λQ=>(Ac (DP 9 (Pr A1)) (λxJ=>(Ac (Pm (s0:=(xJ,Q,ya)) (B:=(λ(C:Int×Int×(¬(Z'×Int)))=>[sz K ((oL (eP D.int D.int)) j),sv K (D.int l),sz K ((oL (eT D.int)) m),sv K (D.str o),.q (zB K H),.u,.u,sw K ((oDR D.int) C.2.2),sv K (D.int C.2.1),sv K (D.int C.1),.u,.u,.u])) wN Wk.refl (λI=>(jw Bo EM A (vv 9) (UU T.ut (Ep (pv 7))))) (λI=>(Ac (DP 9 (UU T.ut (Ep (pv 7)))) (λJ=>(Ac (DP 8 (FR (vv 8) A1)) (λL=>(Ac (D1 10 (FQ DH)) (λy6=>(Ac (FP (s0:=y6) (B:=(λ(Ϧ:(¬(Z'×Int)))=>[sz K ((oL (eP D.int D.int)) j),sv K (D.int l),sz K ((oL (eT D.int)) m),sv K (D.str o),.q (zB K H),.u,.u,sw K ((oDR D.int) I.2.2),sv K (D.int L),sv K (D.int J),sw K ((oL (eP (eT D.int) D.int)) Ϧ),.u,.u])) (gP (pv 4)) (pgn 11 E) CB Wk.refl (λwz vh=>(Ac (Rs (i:=12) (vd (N':=["one", ".1", ".2", ".3", ".4", ".5", ".6", ".7", "fallen_v", "turn", ".10", ".11", ".12", ".13"]) (jq (aq A (pv 4) (vv 11))) (λwA M M M M M M=>Ea) (λwA M M M M M M=>(a7 (Xf dkR (λM=>.inr #[_,rfl]) (hu1 A) (Ep (pv 8)) (vv 0) (vv 9)) (vv 9))))) (λwo=>(Aq (DQ (Ha (B:=(λ(R:(¬(Z'×Int)))=>[sz K ((oL (eP D.int D.int)) j),sv K (D.int l),sz K ((oL (eT D.int)) m),sv K (D.str o),.q (zB K H),.u,.u,sw K ((oDR D.int) I.2.2),sv K (D.int L),sv K (D.int J),sw K ((oL (eP (eT D.int) D.int)) R),sv K ((eP (eT D.int) D.int) vh),sy K ((oL D.bl) wo)])) (Yv (V9 (Mx dkR (hu1 A) (No (vv 11)) (Ep (pv 7))) (Sr (IV (bG T.aaw (DY (pv 12))))))) (Aq (DQ (MG (pv 10) (vv 11)) (λzV=>Wk.refl))) (Ci Wk.refl)) (λzU=>∅))))))) (λS=>(Aq (GJ (g:=λY=>(J,L,Y)) (Ss (LB (i:=10) rfl) (FP (s0:=I.2.2) (B:=(λ(U:(¬(Z'×Int)))=>[sz K ((oL (eP D.int D.int)) j),sv K (D.int l),sz K ((oL (eT D.int)) m),sv K (D.str o),.q (zB K H),.u,.u,sw K ((oDR D.int) U),sv K (D.int L),sv K (D.int J),sy K ((oL (eP (eT D.int) D.int)) S),.u,.u])) (ao T.aav (gR (pv 10))) (pgn 11 E) CB Wk.refl (λzY zZ=>(Aq (DQ (Fd dkR (hu1 A) (pv 7) (No (vv 11)) (vv 8)) (λCs=>∅)))))) (λY=>∅))))))))))))) (λuR=>(Aq (aY (pv 7) (pv 4)))))))))))))))
def NC(l:Int):⇑(Fw Bool Unit):=
 (if true=true then !not false else !false)*>λj=>!.rt j
def Hi(j:Int):⇑Bool:=Bx (NC j)
theorem M0(T:Txt K mg W)(j:Int):T' P w base T.KK 1 ["found"] (spV [aV K (D.int j)] (rV K D.bl) (Hi j)):=by
 unfold Hi NC
 exact fnV (N:=["found"]) (B:=λG=>[]) T.KK.F En rfl λG G G G G G l m o=>(Aq (CW (Xk (Xd (pa:=!j) (r:=true) tyI jD sd T.aar T.aas (vv 0)) (WD (Xb (Xd (pa:=!j) (r:=false) tyI dJ se T.aar T.aaD (vv 0))))) upV))
def MK(G:Int)(H:(¬Z'))(l:(¬(Z'×Int)))(I:(¬BK)):⇑(Fw (¬(Z'×Int×Int)) Unit):=
 AU ((![]).bind EF*>λJ=>!.nx J) λL=>AU (BW H L λ(A:(¬(Z'×Int×Int))) j=>BQ (λN=>N) (if ((AR l j).isSome) then AU (!.nx ((unop% Neg.neg (1:Int)))) λO=>AU ((!G).bind Wa*>λϫ=>BW ϫ O λ(B:Int) C=>AU (!.nx (AR I (j,C))) λQ=>BQ (λR=>R) (match Q with | none=>!.nx B | some S=>AU (Bu S (λE=>!true) (λE=>(QJ (10:Int) (9:Int)*>λT=>!(AR l E).getD T)*>λU=>AR l j*>λX=>!decide (U < X))*>λY=>!.nx Y) λZ=>BQ (λC'=>C') (if (Z.all id) then BQ (λD'=>D') (!.nx C)else !.nx B))) λuR=>BQ (λyd=>yd) ((AR l j*>λzg=>!(j,zg,uR))*>λm=>HG A m*>λo=>!.nx o)else !.nx A)) λwz=>!.rt wz
def Hy(j:Int)(l:(¬Z'))(m:(¬(Z'×Int)))(o:(¬BK)):⇑(¬(Z'×Int×Int)):=Bx (MK j l m o)
theorem WJ(T:Txt K mg W)(j:Int)(l:(¬Z'))(m:(¬(Z'×Int)))(o:(¬BK)):T' P w base T.aaq 1 ["places", "some", "fallen_v", "behind"] (spV [aV K (D.int j),aO K ((oL (eT D.int)) l),aO K ((oDR D.int) m),λH y=>zB K o nH H y] (rN K (oL (eP3 (eT D.int) D.int D.int))) (Hy j l m o)):=by
 unfold Hy MK
 exact fnV (N:=["places", "some", "fallen_v", "behind", "due", "standing", "least", "call", "rows", "ahead"]) (B:=λM=>[]) T.aaq.F En rfl λM M M M M M Z A I=>(Ac (D1 4 (FQ DH)) (λL=>(Ac (FP (s0:=L) (B:=(λ(E:(¬(Z'×Int×Int)))=>[sv K (D.int j),sz K ((oL (eT D.int)) l),sz K ((oDR D.int) m),.q λM H y=>zB K o nH H y,sw K ((oL (eP3 (eT D.int) D.int D.int)) E),.u,.u,.u,.u,.u])) (Ms (pv 1)) (pgn 5 I) CB Wk.refl (λG C=>(Aq (DQ (Ha (B:=(λ(O:(¬(Z'×Int×Int)))=>[sv K (D.int j),sz K ((oL (eT D.int)) l),sz K ((oDR D.int) m),.q λM H y=>zB K o nH H y,sw K ((oL (eP3 (eT D.int) D.int D.int)) O),sv K ((eT D.int) C),.u,.u,.u,.u])) (WG dkR (hu1 A) (vv 5) (Cr (pv 2))) (Ac (DP 6 (Pr A1)) (λQ=>(Ac (FP (s0:=Q) (B:=(λ(ϧ:Int)=>[sv K (D.int j),sz K ((oL (eT D.int)) l),sz K ((oDR D.int) m),.q λM H y=>zB K o nH H y,sw K ((oL (eP3 (eT D.int) D.int D.int)) G),sv K ((eT D.int) C),sv K (D.int ϧ),.u,.u,.u])) (gO T.aav T.dl (vv 0)) (pgn 7 I) CB Wk.refl (λvq J=>(Ac (gC A 8 (pv 3) (λM M M h=>h) (G4 (vv 5) (vv 7))) (λxx=>(Aq (DQ (lA (B:=(λ(R:Int)=>[sv K (D.int j),sz K ((oL (eT D.int)) l),sz K ((oDR D.int) m),.q λM H y=>zB K o nH H y,sw K ((oL (eP3 (eT D.int) D.int D.int)) G),sv K ((eT D.int) C),sv K (D.int R),sv K (D.int J),.u,.u])) (pv 8) (λS=>(Ac (Rs (i:=9) (vd (N':=["one", ".1", ".2", "fallen_v", ".4", ".5", "standing", ".7", ".8", ".9", ".10"]) (Ms (pv 8)) (λU M M M M M M=>Ea) (λU M M M M M M=>(a7 (Xf dkR (λM=>.inr #[_,rfl]) (hu1 A) (Cr (pv 3)) (vv 0) (lK A1 A1)) (IU dkR (hu1 A) (Cr (pv 3)) (vv 6)))))) (λX=>(Aq (DQ (Ha (B:=(λ(Y:Int)=>[sv K (D.int j),sz K ((oL (eT D.int)) l),sz K ((oDR D.int) m),.q λM H y=>zB K o nH H y,sw K ((oL (eP3 (eT D.int) D.int D.int)) G),sv K ((eT D.int) C),sv K (D.int Y),sv K (D.int J),sz K ((oL (eT D.int)) S),sy K ((oL D.bl) X)])) (IV (bG T.aaw (DY (pv 9)))) (Aq (DQ (DP 6 (vv 7)) (λD'=>Wk.refl))) (Ci Wk.refl)) (λC'=>∅)))))) ∅) (λvt=>∅))))))) (λuR=>(Aq (DQ (MG (pv 4) (av (vv 5) (IU dkR (hu1 A) (Cr (pv 2)) (vv 5)) (vv 6))) (λyd=>∅))))))) (Ci Wk.refl)) (λzQ=>∅))))) (λwz=>(Aq (Ji (pv 4)))))))
def bz(m:Z'):⇑(Fw Bool Unit):=
 AU (Bt m (0:Int)*>λx7=>!.nx x7) λv1=>AU (!.nx (((2:Int)+(v1 % 5))+(if (decide (((v1 / 84) % 8)=(1:Int))) then 1 else 0))) λj=>AU (Fs m (3:Int) j*>λvi=>!.nx vi) λl=>AU ((Fg m l*>λuH=>Yq j uH)*>λϙ=>!.nx ϙ) λN=>AU (((Bt m (1:Int)*>λvh=>(((!(3:Int) :: ((5:Int) :: [])).bind EF*>λO=>atI O (if (decide (j < (6:Int))) then 1 else 0))*>λxD=>!(if xD < j then xD else j))*>λyR=>MN vh yR)*>λwA=>!(1:Int)+wA)*>λxA=>!.nx xA) λQ=>AU (((!("one" : Str) :: (("all" : Str) :: [])).bind EF*>λR=>(Bt m (2:Int)*>λS=>!S % 2)*>λT=>atI R T)*>λU=>!.nx U) λX=>AU (Ft j Q*>λxE=>!.nx xE) λzh=>AU (Fh l j zh X*>λY=>!.nx Y) λxK=>AU (Hy j zh xK.1 xK.2*>λo=>!.nx o) λzi=>AU (LI N Q X*>λA=>!.nx A) λZ=>AU ((if (not true) then !true else !not (decide (Z=zi)))*>λB=>if B=true then !.rt false else !.nx ()) λM=>AU (BW Z () λ(_:Unit) wB=>BQ (λM=>()) ((if (not true) then !true else(Hi wB.2.1*>λC=>!not C).bind λE=>if E=true then !true else(Hi wB.2.2).bind λG=>!not G)*>λH=>if H=true then !.rt false else !.nx ())) λM=>AU ((((![]).bind EF):⇑Z')*>λM=>if -Z < 1000000 then !.nx ()else none) λM=>((LI N Q X*>λI=>!decide (I=zi))*>λJ=>if J=true then !decide (N.2=l)else !false)*>λL=>!.rt L
def X8(j:Z'):⇑Bool:=Bx (bz j)
theorem qI(T:Txt K mg W)(L:Z'):T' P w base T.tz 17 ["script"] (spV [aV K (eF L)] (rV K D.bl) (X8 L)):=by
 unfold X8 bz
 exact fnV (N:=["script", "head", "places", "ties", "web", "guards", "kind", "some", "fallen_v", "behind", "due", "found", "row"]) (B:=λM=>[]) T.tz.F En rfl λM M M M M M j O X=>(Ac (DP 1 (C3 (Bi T.tt (λ(z6:Z'×Int×Unit)=>E3 T z6.1 z6.2.1) j (Ce (vv 0) (Ce A1 Bs)) upV))) (λv1=>(Ac (DP 2 (FR (FR A1 (Mu rfl (vv 1))) (Xe T.aas (qE Bo EM O (Mu rfl (Ps rfl (vv 1))) A1)))) (λv8=>(Ac (G3 3 (C3 (Bi T.aak (λ(l:Z'×Int×Int×Unit)=>Ub T l.1 l.2.1 l.2.2.1) j (Ce (vv 0) (Ce A1 (Ce (vv 2) Bs))) upN))) (λo=>(Ac (G3 4 (lE T j (vv 2) (Fo (C3 (Bi T.aal (λ(A:Z'×(¬YP)×Unit)=>RU T A.1 A.2.1) j (Ce (vv 0) (Ct (DY (pv 3)) arO Bs)) upN))))) (λuI=>(Ac (DP 5 (FR A1 (WE (C3 (Bi T.tt (λ(E:Z'×Int×Unit)=>E3 T E.1 E.2.1) j (Ce (vv 0) (Ce A1 Bs)) upV)) (Sy T.aau (vv 2) (Hs (Fo (FQ (EZ A1 (EZ A1 DH)))) (Xe T.aas (a7 (vv 2) A1))))))) (λye=>(Ac (DP 6 (Hs (Fo (FQ (EZ Sv (EZ Sv DH)))) (Mu rfl (C3 (Bi T.tt (λ(G:Z'×Int×Unit)=>E3 T G.1 G.2.1) j (Ce (vv 0) (Ce A1 Bs)) upV))))) (λwt=>(Ac (G3 7 (C3 (Bi T.aam (λ(H:Int×Int×Unit)=>Uc T H.1 H.2.1) j (Ce (vv 2) (Ce (vv 5) Bs)) upN))) (λzh=>(Ac (ai (n:=8) (m:=9) (C3 (Bi T.aap (λ(Q:(¬YP)×Int×(¬Z')×Str×Unit)=>RV T Q.1 Q.2.1 Q.2.2.1 Q.2.2.2.1) j (Ct (DY (pv 3)) arO (Ce (vv 2) (Ct (DY (pv 7)) arO (Ce (vv 6) Bs)))) upFB)) (QM rfl (Ff (pgn 8 X) (Ff (pgn 9 X) NI)))) (λR=>(Ac (G3 10 (C3 (Bi T.aaq (λ(S:Int×(¬Z')×(¬(Z'×Int))×(¬BK)×Unit)=>WJ T S.1 S.2.1 S.2.2.1 S.2.2.2.1) j (Ce (vv 2) (Ct (DY (pv 7)) arO (Ct (DY (pv 8)) arO (Ct (gT (pv 9)) arP Bs)))) upN))) (λzi=>(Ac (D1 11 (C3 (Bi T.EE (λ(Y:(Nat×¬YP)×Int×Str×Unit)=>Xm T Y.1 Y.2.1 Y.2.2.1) j (Ct (DY (pv 4)) arO (Ce (vv 5) (Ce (vv 6) Bs))) upN))) (λZ=>(Ac (HU (jy (Yv (XU (KW (IV (Xd (pa:=!Z) (r:=true) tyL dI sY T.aar T.aat (Ep (pv 11))))) (V8 (gj (SL (GR Bo) Bo Bo) (VQ (di K1) K1 K1) O (Ep (pv 11)) (DY (pv 10))))))) (Aq (CW Lu upV)) (Ci Wk.refl)) (λM=>(Ac (gE (s0:=()) (B:=λU=>(λ(_:Unit)=>[sv K (eF L),sv K (D.int v1),sv K (D.int v8),sy K ((oL (eP D.int D.int)) o),sy K ((HW W) uI),sv K (D.int ye),sv K (D.str wt),sy K ((oL (eT D.int)) zh),sy K ((oDR D.int) R.1),.q (zB K R.2),sy K ((oL (eP3 (eT D.int) D.int D.int)) zi),sx K U ((oL (eP3 (eT D.int) D.int D.int)) Z),.u])) (C:=(λ(_:Unit)=>[sv K (eF L),sv K (D.int v1),sv K (D.int v8),sy K ((oL (eP D.int D.int)) o),sy K ((HW W) uI),sv K (D.int ye),sv K (D.str wt),sy K ((oL (eT D.int)) zh),sy K ((oDR D.int) R.1),.q (zB K R.2),sy K ((oL (eP3 (eT D.int) D.int D.int)) zi),sw K ((oL (eP3 (eT D.int) D.int D.int)) Z),.u])) 11 (pv 11) (pgn 12 X) CB (λU=>Wk.refl) (λU M wB=>(Aq (GJ (g:=λM=>()) (HU (jy (Yv (XU (KW (IV (Xd (pa:=!wB) (r:=true) tyP3 ZV sT T.aar T.u8 (vv 12)))) (XU (KW (IV (C3 (Bi T.KK (λ(I:Int×Unit)=>M0 T I.1) j (Ce (lJ (vv 12)) Bs) upV)))) (V8 (KW (IV (C3 (Bi T.KK (λ(J:Int×Unit)=>M0 T J.1) j (Ce (lI (vv 12)) Bs) upV))))))))) (Aq (CW Lu upV)) (Ci Wk.refl)) (λM=>∅)))) (λU M=>(by exact Ws.wk (.same (.same (.same (.same (.same (.same (.same (.same (.same (.same (.same (.lesg xw (.same .nil)))))))))))))))) (λM=>(Ac (gK (eb:=(eT D.int)) (pv 11) (Hr DH)) (λM=>(Aq (CW (Xk (Xh (SL (GR Bo) Bo Bo) (VQ (di K1) K1 K1) O (Fo (C3 (Bi T.EE (λ(xO:(Nat×¬YP)×Int×Str×Unit)=>Xm T xO.1 xO.2.1 xO.2.2.1) j (Ct (DY (pv 4)) arO (Ce (vv 5) (Ce (vv 6) Bs))) upN))) (DY (pv 10))) (WD (Xh (GT Bo Bo) (jN K1 K1) O (Fo (a8 T.aat (Jl (ob:=HW W) (g:=λw=>w.2) (ec:=eT (eP D.int D.int)) T.gg.cl T.wf (DY (pv 4)) (λw=>#[_,rfl,rR _ _ _])))) (DY (pv 3))))) upV))))))))))))))))))))))))))))
end
open L2 L4
theorem cc(h:x.1 < x.2):nrm x=x:=by
 unfold nrm;rw[qY ∅,qX (by omega)]
theorem cf(x:Int×Int):nrm (x.2,x.1)=nrm x:=by
 unfold nrm;symm
 congr 1
 ·split <;> split <;> lia
 ·split <;> split <;> lia
theorem ba(h:l.Perm l'):IW l=IW l':=LG ((C7 l).trans (h.trans (C7 l').symm)) (Kb l) (Kb l')
theorem g9(h:(j.map nrm).Perm (qs.map nrm)):FD j=FD qs:=by
 unfold FD MH;let:=h.map Nv;rw[Aw,Aw]at this;rw[show(λx=>Nv (nrm x))=Nv∘nrm from rfl,ba this]
theorem FT.of(h:(ps.map nrm).Perm (j.map nrm))(f:FT p j):FT p ps:=by
 refine#[λx l=>?_,h.nodup_iff.mpr f.2];let#[y,m,e]:=Ay.mp (h.mem_iff.mp (List.mem_map_of_mem l));let:=f.1 y m;unfold Fit at this ⊢;rw[<-e];exact this
def nr(ts:¬YP)(x:Nat):Z':=CH (Dg ts x)
theorem Wn:z∈nr ts x↔((x:Int),z)∈ts∨(z,(x:Int))∈ts:=by
 unfold nr;rw[(EB _).mem_iff];unfold Dg
 grind
theorem Qs(j:Z')(k:Nat):Bt j (k:Int)=!j.getD k 0:=by
 unfold Bt Hw
 by_cases c:k < -j
 ·rw[wX (by ext),qX rfl,ID (by ext) (by rw[Ax];exact AJ c)]
  simp only[AH,eE,X9]
  ext
 ·rw[wY (by ext),qY An]
  simp only[BF,X9]
  ext
def prs(o:Nat):¬YP:=(FG o).getD []
theorem SB:∀o:Nat,o < 8->FG o=!prs o/\(∀x∈prs o,0<=x.1/\x.1 < x.2/\x.2 < o)/\(prs o).Nodup/\-prs o<=21/\(2<=o->prs o≠[])/\∀y:Nat,y < 7->-((prs o).filter λx=>decide ((y:Int)∈[x.1,x.2]))<=6:=by decide +kernel
theorem Ze:∀o:Nat,o < 8->∀s:Nat,s < 6->∃fs,DZ o s=!fs/\-fs<=21:=by
 let h:∀o:Nat,o < 8->∀s:Nat,s < 6->(match DZ o s with | some fs=>decide (-fs<=21) | none=>false)=true:=by decide +kernel
 intro o j s l;let:=h o j s l
 cases q:DZ o s with
 | none=>ext
 | some fs=>ext
theorem Kr[DecidableEq j](kvs:¬(j×l))(k:j)(v:l):-Cz kvs k v<=-kvs+1:=by
 unfold Cz;split
 ·rw[AD];ext
 ext
theorem lZ(j:Z')(vw:-j<=63)(f:Nat)(hf:f<=1000){o:Nat}(N:2<=o)(O:o < 8):∃P,Fs j f o=!(prs o).filter P:=by
 obtain⟨U,-,-,hl,Q,-⟩:=SB o O;let#[fs,R,A]:=Ze o O (j.getD 0 0 / 7 % 6).toNat ∅;rw[B1 ∅]at R;unfold Fs Ko;rw[U,show Bt j 0=!j.getD 0 0 from Qs j 0];simp only[AH,BF];rw[R];simp only[AH]
 let#[s1,X,Y]:=GQ (l:=fs) (s0:=([]:¬(YP×Bool))) (q:=λZ uw=>BQ (λzM=>zM) (B4 Z uw true*>λϜ=>!.nx Ϝ)) (λpre s=>-s<=-pre) (AM _) (by
  intro pre x s S B hs;let:=B.length_le;rw[AT,Am]at this;refine#[Cz s x true,?_,?_]
  ·rw[show B4 s x true=!Cz s x true from qX ∅]
   rfl
  ·rw[AT,Am]
   exact A5 (Kr _ _ _) (by ext))
 rw[X];simp only[BF];rw[iK (by ext) ∅ (by split <;> ext) (by split <;> lia)]
 let C:0 < (-prs o:Int):=by let:=Yl.mpr (Q N);ext
 obtain⟨E,e4,-⟩:=GQ (l:=CA (f:Int) ((if (63:Int) < (-j:Int)then(63:Int)else(-j:Int)) - (f:Int)).toNat) (q:=λm Ϙ=>AU ((atI j Ϙ*>λϣ=>MN ϣ (-prs o:Int)).bind (λG=>atI (prs o) G) |>.bind λxB=>!.nx xB) λH=>BQ (λI=>I) ((if (not (AR m H).isSome) then !true else(AR m H).bind λJ=>!not J)*>λxZ=>B4 m H xZ*>λL=>!.nx L)) (λpre s=>-s<=21+-pre) (A5 Y A) (by
  intro pre x s S B hs;let T:=B.length_le;rw[AT,Am,Ck]at T;let#[zz,zA]:=Cm.mp S;obtain⟨y,ey,-⟩:=Ts (l:=j) (i:=x) ∅ (by split at zA <;> lia);rw[ey];simp only[AH];rw[TW C];simp only[AH];obtain⟨t,et,-⟩:=YZ y (Q N);rw[et];simp only[AH,BF]
  let hb:∃b,(if (not (AR s t).isSome) then !true else(AR s t).bind λJ=>!not J)=!b:=by
   cases AR s t with
   | none=>decide
   | some b=>exact#[not b,rfl]
  let#[b,hb]:=hb;rw[hb];simp only[AH];refine#[Cz s t b,?_,?_]
  ·rw[show B4 s t b=!Cz s t b from qX (by split at T <;> lia)]
   rfl
  ·rw[AT,Am]
   exact A5 (Kr _ _ _) ∅)
 refine#[λx=>match AR E x with | some b=>b | none=>false,?_];let w:=e4;simp only[Option.bind_assoc,AH]at w ⊢;rw[w];simp only[BF]
 rw[Fm (P:=λx=>match AR E x with | some b=>b | none=>false) ∅ (by
  intro x _
  cases AR E x with
  | none=>rfl
  | some b=>rfl)]
 rfl
structure GB(o:Nat)(ts:¬YP):Prop where
 rg:∀x∈ts,0<=x.1/\x.1 < x.2/\x.2 < o
 nd:ts.Nodup
 ln:-ts<=21
 dg:∀y:Nat,y < 7->-(ts.filter λx=>decide ((y:Int)∈[x.1,x.2]))<=6
theorem Xn(j:o < 8)(P:Int×Int->Bool):GB o ((prs o).filter P):=by
 obtain⟨-,l,m,w,-,A⟩:=SB o j;refine#[λx B=>l x (BA.mp B).1,m.filter _,A5 (CO _ _) w,λy C=>?_];refine A5 ?_ (A y C);exact(si _ Ym).length_le
theorem dU(j:Z')(hl:-ts<=1000):∃hs,Fg j ts=!hs/\(hs=ts∨hs=ts.reverse.map λx=>(x.2,x.1)):=by
 unfold Fg Iu;rw[show Bt j 0=!j.getD 0 0 from Qs j 0];simp only[AH]
 by_cases c:j.getD 0 0 / 42 % 2=0
 ·rw[wX c,qX rfl]
  exact#[ts,rfl,.inl rfl]
 ·rw[wY c,qY An]
  rw[FJ (by rw[Md];lia) λx G=>rfl];exact#[_,rfl,.inr rfl]
theorem GB.nrm(h:GB o ts):ts.map nrm=ts:=by
 conv=>rhs;rw[<-Ln ts]
 exact B0 λx j=>cc (h.rg x j).2.1
theorem GB.fit(h:GB o ts):FT o ts:=by
 refine#[λx j=>?_,by rw[h.nrm];exact h.nd];let:=h.rg x j;unfold Fit;rw[cc this.2.1];grind
theorem GB.mem(h:GB o ts):t∈FD ts↔t∈ts:=by
 rw[(Nt ts).mem_iff,h.nrm]
theorem GB.web(h:GB o ts)(m:1<=o)(w:o<=60)(e:hs=ts∨hs=ts.reverse.map λx=>(x.2,x.1)):Yq (o:Int) hs=!(o,FD ts):=by
 let j:(hs.map M.nrm).Perm (ts.map M.nrm):=by
  rcases e with rfl | rfl
  ·rfl
  ·rw[Aw,show(M.nrm∘λx:Int×Int=>(x.2,x.1))=M.nrm from funext λx=>cf x,O3]
   ext
 let l:-hs=-ts:=by let:=j.length_eq;rwa [AD,AD]at this
 unfold Yq;rw[qX #[by lia,by lia,FT.of j h.fit,by rw[l];let:=h.ln;lia],g9 j,Ax]
theorem ck{o:Nat}{us:¬YP}{g:Int}(j:0<=g)(l:g < o):atI (IA o us) g=!nr us g.toNat:=by
 refine ID j ?_;unfold IA;rw[Ai,ET (by ext)];rfl
theorem iq{o:Nat}{us:¬YP}{g:Int}(j:0<=g)(l:g < o):QQ (o,us) g=!nr us g.toNat:=by
 unfold QQ We Es GM;rw[wX j,qX rfl,wX l];rw[ck j l];rfl
def lnr(ts:¬YP)(y:Int):Z':=(ts.filter λx=>decide (y∈[x.1,x.2])).map λx=>x.1+x.2 - y
theorem YG(hl:-ts<=1000)(y:Int):Fu ts y=!CH (lnr ts y):=by
 unfold Fu Kq;simp only[AH,jJ (show([]:Z').length<=1000000 by decide),BF]
 let#[s,e,rfl]:=GQ (l:=ts) (s0:=([]:Z')) (q:=λo j=>BQ (λw=>w) (if decide (y∈[j.1,j.2]) then BQ (λA=>A) (HG o (j.1+j.2 - y)*>λB=>!.nx B)else !.nx o)) (λpre s=>s=lnr pre y) rfl (by
  rintro pre x s H C rfl;let m:=C.length_le;rw[AT,Am]at m
  let E:-lnr pre y<=-pre:=by unfold lnr;rw[AD];exact CO _ _
  let G:lnr (pre++[x]) y=if decide (y∈[x.1,x.2]) then lnr pre y++[x.1+x.2 - y]else lnr pre y:=by
   unfold lnr;rw[VN];split
   ·rw[Bv];rfl
   ·rfl
  rw[G]
  cases c:decide (y∈[x.1,x.2])with
  | true=>
   rw[qX rfl,qX rfl,PY ∅];exact#[_,rfl,rfl]
  | false=>exact#[_,rfl,rfl])
 rw[e];rfl
theorem YF:z∈lnr ts y↔(y,z)∈ts∨(z,y)∈ts:=by
 unfold lnr;rw[Ay]
 constructor
 ·grind
 ·rintro(h | h)
  ·exact#[_,BA.mpr #[h,wX ∅],by lia]
  ·exact#[_,BA.mpr #[h,wX ∅],by ext]
theorem Dz:x∈CH l↔x∈l:=(EB l).mem_iff
theorem GB.near(h:GB o ts)(j:0<=g)(z:Int):z∈nr (FD ts) g.toNat↔z∈CH (lnr ts g):=by
 rw[Wn,Dz,YF,h.mem,h.mem,B1 j]
theorem cW:∀n:Nat,n < 128->∀x:Nat,x < 7->DL (n:Int) (1 * 2 ^ x)=((n ||| 2 ^ x:Nat):Int)/\(n ||| 2 ^ x) < 128/\∀y:Nat,y < 7->(n ||| 2 ^ x).testBit y=(n.testBit y||decide (x=y)):=by decide +kernel
theorem Y8:∀x:Nat,x < 8->Gf 1 (x:Int)=!1 * 2 ^ x:=by decide +kernel
theorem oP(h:∀x∈l,0<=x/\x < 7):Ok (Fq l) λr=>∃n:Nat,r=n/\n < 128/\∀y:Nat,y < 7->(n.testBit y=true↔(y:Int)∈l):=by
 unfold Fq Nz;simp only[AH,BF];refine OkF.out (OkF.seq (OkF.for (λpre (s:Int)=>∃n:Nat,s=n/\n < 128/\∀y:Nat,y < 7->(n.testBit y=true↔(y:Int)∈pre)) #[0,rfl,by decide,λy M=>by simp] ?_) ?_)
 ·rintro pre x s o H ⟨n,rfl,w,j⟩
  let#[I,J]:=h x o
  obtain⟨k,rfl⟩:∃k:Nat,x=k:=#[x.toNat,by lia]
  rw[Y8 k ∅];let#[A,B,C]:=cW n w k ∅;refine .nx #[n ||| 2 ^ k,A,B,λy m=>?_];rw[C y m,Q8,j y m,Aj,Av,decide_eq_true_eq];refine#[λq=>q.elim .inl λq=>.inr (by rw[q]),λq=>q.elim .inl λq=>.inr ∅]
 ·rintro s ⟨n,rfl,E,G⟩
  exact .rt #[n,rfl,E,G]
def Tg(us:¬YP)(g:Int):Z':=CH ([g]++nr us g.toNat)
def tkl(o:Nat)(us:¬YP):¬Z':=(CA 0 o).map (Tg us)
theorem jz{o:Nat}{us:¬YP}{g:Int}(j:0<=g)(l:g < o):atI (tkl o us) g=!Tg us g:=by
 refine ID j ?_;unfold tkl CA;rw[Ai,Ai,ET ∅];show (!Tg us (0+(g.toNat:Int)))=_;rw[show(0:Int)+(g.toNat:Int)=g by lia]
theorem bW{o:Nat}{us:¬YP}{g:Int}(j:0<=g)(l:g < o):Tk (tkl o us) g=Tg us g:=by
 unfold Tk;rw[jz j l];rfl
structure KC(o:Nat)(us:¬YP):Prop where
 sm:o < 8
 len:∀g:Int,0<=g->g < o->-nr us g.toNat<=6
 rg:∀g:Int,0<=g->g < o->∀x∈nr us g.toNat,0<=x/\x < o/\x≠g
 nd:∀g:Int,0<=g->g < o->(nr us g.toNat).Nodup
section
variable{o:Nat}{us:¬YP}
theorem Qx:x∈Tg us g↔x=g∨x∈nr us g.toNat:=by
 unfold Tg;rw[Dz];simp
theorem KC.tg(h:KC o us){g:Int}(j:0<=g)(l:g < o):-Tg us g<=7/\(∀x∈Tg us g,0<=x/\x < o)/\(Tg us g).Pairwise (· < ·):=by
 refine#[?_,λx m=>?_,?_]
 ·unfold Tg
  rw[(EB _).length_eq,AT,Am];let:=h.len g j l
  lia
 ·rcases Qx.mp m with rfl | m
  ·ext
  ·exact#[(h.rg g j l x m).1,(h.rg g j l x m).2.1]
 ·let w:(Tg us g).Nodup:=by
   unfold Tg;rw[(EB _).nodup_iff];show(g :: nr us g.toNat).Nodup;rw[BO];exact#[λz=>(h.rg g j l g z).2.2 rfl,h.nd g j l]
  let:=(P3 ([g]++nr us g.toNat))
  exact(Rp this w).imp λ#[a,b]=>by lia
theorem hV(h:KC o us):Gy (o,us)=!tkl o us:=by
 unfold Gy MJ;simp only[AH];rw[PJ ∅ (by let:=h.sm;lia),Ax];simp only[AH]
 rw[FJ (by rw[Ck];let:=h.sm;lia) λx l=>by
  let#[j,m]:=Cm.mp l;rw[iq j (by ext),oE];simp only[AH];rw[LK (by let:=h.len x j ∅;rw[Am];lia)]
  rfl]
 rfl
theorem UM(f:Int->Int):∀l:Z',l.zip (l.map f)=l.map λg=>(g,f g)
 | []=>rfl
 | x :: l=>by rw[Al,IP,UM f l];rfl
theorem fW{a b:Z'}{x y z:Int}(w:b.Nodup)(A:(x,z)∈a.zip b)(B:(y,z)∈a.zip b):x=y:=by
 let#[i,C,l]:=CL A;let#[j,E,m]:=CL B;rw[KR]at C E;rw[J3]at l m;let G:=(jd l);let H:=(jd m);let:i=j:=(J4 w).mp (G.2.trans H.2.symm)
 ext
end
open L2 L4
open Srt (ltL)
theorem U8:∀a:Z',ltL a a=false
 | []=>rfl
 | x :: a=>by unfold ltL;rw[qX rfl];exact U8 a
section
variable{o:Nat}{us:¬YP}
def Zu(us:¬YP)(j:Z')(c:Int)(r:Z'):Prop:=-r=-j/\r.Nodup/\(∀y∈j.zip r,y.2∈Tg us y.1)/\c∈r
theorem Zu.rg(h:KC o us){j r:Z'}{c:Int}(w:∀g∈j,0<=g/\g < o)(l:Zu us j c r):∀x∈r,0<=x/\x < o:=λx A=>by
 let#[i,B,rfl]:=CL A
 let C:i < -j:=by rw[<-l.1];exact B
 let m:(j[i],r[i])∈j.zip r:=by
  let:(j.zip r)[i]'(by rw[KR];grind)=(j[i],r[i]):=J3;rw[<-this];exact CJ _
 let:=w j[i] (CJ _);exact(h.tg this.1 this.2).2.1 _ (l.2.2.1 _ m)
end
theorem n8:∀n:Nat,n < 128->∀x:Nat,x < 7->hb (n:Int) (x:Int)=n.testBit x:=by decide +kernel
abbrev bit(n:Nat)(x:Int):Prop:=n.testBit x.toNat=true
def InS(us:¬YP)(j:Z')(P:Int->Prop)(r:Z'):Prop:=-r=-j/\r.Nodup/\(∀y∈j.zip r,y.2∈Tg us y.1)/\∀x∈r,P x
section
variable{o:Nat}{us:¬YP}{gs rest:Z'}{P Q:Int->Prop}{g:Int}{n:Nat}
theorem InS.rg(h:KC o us)(w:∀g∈gs,0<=g/\g < o)(j:InS us gs P r):∀x∈r,0<=x/\x < o:=λx A=>by
 let#[i,B,rfl]:=CL A;let C:=j.1
 let m:(gs[i]'∅,r[i])∈gs.zip r:=by
  let:(gs.zip r)[i]'(by rw[KR];grind)=(gs[i]'∅,r[i]):=J3;rw[<-this];exact CJ _
 let l:=w _ (CJ (show i < -gs by lia));exact(h.tg l.1 l.2).2.1 _ (j.2.2.1 _ m)
theorem InS.imp(j:InS us gs P r)(i:∀x∈r,P x->Q x):InS us gs Q r:=#[j.1,j.2.1,j.2.2.1,λx l=>i x l (j.2.2.2 x l)]
theorem l6(h:KC o us)(H:n < 128)(w:∀g∈rest,0<=g/\g < o)(I:rest.Nodup):Sdr (Tk (tkl o us)) (n:Int) rest↔∃r,InS us rest (bit n) r:=by
 let S:=h.sm
 let hw:∀g∈rest,∀x,x∈w0 (Tk (tkl o us)) (n:Int) g↔x∈Tg us g/\bit n x:=λg j x=>by
  unfold w0;rw[BA,bW (w g j).1 (w g j).2]
  refine and_congr_right λa=>?_
  let:=(h.tg (w g j).1 (w g j).2).2.1 x a
  obtain⟨k,rfl⟩:∃k:Nat,x=k:=#[x.toNat,by lia]
  unfold bit;rw[n8 n H k ∅,Ax]
 constructor
 ·rintro⟨f,J,L⟩
  refine#[rest.map f,AD _,?_,λy E=>?_,λx T=>?_]
  ·unfold IR
   rw[BL]
   exact I.imp_of_mem λ{a b} C m ne e=>ne (L a C b m e)
  ·rw[UM]at E
   let#[g,j,rfl]:=Ay.mp E;exact((hw g j _).mp (J g j)).1
  grind
 ·rintro⟨l,U,N,O,R⟩
  let A:∀a:Int,∃z:Int,a∈rest->(a,z)∈rest.zip l:=λa=>by
   by_cases q:a∈rest
   ·let#[i,X,e]:=CL q
    refine#[l[i]'∅,λM=>?_]
    let:(rest.zip l)[i]'(by rw[KR];ext)=(a,l[i]'∅):=by rw[J3,e]
    rw[<-this];exact CJ _
   ext
  let B:=λa=>Jg (A a)
  refine#[λa=>GZ (A a),λg j=>(hw g j _).mpr #[O _ (B g j),R _ (KQ (B g j)).2],λa C b m e=>?_];let e:GZ (A a)=GZ (A b):=e;let G:=B a C;rw[e]at G;exact fW N G (B b m)
theorem oB(h:KC o us)(B:n < 128)(l:∀g∈rest,0<=g/\g < o)(w:rest.Nodup):Ok (QR (tkl o us) rest (n:Int)) λb=>b=true↔∃r,InS us rest (bit n) r:=by
 let I:=h.sm
 let A:(-tkl o us:Int)=o:=by unfold tkl;rw[AD,Ck]
 let C:(∀t∈tkl o us,t.length<=1000/\∀x∈t,0<=x)/\∀g∈rest,0<=g/\g < (-tkl o us:Int):=by
  refine#[λt E=>?_,λg j=>by ext];let#[g,j,rfl]:=Ay.mp E;let#[G,J]:=Cm.mp j;let:=h.tg G (by ext);exact#[by omega,λx m=>(this.2.1 x m).1]
 let fs:=Zc (T:=Tk (tkl o us)) (bits:=(n:Int)) (U:=CA 0 o) (n:=9) (λg j x m=>by
  rw[bW j.1 j.2]at m;let:=(h.tg j.1 j.2).2.1 x m
  exact Cm.mpr #[this.1,by ext]) (by rw[Ck];lia) (by rw[Ck];lia) (λg j=>#[l g j,by rw[bW (l g j).1 (l g j).2];exact Qx.mpr (.inl rfl)]) w
 let H:QR (tkl o us) rest (n:Int)=Qb (Tk (tkl o us)) (n:Int) 9 rest:=qX C;rw[H]
 exact fs.imp λb hb=>hb.trans (l6 h B l w)
end
end M
namespace L4
theorem Sq{ρ j:Type}{c:j->⇑Bool}{q:j->⇑(Fw ρ j)}(I:j->Prop)(l:j->Nat)(h:∀s,I s->c s=!false∨(c s=!true/\∃s',q s=!.nx s'/\I s'/\l s' < l s)) :
  ∀(n:Nat) (s:j),I s->l s < n->∃s',whF c q n s=!.nx s'/\I s'/\c s'=!false
 | 0,s,_,m=>zX m (RJ _)
 | n+1,s,w,m=>by
  unfold whF
  rcases h s w with o | ⟨o,s',A,B,C⟩
  ·ext
  ·rw[o]
   rw[A];exact Sq I l h n s' B ∅
end L4
namespace M
open L2 L4
theorem PZ(a b:Nat):BE (a:Int) (b:Int)=((a &&& b:Nat):Int):=by
 rfl
theorem TR(a b:Nat):DL (a:Int) (b:Int)=((a ||| b:Nat):Int):=by
 unfold DL BE aR;rw[wY ∅,wY ∅];rw[show((unop% Neg.neg ((unop% Neg.neg (a:Int)) - 1)) - 1).toNat=a by lia,show((unop% Neg.neg ((unop% Neg.neg (b:Int)) - 1)) - 1).toNat=b by lia]
 lia
theorem cV:∀a b:Nat,(a ||| b)=(a ^^^ b)+(a &&& b):=by
 intro a
 induction a using jf with
 | ind a w=>
  intro b
  by_cases h:a=0
  ·ext
  ·let e:=w (a / 2) ∅ (b / 2)
   let A:=Nat.or_div_two (a:=a) (b:=b);let B:=Nat.xor_div_two (a:=a) (b:=b);let C:=RK (a:=a) (b:=b);let j:=Nat.or_mod_two_pow (a:=a) (b:=b) (n:=1);let l:(a ^^^ b) % 2=(a % 2 ^^^ b % 2):=Nat.xor_mod_two_pow (n:=1);let m:=Mj (a:=a) (b:=b) (n:=1)
   rcases Ik a with o | o <;> rcases Ik b with hb | hb <;> rw[o,hb]at j l m <;> simp only[Nat.reduceOr,Nat.reduceXor,Nat.reduceAnd]at j l m <;> lia
theorem fX(a b:Nat):E1 (a:Int) (b:Int)=((a ^^^ b:Nat):Int):=by
 unfold E1;rw[TR,PZ,cV]
 ext
theorem i5:∀b:Nat,0 < b->∃i:Nat,b.testBit i/\(∀j,j < i->b.testBit j=false)/\b=(b &&& (b - 1))+2 ^ i/\∀j,(b &&& (b - 1)).testBit j=(b.testBit j&&not (decide (i=j))):=by
 intro b
 induction b using jf with
 | ind b o=>
  intro hb
  rcases Ik b with h | h
  ·let#[i,B,w,C,A]:=o (b / 2) ∅ ∅
   let d:=RK (a:=b) (b:=b - 1);rw[show(b - 1) / 2=b / 2 - 1 by grind]at d;let l:(b &&& (b - 1)) % 2=(b % 2 &&& (b - 1) % 2):=Mj (n:=1);rw[h]at l;simp at l;refine#[i+1,by grind,λj m=>?_,?_,λj=>?_]
   ·cases j with
    | zero=>rw[Nat.testBit_zero];lia
    | succ j=>rw[HR];exact w j ∅
   ·rw[V2];lia
   ·cases j with
    | zero=>
     grind
    | succ j=>
     rw[HR,HR,d,A j]
     simp
  ·let d:=RK (a:=b) (b:=b - 1)
   rw[show(b - 1) / 2=b / 2 by grind,Nat.and_self]at d;let l:(b &&& (b - 1)) % 2=(b % 2 &&& (b - 1) % 2):=Mj (n:=1);rw[h,show(b - 1) % 2=0 by grind]at l;simp at l;refine#[0,by ext,λj m=>zX m (RJ _),by rw[Nat.pow_zero];lia,λj=>?_]
   cases j with
   | zero=>
    ext
   | succ j=>
    rw[HR,HR,d];simp
theorem ZM{b i:Nat}(h:b=(b &&& (b - 1))+2 ^ i)(hb:0 < b):BE (b:Int) ((unop% Neg.neg (b:Int)))=((2 ^ i:Nat):Int):=by
 unfold BE aR;rw[wX (Int.natCast_nonneg b),wY ∅];rw[show((unop% Neg.neg (unop% Neg.neg (b:Int))) - 1).toNat=b - 1 by simp,Ax]
 lia
theorem eC(i:Nat):D5 ((2 ^ i:Nat):Int)=i+1:=by
 unfold D5;let h:=Ek (je i);rw[qY (by rw[beq_iff_eq];lia),Int.natAbs_natCast,Nat.log2_two_pow]
def Bm(b:Nat)(l:Z'):Prop:=l.Pairwise (· < ·)/\∀x:Int,x∈l↔0<=x/\b.testBit x.toNat=true
theorem ZO{b N:Nat}(hb:b < 2 ^ N)(hN:N<=1000):Ok (JW (b:Int)) (Bm b):=by
 unfold JW Ny;simp only[AH,de,BF]
 let#[#[t,l],e,P,B]:=Sq (c:=λs:Z'×Int=>!s.2 != 0) (q:=λs:Z'×Int=>AU (HG s.1 ((D5 (BE s.2 ((unop% Neg.neg s.2))):Int) - 1)*>λl=>!.nx l) λv=>BQ (λw=>(v,w)) (!.nx (BE s.2 (s.2 - 1))))
  (λs=>∃c:Nat,s.2=c/\s.1.Pairwise (· < ·)/\(∀x∈s.1,0<=x/\x < N/\b.testBit x.toNat/\∀j:Nat,c.testBit j->x < j)/\(∀j:Nat,b.testBit j->(j:Int)∈s.1∨c.testBit j=true)/\(∀j:Nat,c.testBit j->b.testBit j=true))
  (λs=>N - -s.1) (by
   rintro s ⟨c,B,C,o,J,G⟩
   by_cases L:c=0
   ·left
    ext
   ·right
    let#[i,E,q2,Q,R]:=i5 c ∅
    let hi:i < N:=by
     let:=G i E
     refine fG λH=>?_
     let S:=Vz (Ab hb (Hg (by decide) H));rw[S]at this;cases this
    let O:-s.1 < N:=by
     let T:(s.1++[(i:Int)]).Nodup:=by
      refine JK.mpr #[C.imp λh=>by lia,by simp,λx m y I=>?_];rw[Av.mp I];let:=(o x m).2.2.2 i E
      lia
     let:=Gz (k:=CA 0 N) T λx m=>by
      rw[Cm]
      rcases Aj.mp m with m | m
      ·let:=o x m;grind
      ·rw[Av.mp m];grind
     rw[Ck,AT,Am]at this;exact this
    refine#[by rw[B];exact congrArg some (bne_iff_ne.mpr ∅),(s.1++[(i:Int)],((c &&& (c - 1):Nat):Int)),?_,#[_,rfl,?_,λx m=>?_,λj A=>?_,λj A=>?_],?_]
    ·rw[B,ZM Q ∅,eC,PY ∅,show(c:Int) - 1=((c - 1:Nat):Int) by lia,PZ]
     simp only[AH,BF,iy]
     lia
    ·refine A6.mpr #[C,List.pairwise_singleton _ _,λx m y I=>?_]
     rw[Av.mp I];exact(o x m).2.2.2 i E
    ·rcases Aj.mp m with m | m
     ·let#[U,X,Y,Z]:=o x m
      refine#[U,X,Y,λj A=>Z j ?_]
      grind
     ·rw[Av.mp m]
      refine#[by lia,by lia,by rw[Ax];exact G i E,λj A=>?_];rw[R j,DN]at A
      let tq:i≠j:=by simpa using A.2
      let:Not (j < i):=λz=>by grind
      lia
    ·grind
    ·grind
    ·rw[AT,Am]
     grind) wN ([],(b:Int)) #[b,rfl,.nil,λM h=>(nomatch h),λj A=>.inr A,λM h=>h] (by show N - 0 < wN;lia)
 refine#[t,?_,?_]
 ·rw[e]
  rfl
 ·let#[c,tP,C,o,J,G]:=P
  let L:c=0:=by
   let B:=Bw B
   let:(c:Int)=0:=by rw[<-tP];simpa using B
   ext
  subst L;refine#[C,λx=>#[λm=>#[(o x m).1,(o x m).2.2.1],?_]];rintro⟨x0,m⟩
  rcases J x.toNat m with h | h
  ·rwa [B1 x0]at h
  ·simp at h
open L2 L4
open Srt (ltL)
theorem NA:∀{l k:Z'},l.Pairwise (· < ·)->k.Pairwise (· < ·)->(∀x,x∈l↔x∈k)->l=k
 | [],[],_,_,_=>rfl
 | [],y :: k,_,_,h=>zX ((h y).mpr (Aa ..)) DM
 | x :: l,[],_,_,h=>zX ((h x).mp (Aa ..)) DM
 | x :: l,y :: k,w,A,h=>by
  let j:=GE.mp w;let o:=GE.mp A
  let e:x=y:=by
   rcases Ak.mp ((h x).mp (Aa ..))with a | a
   ·exact a
   ·rcases Ak.mp ((h y).mpr (Aa ..))with b | b
    ·exact b.symm
    ·let:=o.1 x a
     let:=j.1 y b
     lia
  subst e
  congr 1
  refine NA j.2 o.2 λz=>#[λm=>?_,λm=>?_]
  ·rcases Ak.mp ((h z).mp (AN _ m))with a | a
   ·let:=j.1 z m;lia
   ·exact a
  grind
def WR:Z'->¬Z'
 | []=>[[]]
 | x :: l=>(WR l).map (x :: ·)++WR l
theorem Kx(P:Int->Bool):∀l:Z',l.filter P∈WR l
 | []=>by simp[WR]
 | x :: l=>by
  unfold WR;rw[List.filter_cons];split
  ·exact CS _ (Ay.mpr #[_,Kx P l,rfl])
  ·exact Bb _ (Kx P l)
def sts(o g:Nat):¬Z':=(Ft o g).getD []
def Stg(o g:Nat)(r:Z'):Prop:=-r=g/\(∀x∈r,0<=x/\x < (o:Int))/\r.Pairwise (· < ·)
theorem ly:∀o:Nat,o < 8->∀g:Nat,g < 8->g<=o->1<=g->decide (E6 (o,[]) g=!sts o g/\Ft o g=!sts o g/\sts o g≠[]/\-sts o g<=35):=by decide +kernel
theorem JR(o:Nat)(j:o < 8)(g:Nat)(l:g < 8)(m:g<=o)(w:1<=g):E6 (o,[]) g=!sts o g/\Ft o g=!sts o g/\sts o g≠[]/\-sts o g<=35:=of_decide_eq_true (ly o j g l m w)
theorem lx:∀o:Nat,o < 8->∀g:Nat,g < 8->g<=o->1<=g->decide (∀r∈sts o g,r.length=g/\(∀x∈r,0<=x/\x < (o:Int))/\r.Pairwise (· < ·)):=by decide +kernel
theorem qd(o:Nat)(j:o < 8)(g:Nat)(l:g < 8)(m:g<=o)(w:1<=g):∀r∈sts o g,r.length=g/\(∀x∈r,0<=x/\x < (o:Int))/\r.Pairwise (· < ·):=of_decide_eq_true (lx o j g l m w)
theorem lw:∀o:Nat,o < 8->∀g:Nat,g < 8->g<=o->1<=g->decide ((sts o g).Pairwise (λa b=>ltL a b=true)/\∀l∈WR (CA 0 o),l.length=g->l∈sts o g):=by decide +kernel
theorem j7(o:Nat)(j:o < 8)(g:Nat)(m:g < 8)(w:g<=o)(A:1<=g):(sts o g).Pairwise (λa b=>ltL a b=true)/\∀l∈WR (CA 0 o),l.length=g->l∈sts o g:=of_decide_eq_true (lw o j g m w A)
section
variable{o g:Nat}{us:¬YP}{r:Z'}
theorem Y3(j:o < 8)(l:g<=o)(m:1<=g):E6 (o,us) g=!sts o g:=(rfl).trans (JR o j g ∅ l m).1
theorem Er(j:o < 8)(m:g<=o)(w:1<=g):r∈sts o g↔Stg o g r:=by
 let a:=qd o j g ∅ m w;let b:=(j7 o j g ∅ m w).2;refine#[a r,?_];rintro⟨l,q,p⟩
 let e:r=(CA 0 o).filter λx=>decide (x∈r):=NA p ((PH 0 o).filter _) λx=>by
  rw[BA,Cm,decide_eq_true_eq];exact#[λh=>#[#[(q x h).1,by let:=(q x h).2;ext],h],λh=>h.2]
 let:=b _ (Kx (λx=>decide (x∈r)) (CA 0 o)) (by rw[<-e];exact l)
 lia
theorem WS(l:o < 8)(m:g<=o)(w:1<=g):(sts o g).Nodup:=by
 let a:=(j7 o l g ∅ m w).1
 exact a.imp λ{a b} j e=>by
  subst e;rw[U8]at j;cases j
end
theorem SM(h:j[i]?=!r):(DE j).take (i+1)=(DE j).take i++[((i:Int),r)]:=by
 rw[OM]
 congr 1
 unfold DE;ext
theorem rL{l:¬Z'}(w:l.Nodup){i:Nat}{r:Z'}(h:l[i]?=!r):AR (nuF l) r=!(i:Int):=by
 let m:∀k:Nat,k<=-l->∀(j:Nat) (s:Z'),j < k->l[j]?=!s->AR (((DE l).take k).foldl nuS []) s=!(j:Int):=by
  intro k
  induction k with
  | zero=>simp
  | succ k A=>
   intro G j s H o;let B:l[k]?=!l[k]'∅:=AJ ∅;rw[SM B,Gj];show AR (Cz _ _ _) s=_;rw[CN]
   by_cases e:j=k
   ·ext
   ·rw[qY,A ∅ j s ∅ o]
    intro c;let#[C,E]:=AI.mp o;rw[<-E]at c;exact JA.mp w j k C ∅ ∅ c
 let:=m (-l) (AM _) i r (AI.mp h).1 h;rwa [Cb (by unfold DE;simp)]at this
def Hb(H:Z')(n:Nat)(P:Nat->Nat->Prop):Prop:=-H=n/\∀p:Nat,p < n->∃h:Nat,H[p]?=!(h:Int)/\∀j,h.testBit j=true↔P p j
theorem dM{n k:Nat}:∀(r:Z') {H:Z'} {P:Nat->Nat->Prop},(∀x∈r,0<=x/\x < (n:Int))->Hb H n P->Hb (r.foldl (hvP (k:Int)) H) n (λp j=>P p j∨((p:Int)∈r/\j=k))
 | [],H,P,_,h=>#[h.1,λp l=>by
  let#[b,m,o]:=h.2 p l
  exact#[b,m,λj=>by rw[o];simp]]
 | x :: r,H,P,w,h=>by
  let#[B,C]:=w x (Aa ..)
  let m:Hb (hvP (k:Int) H x) n (λp j=>P p j∨((p:Int)=x/\j=k)):=by
   refine#[by unfold hvP;rw[fJ];exact h.1,λp l=>?_];let#[b,b1,b2]:=h.2 p l;unfold hvP;rw[Dc]
   by_cases c:x.toNat=p
   ·rw[qX c,qX (by rw[h.1];ext)]
    refine#[b ||| 2 ^ k,?_,λj=>?_]
    ·rw[B2,c,b1,Z5,Ax,show(1:Int) * 2 ^ k=((2 ^ k:Nat):Int) by rw[sj];norm_cast,TR]
    ·rw[Nat.testBit_or,Q8,b2,Z6]
     rw[decide_eq_true_eq]
     let:(p:Int)=x:=by lia
     exact or_congr_right #[λe=>#[this,e.symm],λe=>e.2.symm]
   ·rw[qY c]
    refine#[b,b1,λj=>?_];rw[b2]
    let:Not ((p:Int)=x):=by lia
    exact#[.inl,λz=>z.elim id λz=>zX z.1 this]
  let o:=dM (k:=k) r (λy A=>w y (AN _ A)) m
  grind
theorem rl{n:Nat}{l:¬Z'}(B:∀r∈l,∀x∈r,0<=x/\x < (n:Int)):Hb (hvF n l) n (λp j=>∃r,l[j]?=!r/\(p:Int)∈r):=by
 let w:∀k:Nat,k<=-l->Hb (((DE l).take k).foldl hvS (hv0 n)) n (λp j=>j < k/\∃r,l[j]?=!r/\(p:Int)∈r):=by
  intro k
  induction k with
  | zero=>
   intro _;refine#[by unfold hv0;rw[jh,ji,AD,Ck],λp m=>#[0,?_,λj=>by simp]];unfold hv0;rw[jh,ji,Ai,AJ (by rw[Ck];exact m)];rfl
  | succ k C=>
   intro I;let A:l[k]?=!l[k]'∅:=AJ ∅;rw[SM A,Gj];let o:=dM (k:=k) l[k] (B _ (CJ _)) (C ∅);refine#[o.1,λp m=>?_];let#[b,b1,b2]:=o.2 p m;refine#[b,b1,λj=>(b2 j).trans ?_]
   constructor
   ·rintro(⟨a,q⟩ | ⟨a,rfl⟩)
    ·exact#[by lia,q]
    ·exact#[by ext,_,A,a]
   ·rintro⟨a,r,E,G⟩
    by_cases e:j=k
    ·lia
    ·exact .inl #[by lia,r,E,G]
 let:=w (-l) (AM _);rw[Cb (by unfold DE;simp)]at this;refine#[this.1,λp m=>?_];let#[b,b1,b2]:=this.2 p m;refine#[b,b1,λj=>(b2 j).trans ?_];exact#[λh=>h.2,λ#[r,o,H]=>#[(AI.mp o).1,r,o,H]]
theorem M5(h:l.Nodup):(CH l).Pairwise (· < ·):=(Rp (P3 l) ((EB l).nodup_iff.mpr h)).imp λ#[a,b]=>by lia
theorem bR{s:Z'}(h:s.Pairwise (· < ·)):s.Nodup:=h.imp λh=>by lia
def wst(r:Z')(a b:Int):Z':=r.map λx=>if x=a then b else x
theorem pp(hl:-r<=1000)(a b:Int):HE r a b=!wst r a b:=by
 unfold HE Kn
 rw[FJ (f:=λx=>if x=a then b else x) ∅ λx G=>by
  lia]
 rfl
theorem Sk(j:a∈r):x∈wst r a b↔x=b∨(x∈r/\x≠a):=by
 unfold wst
 grind
theorem k9(j:r.Nodup)(hb:b∉r):(wst r a b).Nodup:=by
 unfold wst IR;rw[BL]
 refine j.imp_of_mem λ{x y} l m ne=>?_
 lia
structure Fk(o g:Nat)(us:¬YP)(kd:Str)(f:Fp):Prop where
 ev:f.ev=sts o g
 kd:f.kd=kd
 tk:f.tk=tkl o us
 nu:f.nu=nuF (sts o g)
 hv:f.hv=hvF o (sts o g)
 pl:-f.pb=-sts o g
 pb:∀(i:Nat) (r:Z'),(sts o g)[i]?=!r->∃n:Nat,f.pb[i]?=!(n:Int)/\n < 128/\∀x:Int,0<=x->x < 7->(n.testBit x.toNat=true↔x∈r)
section
variable{o g:Nat}{us:¬YP}{kd:Str}{f:Fp}{r r':Z'}{i:Nat}
theorem dc(h:KC o us)(l:g<=o)(m:1<=g):Ok (Jo (o,us) g kd) (Fk o g us kd):=by
 let w:=h.sm
 let hb:∀r∈sts o g,∃n:Nat,Fq r=!(n:Int)/\n < 128/\∀x:Int,0<=x->x < 7->(n.testBit x.toNat=true↔x∈r):=λr j=>by
  obtain⟨-,q,-⟩:=(Er w l m).mp j
  let#[v,e,n,rfl,b1,b2]:=oP λx A=>by let:=q x A;lia
  exact#[n,e,b1,λx B C=>by rw[b2 x.toNat (by ext),B1 B]]
 obtain⟨-,-,-,E⟩:=JR o w g ∅ l m;unfold Jo;rw[Y3 w l m,hV h];simp only[AH]
 rw[FJ (f:=λr=>(Fq r).getD 0) ∅ λr j=>by
  obtain⟨n,e,-⟩:=hb r j;rw[e]
  rfl]
 simp only[AH];rw[qX #[by lia,by show o<=1000;lia,λr j x A=>((Er w l m).mp j).2.1 x A]];refine#[_,rfl,rfl,rfl,rfl,rfl,rfl,AD _,λi r j=>?_];let#[n,e,b1,b2]:=hb r (Az j);refine#[n,?_,b1,b2];ext
def Lk1(us:¬YP)(r r':Z'):Prop:=∃a∈r,∃b∈Tg us a,b∉r/\CH (wst r a b)=r'
def LkA(us:¬YP)(r r':Z'):Prop:=∃s,InS us r (·∈r') s
theorem XT(h:KC o us){a b:Int}(A:Stg o g r)(m:a∈r)(hb:b∈Tg us a)(j:b∉r):Stg o g (CH (wst r a b)):=by
 let#[l,q,p]:=A;let w:=q a m;let B:=(h.tg w.1 w.2).2.1 b hb;refine#[by rw[(EB _).length_eq];unfold wst;ext,λx C=>?_,M5 (k9 (bR p) j)]
 rcases(Sk m).mp (Dz.mp C)with rfl | ⟨h,_⟩
 ·exact B
 ·exact q x h
theorem Qv(h:l[i]?=!x):atI l (i:Int)=!x:=ID ∅ (by assumption)
theorem eD{b n:Nat}{P:Nat->Prop}(hb:∀j,b.testBit j=true↔P j)(j:Nat):(b ||| 2 ^ n).testBit j=true↔P j∨n=j:=by
 grind
theorem PF{n:Nat}(h:n<=1000000):Gf 1 (n:Int)=!((2 ^ n:Nat):Int):=by
 unfold Gf;rw[qX #[by ext,by lia,by decide],Ax,sj]
 norm_cast
theorem rH(h:KC o us)(A:g<=o)(B:1<=g)(F:Fk o g us kd f)(J:(sts o g)[i]?=!r):Ok (Cg f i) λv=>∃l:Nat,v=l/\∀j,l.testBit j=true↔∃r',(sts o g)[j]?=!r'/\Lk1 us r r':=by
 let C:=h.sm;let E:=(Er C A B).mp (Az J);obtain⟨-,-,-,T⟩:=JR o C g ∅ A B;unfold Cg El;rw[F.ev,Qv J];simp only[AH,BF];refine OkF.out (OkF.seq (OkF.for (λpre (s:Int)=>∃l:Nat,s=l/\∀j,l.testBit j=true↔∃r',(sts o g)[j]?=!r'/\∃a∈pre,∃b∈Tg us a,b∉r/\CH (wst r a b)=r') #[0,rfl,λj=>by simp] ?_) ?_)
 ·rintro pre a s L U ⟨l,rfl,G⟩
  let N:=E.2.1 a L;rw[F.tk,jz N.1 N.2];refine OkF.map (OkF.for (λO (s:Int)=>∃l:Nat,s=l/\∀j,l.testBit j=true↔∃r',(sts o g)[j]?=!r'/\((∃a∈pre,∃b∈Tg us a,b∉r/\CH (wst r a b)=r')∨∃b∈O,b∉r/\CH (wst r a b)=r')) #[l,rfl,λj=>by rw[G];simp] ?_) ?_
  ·rintro O b s hb X ⟨l,rfl,P⟩
   by_cases c:b∈r
   ·rw[wX c]
    refine .nx #[l,rfl,λj=>(P j).trans #[by rintro⟨r',e,z⟩;exact#[r',e,z.imp id (by rintro⟨b,hb,z⟩;exact#[b,CS _ hb,z])],λ#[r',e,z]=>#[r',e,z.imp id ?_]]];rintro⟨H,m,z⟩
    rcases Aj.mp m with q | q
    ·exact#[H,q,z]
    ·rw[Av.mp q]at z
     exact zX c z.1
   ·rw[wY c]
    let hw:=XT h E L hb c;let#[k,Q,R]:=CL ((Er C A B).mpr hw)
    let w:(sts o g)[k]?=!CH (wst r a b):=by rw[AJ Q,R]
    rw[pp (by rw[E.1];lia)];simp only[AH];rw[F.nu,rL (WS C A B) w];simp only[AH];rw[PF ∅];simp only[AH];rw[TR];refine .nx #[_,rfl,λj=>(eD P j).trans #[?_,?_]]
    ·rintro(⟨r',e,z⟩ | rfl)
     ·exact#[r',e,z.imp id (by rintro⟨b,hb,z⟩;exact#[b,CS _ hb,z])]
     ·exact#[_,w,.inr #[b,by simp,c,rfl]]
    ·rintro⟨r',e,z | ⟨H,m,S,I⟩⟩
     ·exact .inl #[r',e,.inl z]
     ·rcases Aj.mp m with q | q
      ·exact .inl #[r',e,.inr #[H,q,S,I]]
      ·right
       rw[Av.mp q]at I;rw[<-I,<-w]at e;exact(aK Q (WS C A B)).mp e.symm
  ext
 ·rintro s ⟨l,rfl,G⟩
  exact .rt #[l,rfl,G]
theorem Zf{l:Type}{j:¬l}{pre:¬(Int×l)}{x:Int×l}(h:pre++[x] <+: DE j):∃r,j[pre.length]?=!r/\x=((-pre:Int),r):=by
 let#[t,w]:=h
 let m:(DE j)[pre.length]?=!x:=by rw[<-w,Ba];simp
 unfold DE at m;rw[Ai,Lq]at m
 cases A:j[pre.length]? with
 | none=>ext
 | some r=>ext
theorem sE(h:KC o us)(A:g<=o)(B:1<=g)(F:Fk o g us kd f)(I:(sts o g)[i]?=!r):Ok (Ch f i) λv=>∃l:Nat,v=l/\∀j,l.testBit j=true↔∃r',(sts o g)[j]?=!r'/\LkA us r r':=by
 let C:=h.sm;let E:=(Er C A B).mp (Az I);obtain⟨-,-,-,Z⟩:=JR o C g ∅ A B;unfold Ch Em;rw[F.ev,Qv I];simp only[AH,BF];refine OkF.out (OkF.seq (OkF.for (λpre (s:Int)=>∃l:Nat,s=l/\∀j,l.testBit j=true↔j < -pre/\∃r',(sts o g)[j]?=!r'/\LkA us r r') #[0,rfl,λj=>by simp] ?_) ?_)
 ·rintro pre x s J Q ⟨l,rfl,m⟩
  let#[n',L,rfl]:=Zf Q
  let R:-pre < -sts o g:=by rw[<-F.pl];exact(AI.mp L).1
  let w:=AJ R;generalize (sts o g)[pre.length]=r' at w;let S:=(Er C A B).mp (Az w);let#[n,N,T,O]:=F.pb _ _ w;rw[L]at N;cases N;let#[b,U,hb]:=oB h T E.2.1 (bR E.2.2);rw[F.tk];rw[U];simp only[AH]
  let G:b=true↔LkA us r r':=by
   rw[hb]
   refine exists_congr λs=>#[λq=>q.imp λx J=>?_,λq=>?_]
   ·intro z
    let:=InS.rg h E.2.1 q x J;exact(O x this.1 ∅).mp z
   ·refine q.imp λx M z=>?_
    let:=S.2.1 x z;exact(O x this.1 ∅).mpr z
  let P:∀j,(j < (pre++[((-pre:Int),(n:Int))]).length/\∃r',(sts o g)[j]?=!r'/\LkA us r r')↔(j < -pre/\∃r',(sts o g)[j]?=!r'/\LkA us r r')∨(-pre=j/\LkA us r r'):=λj=>by
   rw[AT,Am]
   constructor
   ·rintro⟨a,s,X,Y⟩
    by_cases e:-pre=j
    ·ext
    ·exact .inl #[by lia,s,X,Y]
   ·rintro(⟨a,q⟩ | ⟨rfl,q⟩)
    ·exact#[by lia,q]
    ·exact#[by ext,r',w,q]
  cases b with
  | true=>
   let H:=G.mp rfl;rw[qX rfl,PF ∅];simp only[AH];rw[TR];exact .nx #[_,rfl,λj=>(eD m j).trans (Iff.trans #[λz=>z.imp id λe=>#[e,H],λz=>z.imp id λe=>e.1] (P j).symm)]
  | false=>
   let H:Not (LkA us r r'):=λz=>by ext
   exact .nx #[l,rfl,λj=>(m j).trans (Iff.trans #[.inl,λz=>z.elim id λe=>zX e.2 H] (P j).symm)]
 ·rintro s ⟨l,rfl,m⟩
  refine .rt #[l,rfl,λj=>(m j).trans #[λz=>z.2,λ#[r',e,z]=>#[?_,r',e,z]]];rw[show(DE f.pb).length=-f.pb by unfold DE;simp,F.pl];exact(AI.mp e).1
def Lk(kd:Str)(us:¬YP)(r r':Z'):Prop:=if kd = "one" then Lk1 us r r' else LkA us r r'
theorem cr(h:KC o us)(m:g<=o)(w:1<=g)(F:Fk o g us kd f)(A:(sts o g)[i]?=!r):Ok (E8 f i) λv=>∃l:Nat,v=l/\∀j,l.testBit j=true↔∃r',(sts o g)[j]?=!r'/\Lk kd us r r':=by
 let B:=h.sm;obtain⟨-,-,-,C⟩:=JR o B g ∅ m w;let E:=(AI.mp A).1;unfold E8 Ia;rw[qX #[by lia,by lia],F.kd]
 by_cases c:kd = "one"
 ·rw[wX c,qX rfl,show Lk kd us r=Lk1 us r from funext λG=>qX c]
  exact rH h m w F A
 ·rw[wY c,qY An,show Lk kd us r=LkA us r from funext λG=>qY c]
  exact sE h m w F A
theorem eG(h:KC o us)(A:g<=o)(B:1<=g)(F:Fk o g us kd f)(m:(sts o g)[i]?=!r){c:Int}(C:0<=c/\c < o):Ok (EL f i c) λv=>∃l:Nat,v=l/\∀j,l.testBit j=true↔∃r',(sts o g)[j]?=!r'/\Lk kd us r r'/\c∈r':=by
 let#[v,e,l,rfl,H]:=cr h A B F m
 obtain⟨-,I⟩:=rl λr m x J=>((Er h.sm A B).mp m).2.1 x J
 let#[b,b1,b2]:=I c.toNat (by ext);unfold EL Hx;rw[e,F.hv,ID C.1 b1];simp only[AH];rw[PZ];refine#[_,rfl,_,rfl,λj=>?_];rw[Nat.testBit_and,DN,H,b2];symm;rw[B1 C.1];exact#[by rintro⟨⟨r',w,E⟩,r'',L,G⟩;ext,by rintro⟨r',w,E,G⟩;exact#[#[r',w,E],r',w,G]]
theorem jT(h:KC o us)(F:Fk o g us kd f)(j:(sts o g)[i]?=!r):Ef f i=!((CA 0 o).filter λc=>not (decide (c∈r))):=by
 let l:=h.sm;unfold Ef Ix;rw[F.ev,Qv j,F.tk,show(tkl o us).length=o by unfold tkl;rw[AD,Ck]];simp only[AH,BF];rw[PJ ∅ ∅,Ax];simp only[AH];rw[Fm (by rw[Ck];lia) λG G=>rfl];rfl
end
open L2 L4
structure Dl(f:Fp)(N:Nat)(cl:Nat->Z')(B:Nat->Int->Nat->Prop):Prop where
 ln:-f.ev=N
 sm:N<=400
 cs:∀n,n < N->Ef f n=!cl n/\-cl n<=1000/\(cl n).Pairwise (· < ·)
 bh:∀n,n < N->∀c∈cl n,Ok (EL f n c) λv=>∃l:Nat,v=l/\∀j,l.testBit j=true↔B n c j
 rg:∀n c j,B n c j->j < N
abbrev TL:=¬(Int×YP)
structure Fa(N:Nat)(cl:Nat->Z')(B:Nat->Int->Nat->Prop)(T:TL):Prop where
 nd:(T.map (·.1)).Nodup
 rg:∀n∈T.map (·.1),0<=n/\n < (N:Int)
 ok:∀(m:Nat) z,AR T (m:Int)=!z->1<=z.1/\z.2∈cl m/\(∀j,B m z.2 j->∃y,AR T (j:Int)=!y/\y.1 < z.1)/\(∀c∈cl m,c < z.2->∃j,B m c j/\∀y,AR T (j:Int)=!y->z.1<=y.1)/\(2<=z.1->∀c∈cl m,∃j,B m c j/\∀y,AR T (j:Int)=!y->z.1<=y.1+1)
 no:∀m:Nat,m < N->AR T (m:Int)=none->∀c∈cl m,∃j,B m c j/\AR T (j:Int)=none
 hi:∀(m:Nat) z,AR T (m:Int)=!z->z.1<=N
section
variable{f:Fp}{N:Nat}{cl:Nat->Z'}{B:Nat->Int->Nat->Prop}{b:Nat}
def Rh(B:Nat->Int->Nat->Prop)(b m:Nat)(c:Int):Prop:=∀j,B m c j->b.testBit j=false
def Fst(cl:Nat->Z')(B:Nat->Int->Nat->Prop)(b m:Nat)(c:Int):Prop:=c∈cl m/\Rh B b m c/\∀j∈cl m,j < c->Not (Rh B b m j)
theorem QS(h:Not (Rh B b m c)):∃j,B m c j/\b.testBit j:=BY λz=>h λj l=>by
 ext
theorem eI:(a &&& b)=0↔∀j,a.testBit j->b.testBit j=false:=by
 constructor
 ·intro h j l
  let:sg (a &&& b) j=sg 0 j:=by rw[h]
  grind
 ·intro h
  refine Nat.eq_of_testBit_eq λj=>?_
  ext
def FN(cl:Nat->Z')(B:Nat->Int->Nat->Prop)(b:Nat)(K:¬YP):Prop:=(K.map (·.1)).Nodup/\(∀n∈K.map (·.1),0<=n/\b.testBit n.toNat=true)/\∀(m:Nat) c,AR K (m:Int)=!c↔b.testBit m/\Fst cl B b m c
theorem W7(hb:b < 2 ^ N)(h:b.testBit i):i < N:=fG λj=>by
 let l:=Vz (Ab hb (Hg (by decide) j))
 ext
theorem NO{j:Type}{K:¬(Int×j)}(l:(K.map (·.1)).Nodup)(m:∀n∈K.map (·.1),0<=n/\n < (N:Int)):-K<=N:=by
 let:=Gz (k:=CA 0 N) l λx o=>by rw[Cm];let:=m x o;ext
 rwa [Ck,AD]at this
open Classical in
theorem SK(D:Dl f N cl B)(hb:b < 2 ^ N):Ok (Dh f (b:Int)) (FN cl B b):=by
 let#[l,e,Z,L]:=ZO hb (by let:=D.sm;lia)
 let O:∀x∈l,0<=x/\x < (N:Int):=λx A=>by
  let#[x0,A]:=(L x).mp A;let:=W7 hb A
  ext
 unfold Dh Is;rw[e];simp only[AH,BF];refine OkF.out (OkF.seq (OkF.for (λpre (s:¬YP)=>(s.map (·.1)).Nodup/\(∀n∈s.map (·.1),n∈pre)/\∀(m:Nat) c,AR s (m:Int)=!c↔(m:Int)∈pre/\Fst cl B b m c) #[by simp,λM h=>h,λm c=>#[λh=>(nomatch h),λh=>(nomatch h.1)]] ?_) ?_)
 ·rintro pre x s A T ⟨H,I,Q⟩
  let#[x0,C]:=(L x).mp A
  obtain⟨m,rfl⟩:∃m:Nat,x=m:=#[x.toNat,by lia]
  rw[Ax]at C;let U:=W7 hb C;let#[c1,c2,c3]:=D.cs m U
  let hxp:(m:Int)∉pre:=by
   let:=Z.sublist T.sublist;rw[A6]at this;intro z;let:=this.2.2 _ z _ (J1 _)
   lia
  rw[c1];simp only[AH]
  rw[Fm (P:=λc=>decide (Rh B b m c)) ∅ λc hc=>by
   let#[v,e1,q,rfl,hq]:=D.bh m U c hc;rw[e1];simp only[AH];rw[PZ]
   congr 1
   refine decide_eq_decide.mpr ?_;rw[show((q &&& b:Nat):Int)=0↔(q &&& b)=0 by lia,eI]
   exact forall_congr' λj=>imp_congr_left (hq j)]
  simp only[AH,BF]
  let J:∀c,c∈(cl m).filter (λc=>decide (Rh B b m c))↔c∈cl m/\Rh B b m c:=λc=>by ext
  let X:((cl m).filter λc=>decide (Rh B b m c)).Pairwise (· < ·):=c3.filter _;generalize (cl m).filter (λc=>decide (Rh B b m c))=o at J X
  cases o with
  | nil=>
   let nf:∀c,Not (Fst cl B b m c):=λc #[E,G,_]=>nomatch (J c).mpr #[E,G]
   refine .nx #[H,λn w=>CS _ (I n w),λk c=>(Q k c).trans #[λ#[a,q]=>#[CS _ a,q],λ#[a,q]=>#[?_,q]]]
   rcases Aj.mp a with a | a
   ·exact a
   ·let e:k=m:=by let:=Av.mp a;lia
    grind
  | cons c0 o=>
   let R:Fst cl B b m c0:=by
    let#[E,G]:=(J c0).mp (Aa ..);refine#[E,G,λY S h4 h5=>?_]
    rcases Ak.mp ((J Y).mpr #[S,h5])with h | h
    ·lia
    ·let:=(GE.mp X).1 Y h;lia
   let f1:∀c,Fst cl B b m c↔c=c0:=λc=>#[by
    rintro ⟨E,G,S⟩
    rcases Jb c c0 with h | h | h
    ·exact zX G (R.2.2 c E h)
    ·exact h
    ·exact zX R.2.1 (S c0 R.1 h),λh=>by lia]
   let G':=NO H λn w=>O n ((List.sublist_append_left pre [(m:Int)]).trans T.sublist |>.subset (I n w))
   let hN:=D.sm;rw[show(not (c0 :: o).isEmpty)=true from rfl,qX rfl,show atI (c0 :: o) 0=!c0 from ID ∅ rfl];simp only[AH];rw[show B4 s (m:Int) c0=!Cz s (m:Int) c0 from qX ∅];refine .nx #[?_,λn w=>?_,λk c=>?_]
   ·rw[GP]
    grind
   ·rw[GP]at w
    grind
   ·rw[CN]
    by_cases e:(k:Int)=m
    ·let e':k=m:=by lia
     subst e';rw[qX rfl,f1];exact#[λh=>#[by simp,(Bw h).symm],λh=>by rw[h.2]]
    ext
 ·rintro s ⟨H,I,Q⟩
  refine .rt #[H,λn w=>(L n).mp (I n w),λm c=>(Q m c).trans (and_congr_left λM=>?_)];ext
structure Rnd(N:Nat)(cl:Nat->Z')(B:Nat->Int->Nat->Prop)(s:TL×Int×Int×¬YP)(b:Nat):Prop where
 lf:s.2.1=b
 lt:b < 2 ^ N
 bt:∀j,b.testBit j=true↔j < N/\AR s.1 (j:Int)=none
 st:1<=s.2.2.1
 nd:(s.1.map (·.1)).Nodup
 rg:∀n∈s.1.map (·.1),0<=n/\n < (N:Int)
 ok:∀(m:Nat) z,AR s.1 (m:Int)=!z->z.1 < s.2.2.1/\1<=z.1/\z.2∈cl m/\(∀j,B m z.2 j->∃y,AR s.1 (j:Int)=!y/\y.1 < z.1)/\(∀c∈cl m,c < z.2->∃j,B m c j/\∀y,AR s.1 (j:Int)=!y->z.1<=y.1)/\(2<=z.1->∀c∈cl m,∃j,B m c j/\∀y,AR s.1 (j:Int)=!y->z.1<=y.1+1)
 mn:2<=s.2.2.1->∀m:Nat,m < N->AR s.1 (m:Int)=none->∀c∈cl m,∃j,B m c j/\∀y,AR s.1 (j:Int)=!y->s.2.2.1<=y.1+1
 fn:FN cl B b s.2.2.2
 sl:s.2.2.1<=-s.1+1
theorem VC{l:Z'}{P:Int->Prop}(h:∃c∈l,P c):∃c∈l,P c/\∀c'∈l,c' < c->Not (P c'):=by
 induction l with
 | nil=>ext
 | cons x l C=>
  by_cases E:∃c∈l,P c
  ·let#[c,G,H,o]:=C E
   by_cases w:P x/\x < c
   ·exact#[x,Aa ..,w.1,λc' m A j=>by
     rcases Ak.mp m with h | h
     ·ext
     ·exact o c' h ∅ j]
   ·exact#[c,AN _ G,H,λc' m A j=>by
     rcases Ak.mp m with h | h
     ·exact w #[by rw[<-h];exact j,by ext]
     ·exact o c' h A j]
  ext
set_option tactic.hygienic true in
theorem iJ(D:Dl f N cl B)(h:Rnd N cl B s b)(tq:s.2.2.2≠[]) :
  ∃s' C,AU (BW (s.2.2.2.map (·.1)) (s.1,s.2.1) λ(X:TL×Int) P=>AU ((AR s.2.2.2 P*>λvi=>!(s.2.2.1,vi))*>λxH=>B4 X.1 P xH*>λwu=>!.nx wu) λuI=>BQ (λuq=>(uI,uq)) (Gf (1:Int) P*>λuH=>!.nx (E1 X.2 uH))) (λuJ=>AU (!.nx (s.2.2.1+(1:Int))) λv40=>BQ (λyd=>(uJ.1,uJ.2,v40,yd)) (Dh f uJ.2*>λzg=>!.nx zg))=!.nx (ρ:=TL) s'/\Rnd N cl B s' C/\-s.1 < -s'.1:=by
 let#[T,left,I,K]:=s;let#[lf,lt,Q,st,nd,rg,ok,mn,fn,sl]:=h;dsimp only at lf Q st nd rg ok mn fn tq sl ⊢;subst lf;let hN:=D.sm;let#[k1,k2,k3]:=fn
 let kN:∀n∈K.map (·.1),0<=n/\n < (N:Int):=λn J=>by
  let#[a,q]:=k2 n J;let:=W7 lt q
  ext
 let kT:∀n∈K.map (·.1),AR T n=none:=λn J=>by
  let#[a,q]:=k2 n J;let:=((Q _).mp q).2;rwa [B1 a]at this
 let#[#[E,R],e,S,U,t3,C,rfl,b1,b2]:=GQ (s0:=(T,(b:Int))) (q:=λ(X:TL×Int) P=>AU ((AR K P*>λvi=>!(I,vi))*>λxH=>B4 X.1 P xH*>λwu=>!.nx wu) λuI=>BQ (λuq=>(uI,uq)) (Gf (1:Int) P*>λuH=>!.nx (E1 X.2 uH)))
  (λpre s=>(s.1.map (·.1)).Nodup/\(∀n∈s.1.map (·.1),0<=n/\n < (N:Int))/\(∀n,AR s.1 n=if n∈pre then(AR K n).map λc=>(I,c)else AR T n)/\∃C:Nat,s.2=C/\C < 2 ^ N/\∀j:Nat,C.testBit j=true↔b.testBit j/\(j:Int)∉pre)
  #[nd,rg,λn=>by simp,b,rfl,lt,λj=>by simp] (by
   rintro pre x ⟨E,R⟩ Y hp ⟨S,U,t3,C,rfl,b1,b2⟩;dsimp only at S U t3 ⊢;let#[x0,xN]:=kN x Y;obtain⟨-,xb⟩:=k2 x Y
   let xp:x∉pre:=by
    let:=k1.sublist hp.sublist;unfold IR at this;rw[A6]at this
    exact λz=>this.2.2 _ z _ (J1 _) rfl
   let#[c,l]:=CF.mp ((C6 K x).mpr Y);let hl:=NO S U;rw[l];simp only[AH];rw[show B4 E x (I,c)=!Cz E x (I,c)from qX ∅];rw[show x=((x.toNat:Nat):Int) by lia,PF (by grind)];simp only[AH];rw[fX,<-show x=((x.toNat:Nat):Int) by lia];refine#[_,rfl,?_,λn J=>?_,λn=>?_,_,rfl,Nat.xor_lt_two_pow b1 (Nat.pow_lt_pow_right (by ext) (by ext)),λj=>?_]
   ·rw[GP]
    split
    ·exact S
    ·rename_i hk
     exact JK.mpr #[S,by simp,λy A z o=>by rw[Av.mp o];lia]
   ·rw[GP]at J
    split at J
    ·exact U n J
    ·rcases Aj.mp J with h | h
     ·exact U n h
     ·rw[Av.mp h];exact#[x0,xN]
   ·rw[CN]
    by_cases e:n=x
    ·subst e
     rw[qX rfl,qX ∅,l];rfl
    ·rw[qY e,t3]
     let:n∈pre++[x]↔n∈pre:=by rw[Aj,Av];exact#[λz=>z.elim id λz=>zX z e,.inl]
     ext
   ·rw[Nat.testBit_xor,Z6,bne_iff_ne,ne_eq,Aj,Av]
    let hb':=b2 j
    by_cases e:x.toNat=j
    ·subst e
     rw[wX rfl];let:C.testBit x.toNat:=(b2 _).mpr #[xb,by rw[B1 x0];exact xp];rw[this];refine#[λz=>zX rfl z,λz=>zX (.inr ∅) z.2]
    ·rw[wY e]
     let:Not ((j:Int)=x):=by grind
     ext)
 rw[e];simp only[BF];let#[K',eK,hK]:=SK D b1;rw[eK]
 let tv:∀n,AR E n=match AR K n with | some c=>!(I,c) | none=>AR T n:=λn=>by
  rw[t3]
  by_cases h:n∈K.map (·.1)
  ·rw[qX h]
   let#[c,l]:=CF.mp ((C6 K n).mpr h);rw[l];rfl
  ·rw[qY h]
   cases l:AR K n with
   | none=>rfl
   | some c=>exact zX ((C6 K n).mp (by rw[l];rfl)) h
 let G:∀n z,AR T n=!z->AR E n=!z:=λn z o=>by
  grind
 let Z:∀n z,AR E n=!z->AR T n=!z∨(AR T n=none/\z.1=I):=λn z o=>by
  rw[tv]at o
  cases l:AR K n with
  | none=>rw[l]at o;exact .inl o
  | some c=>
   rw[l]at o;cases o;exact .inr #[kT n ((C6 K n).mp (by rw[l];rfl)),rfl]
 let bt':∀j,C.testBit j=true↔j < N/\AR E (j:Int)=none:=λj=>by
  rw[b2,Q,tv]
  constructor
  ·rintro⟨⟨H,w⟩,h3⟩
   refine#[H,?_]
   cases l:AR K (j:Int)with
   | none=>exact w
   | some c=>exact zX ((C6 K _).mp (by rw[l];rfl)) h3
  ·rintro⟨H,w⟩
   cases l:AR K (j:Int)with
   | none=>rw[l]at w;exact#[#[H,w],λz=>by let:=(C6 K _).mpr z;ext]
   | some c=>rw[l]at w;cases w
 let up:∀(j:Nat) (r:Int),r<=I->(∀y,AR T (j:Int)=!y->r<=y.1)->∀y,AR E (j:Int)=!y->r<=y.1:=λj r hr h y A=>by
  rcases Z _ _ A with H | ⟨_,w⟩
  ·exact h y H
  ·ext
 let hlen:-T < -E:=by
  cases K with
  | nil=>ext
  | cons x K=>
   let Y:=kT x.1 (Aa ..);let J:=BO.mpr #[λz=>An (by let:=(C6 T _).mpr z;rw[Y]at this;exact this),nd]
   let:=Gz J λy A=>by
    rw[<-C6]
    rcases Ak.mp A with h | h
    ·subst h
     rw[tv];let#[c,l]:=CF.mp ((C6 (x :: K) x.1).mpr (Aa ..));rw[l];rfl
    ·let#[z,o]:=CF.mp ((C6 T y).mpr h)
     rw[G _ _ o];rfl
   rw[Au,AD,AD]at this
   lia
 refine#[(E,(C:Int),I+1,K'),C,rfl,#[rfl,b1,bt',by show 1<=I+1;lia,S,U,λm z o=>?_,λM m hm o c l=>?_,hK,by show I+1<=(-E:Int)+1;lia],hlen]
 ·dsimp only at o ⊢
  rcases Z _ _ o with H | ⟨H,w⟩
  ·let#[o1,o2,o3,o4,o5,o6]:=ok m z H
   refine#[by lia,o2,o3,λj hj=>?_,λc l my=>?_,λw c l=>?_]
   ·let#[y,y1,y2]:=o4 j hj
    exact#[y,G _ _ y1,y2]
   ·let#[j,L,O]:=o5 c l my
    exact#[j,L,up j z.1 ∅ O]
   ·let#[j,L,O]:=o6 w c l
    refine#[j,L,λy A=>?_];let:=up j (z.1 - 1) ∅ (λy A=>by let:=O y A;lia) y A
    lia
  ·let#[r,c]:=z
   let l:AR K (m:Int)=!c:=by
    let:=tv (m:Int);rw[o]at this
    cases l:AR K (m:Int)with
    | none=>ext
    | some c'=>ext
   subst w;let#[f0,f1,f2,f3]:=(k3 m c).mp l;refine#[by symm;lia,st,f1,λj hj=>?_,λc' tP my=>?_,λw c' tP=>?_]
   ·let hjN:=D.rg _ _ _ hj
    cases hv:AR T (j:Int)with
    | none=>
     let:=(Q j).mpr #[hjN,hv];rw[f2 j hj]at this;cases this
    | some y=>exact#[y,G _ _ hv,(ok j y hv).1]
   ·let#[j,L,O]:=QS (f3 c' tP my)
    refine#[j,L,λy A=>?_]
    rcases Z _ _ A with q | ⟨_,q⟩
    ·rw[((Q j).mp O).2]at q;cases q
    ·symm;ext
   ·let#[j,L,O]:=mn w m ((Q m).mp f0).1 H c' tP
    refine#[j,L,λy A=>?_]
    rcases Z _ _ A with q | ⟨_,q⟩
    ·exact O y q
    ·symm;lia
 ·dsimp only at o ⊢
  let#[H,w]:=(b2 m).mp ((bt' m).mpr #[hm,o])
  let nl:Not (Rh B b m c):=λhl=>by
   let#[c0,q1,q2,q3]:=VC #[c,l,hl];let:=(k3 m c0).mpr #[H,q1,q2,q3];exact w ((C6 K _).mp (by rw[this];rfl))
  let#[j,L,O]:=QS nl;refine#[j,L,λy A=>?_]
  rcases Z _ _ A with q | ⟨_,q⟩
  ·rw[((Q j).mp O).2]at q;cases q
  ·ext
theorem df(D:Dl f N cl B):Ok (Ks f) (Fa N cl B):=by
 let hN:=D.sm;unfold Ks QF;rw[D.ln,PF ∅];simp only[AH,BF];let hp:=je N;rw[show((2 ^ N:Nat):Int) - 1=((2 ^ N - 1:Nat):Int) by omega]
 let lt:2 ^ N - 1 < 2 ^ N:=by omega
 let#[K,P,Q]:=SK D lt;rw[P];simp only[AH,BF];let R:Rnd N cl B ([],((2 ^ N - 1:Nat):Int),1,K) (2 ^ N - 1):=#[rfl,lt,λj=>by rw[Nat.testBit_two_pow_sub_one,decide_eq_true_eq];exact#[λh=>#[h,rfl],λh=>h.1],sk 1,IQ,λM h=>(nomatch h),λm z h=>(nomatch h),λh=>zX (show(2:Int)<=1 from h) (by decide),Q,sk 1]
 let#[l,e,#[b,h],A]:=Sq (c:=λ(S:TL×Int×Int×(¬YP))=>!not S.2.2.2.isEmpty) (q:=λ(s:TL×Int×Int×(¬YP))=>AU (BW (s.2.2.2.map (·.1)) (s.1,s.2.1) λ(I:TL×Int) C=>AU ((AR s.2.2.2 C*>λT=>!(s.2.2.1,T))*>λU=>B4 I.1 C U*>λX=>!.nx X) λY=>BQ (λZ=>(Y,Z)) (Gf (1:Int) C*>λuH=>!.nx (E1 I.2 uH))) (λE=>AU (!.nx (s.2.2.1+(1:Int))) λG=>BQ (λyd=>(E.1,E.2,G,yd)) (Dh f E.2*>λzg=>!.nx zg))) (λs=>∃b,Rnd N cl B s b) (λs=>N - -s.1) (by
   rintro s ⟨b,h⟩
   cases w:s.2.2.2 with
   | nil=>left;rfl
   | cons x K=>
    right
    let#[l,b',J,H,e3]:=iJ D h (by ext);rw[w]at J;refine#[rfl,l,J,#[b',H],?_];let:=NO H.nd H.rg
    grind) wN _ #[_,R] (by show N - 0 < wN;lia)
 simp only[BF]at e;rw[e];refine#[l.1,rfl,?_]
 let w:l.2.2.2=[]:=by
  let:=Bw A
  cases w:l.2.2.2 with
  | nil=>rfl
  | cons x K=>ext
 let#[lf,lt,L,st,O,rg,ok,mn,fn,sl]:=h;refine#[O,rg,λm z o=>(ok m z o).2,λm hm o c A=>?_,λm z o=>by let:=(ok m z o).1;let:=NO O rg;lia];let hb:=(L m).mpr #[hm,o]
 let nl:Not (Rh B b m c):=λhl=>by
  let#[c0,q1,q2,q3]:=VC #[c,A,hl];let:=(fn.2.2 m c0).mpr #[hb,q1,q2,q3];rw[w]at this;cases this
 let#[j,j1,j2]:=QS nl;exact#[j,j1,((L j).mp j2).2]
end
def evN(o g:Nat)(n:Int):Z':=(sts o g).getD n.toNat []
def clS(o g:Nat)(n:Nat):Z':=(CA 0 o).filter λc=>not (decide (c∈evN o g n))
def BS(o g:Nat)(us:¬YP)(kd:Str)(n:Nat)(c:Int)(j:Nat):Prop:=∃r l,(sts o g)[n]?=!r/\(sts o g)[j]?=!l/\Lk kd us r l/\c∈l
section
variable{o g:Nat}{us:¬YP}{kd:Str}{f:Fp}{T:TL}
theorem Tl{n:Nat}{r:Z'}(h:(sts o g)[n]?=!r):evN o g n=r:=by
 unfold evN;ext
theorem rq(h:KC o us)(B:g<=o)(C:1<=g)(F:Fk o g us kd f):Dl f (-sts o g) (clS o g) (BS o g us kd):=by
 let H:=h.sm;obtain⟨-,-,-,E⟩:=JR o H g ∅ B C;refine#[by rw[F.ev],by lia,λn w=>?_,λn w c G=>?_,λn c j #[r,A,_,e,_]=>(AI.mp e).1]
 ·let m:=AJ w
  refine#[?_,?_,(PH 0 o).filter _]
  ·rw[jT h F m]
   unfold clS;rw[Tl m]
  ·let:=CO (λc=>not (decide (c∈evN o g n))) (CA 0 o)
   rw[Ck]at this;unfold clS
   lia
 ·let m:=AJ w
  unfold clS at G;obtain⟨I,-⟩:=BA.mp G;let#[J,L]:=Cm.mp I
  refine(eG h B C F m (c:=c) #[J,by lia]).imp λv #[l,e,E]=>#[l,e,λj=>(E j).trans #[λ#[A,q]=>#[_,A,m,q],λ#[r,A,N,q]=>?_]]
  ext
abbrev fln(o g:Nat)(T:TL):Z':=(CA 0 (-sts o g)).filter λn=>(AR T n).isSome
abbrev Fll(o g:Nat)(T:TL):¬(Z'×Int×Int):=(fln o g T).map λn=>(evN o g n,(AR T n).getD (0,0))
theorem jK(h:KC o us)(j:g<=o)(m:1<=g):∃T:TL,Fa (-sts o g) (clS o g) (BS o g us kd) T/\LI (o,us) g kd=!Fll o g T:=by
 let C:=h.sm;obtain⟨-,-,-,N⟩:=JR o C g ∅ j m;let#[f,E,F]:=dc (kd:=kd) h j m;let D:=rq h j m F;let#[T,eT,w]:=df D;refine#[T,w,?_]
 let G:CH (T.map (·.1))=fln o g T:=NA (M5 w.nd) ((PH 0 _).filter _) λx=>by
  rw[Dz,BA,Cm,C6];refine#[λz=>#[?_,z],λz=>z.2];let:=w.rg x z
  ext
 unfold LI TC
 try simp only[AH]
 rw[E];simp only[AH,BF];rw[eT];simp only[AH,BF];rw[G]
 rw[FJ (f:=λn=>(evN o g n,(AR T n).getD (0,0))) (by let:=CO (λn=>(AR T n).isSome) (CA 0 (-sts o g));rw[Ck]at this;lia) λn H=>by
  let#[I,J]:=BA.mp H;let#[A,O]:=Cm.mp I;let B:=AJ (l:=sts o g) (i:=n.toNat) (by ext);rw[F.ev,ID A B];let#[z,L]:=CF.mp J;rw[L];let:=Tl B;rw[B1 A]at this
  ext]
 rfl
end
open L2 L4
open Srt (ltL)
theorem QT:z∈Dg us x↔((x:Int),z)∈us∨(z,(x:Int))∈us:=by
 rw[<-Wn];exact Dz.symm
theorem SD:∀{us:¬YP},us.Nodup->(∀t∈us,t.1 < t.2)->(Dg us x).Nodup
 | [],_,_=>IQ
 | t :: us,h,j=>by
  let l:=SD (x:=x) (BO.mp h).2 λs w=>j s (AN _ w)
  let A:=(BO.mp h).1;let lt:=j t Aa
  let e:Dg (t :: us) x=((if t.1=(x:Int)then[t.2]else[])++(if t.2=(x:Int)then[t.1]else[]))++Dg us x:=by
   unfold Dg;rw[JL]
  rw[e]
  let lt':∀a b:Int,(a,b)∈us->a < b:=λa b B=>j _ (AN _ B)
  by_cases m:t.1=(x:Int)
  ·rw[qX m,qY (by grind),BP]
   show(t.2 :: Dg us x).Nodup;rw[BO];refine#[λz=>?_,l]
   rcases QT.mp z with z | z
   ·grind
   ·let:=lt' _ _ z;lia
  ·rw[qY m,List.nil_append]
   by_cases o:t.2=(x:Int)
   ·rw[qX o]
    show(t.1 :: Dg us x).Nodup;rw[BO];refine#[λz=>?_,l]
    rcases QT.mp z with z | z
    ·let:=lt' _ _ z;lia
    ·rw[<-o]at z;exact A z
   ext
section
variable{o:Nat}{ts:¬YP}
theorem GB.ties(h:GB o ts)(A:o < 8):KC o (FD ts):=by
 let rg:∀g:Int,0<=g->g < o->∀x∈nr (FD ts) g.toNat,0<=x/\x < o/\x≠g:=λg l m x j=>by
  rw[Wn,h.mem,h.mem,B1 l]at j
  rcases j with j | j
  ·let:0<=g/\g < x/\x < o:=h.rg _ j;lia
  ·let:0<=x/\x < g/\g < o:=h.rg _ j;lia
 let w:∀g:Int,0<=g->g < o->(nr (FD ts) g.toNat).Nodup:=λg G G=>by
  refine(EB _).nodup_iff.mpr (SD ?_ λt B=>?_)
  ·rw[(Nt ts).nodup_iff,h.nrm];exact h.nd
  ·exact(h.rg t (h.mem.mp B)).2.1
 refine#[A,λg l m=>?_,rg,w];let C:=BO.mpr #[λz=>(rg g l m g z).2.2 rfl,w g l m]
 let:=Gz (k:=CA 0 o) C λx j=>by
  rw[Cm]
  rcases Ak.mp j with rfl | j
  ·ext
  ·let:=rg g l m x j;ext
 rw[Ck,Au]at this
 lia
theorem nQ(h:GB o ts)(y:Int):(lnr ts y).Nodup:=by
 unfold lnr IR;rw[BL]
 refine(h.nd.filter _).imp_of_mem λ{a b} m j ne e=>ne ?_
 let#[w,l]:=BA.mp m;let#[b1,b2]:=BA.mp j;let l:=of_decide_eq_true l;let b2:=of_decide_eq_true b2;let A:=h.rg a w;let B:=h.rg b b1;simp only[Ak,DM,or_false]at l b2
 refine Lm ?_ ?_ <;> lia
theorem lz(h:GB o ts)(g:Int):([g]++CH (lnr ts g)).Nodup:=by
 show(g :: CH (lnr ts g)).Nodup;rw[BO,(EB _).nodup_iff,Dz,YF];refine#[λz=>?_,nQ h g]
 rcases z with z | z <;> (let:=h.rg _ z;ext)
theorem iE(h:GB o ts)(j:0<=g):x∈[g]++CH (lnr ts g)↔x∈Tg (FD ts) g:=by
 rw[Qx,h.near j];simp
structure Rw(us:¬YP)(gs:Z')(s:¬Z'):Prop where
 mem:∀r,r∈s↔-r=-gs/\r.Nodup/\∀y∈gs.zip r,y.2∈Tg us y.1
 nd:s.Nodup
 ln:-s<=7 ^ (-gs)
theorem WT(h:-r=n+1):∃t p,r=t++[p]/\-t=n:=by
 let j:r≠[]:=λz=>by ext
 exact#[r.dropLast,r.getLast j,(List.dropLast_concat_getLast j).symm,by ext]
theorem Jr:(t++[p]).Nodup↔t.Nodup/\p∉t:=by
 grind
def lnx(v:Z')(r:Z'):¬Z':=(v.filter λp=>not (decide (p∈r))).map λp=>r++[p]
theorem PP:t∈lnx v r↔∃p,t=r++[p]/\p∈v/\p∉r:=by
 unfold lnx
 grind
theorem YE:-lnx v r<=-v:=by
 unfold lnx;rw[AD];exact CO _ _
theorem QV(j:-v<=7):∀L:¬Z',(L.flatMap (lnx v)).length<=7 * -L
 | []=>by simp
 | t :: L=>by
  rw[JL,AT,Au];let:=QV j L;let:=YE (v:=v) (r:=t)
  lia
theorem Rw.step(h:Rw us m s)(w:∀x,x∈v↔x∈Tg us g)(A:v.Nodup)(hl:-v<=7):Rw us (m++[g]) (s.flatMap (lnx v)):=by
 refine#[λr=>?_,?_,?_]
 ·rw[List.mem_flatMap]
  constructor
  ·rintro⟨t,l,B⟩
   let#[p,rfl,G,C]:=PP.mp B;let#[a,b,c]:=(h.mem t).mp l;refine#[by rw[AT,AT,a];rfl,Jr.mpr #[b,C],λy j=>?_];rw[Q7 a.symm]at j
   rcases Aj.mp j with j | j
   ·exact c y j
   ext
  ·rintro⟨a,b,c⟩
   rw[AT,Am]at a;let#[t,p,rfl,l]:=WT a;let#[b1,b2]:=Jr.mp b;rw[Q7 l.symm]at c;refine#[t,(h.mem t).mpr #[l,b1,λy j=>c y (CS _ j)],PP.mpr #[p,rfl,(w p).mpr (c (g,p) (Bb _ ∅)),b2]]
 ·unfold IR
  rw[List.pairwise_flatMap];refine#[λt I=>?_,h.nd.imp λ{a b} ne x E y j e=>?_]
  ·unfold lnx
   rw[BL]
   refine(A.filter _).imp λ{a b} ne e=>ne ?_
   simpa using e
  ·let#[p,rfl,_]:=PP.mp E
   let#[q,rfl,_]:=PP.mp j;ext
 ·let:=QV hl s
  let:=h.ln;rw[AT,Am,V2]
  lia
end
def Ans(kd:Str)(us:¬YP)(r:Z')(c:Int)(s:Z'):Prop:=if kd = "one" then ∃a∈r,c∈nr us a.toNat/\s=wst r a c else Zu us r c s
theorem iC{s r:Z'}(hs:s.Nodup)(h:∀x∈s,x∈r)(hl:-s=-r):∀x∈r,x∈s:=λx l=>BY λj=>by
 let:=Gz (k:=r) (BO.mpr #[j,hs]) λy m=>by
  grind
 rw[Au]at this
 lia
section
variable{o g:Nat}{us ts:¬YP}{kd:Str}{r r':Z'}{c:Int}
theorem jX(h:KC o us)(m:Stg o g r)(C:c∉r):(∃s,Ans kd us r c s/\CH s=r')↔Stg o g r'/\Lk kd us r r'/\c∈r':=by
 unfold Ans Lk
 by_cases k:kd = "one"
 ·simp only[qX k]
  constructor
  ·rintro⟨s,⟨a,l,I,rfl⟩,rfl⟩
   let hb:=Qx.mpr (.inr I);exact#[XT h m l hb C,#[a,l,c,hb,C,rfl],Dz.mpr ((Sk l).mpr (.inl rfl))]
  ·rintro⟨-,⟨a,l,b,hb,J,rfl⟩,w⟩
   let e:c=b:=by
    rcases(Sk l).mp (Dz.mp w)with e | e
    ·exact e
    ·ext
   subst e
   rcases Qx.mp hb with e | e
   ·ext
   ·exact#[_,#[a,l,e,rfl],rfl]
 ·simp only[qY k]
  constructor
  ·rintro⟨s,j,rfl⟩
   let rg:=Zu.rg h m.2.1 j;refine#[#[by rw[(EB _).length_eq,j.1,m.1],λx A=>rg x (Dz.mp A),M5 j.2.1],#[s,j.1,j.2.1,j.2.2.1,λx A=>Dz.mpr A],Dz.mpr j.2.2.2]
  ·rintro⟨E,⟨s,G,B,L,H⟩,w⟩
   let all:=iC B H (by rw[G,m.1,E.1]);exact#[s,#[G,B,L,all c w],NA (M5 B) E.2.2 λx=>Dz.trans #[H x,all x]]
theorem fY(j:r.Nodup)(l:k < -r)(x:Int):r.take k++[x]++r.drop (k+1)=wst r r[k] x:=by
 let e:r.set k x=r.take k++x :: r.drop (k+1):=by rw[List.set_eq_take_append_cons_drop,qX l]
 rw[Ba,Ew,<-e]
 refine E0 λi=>?_
 unfold wst;rw[Ai,Dc]
 by_cases c:k=i
 ·subst c
  ext
 ·rw[qY c]
  cases m:r[i]? with
  | none=>rfl
  | some y=>
   let#[A,w]:=AI.mp m;show (!y)=!(if y=r[k]then x else y);rw[qY];intro z;rw[<-w]at z;exact c ((J4 j).mp z).symm
theorem Xw(h:∀r∈f,r≠[]):FS f=!IW f:=qX (HI.mpr λr j=>by
 ext)
theorem nP(h:GB o ts)(E:∀g∈j,0<=g/\g < (o:Int))(J:j.Nodup)(T:j≠[])(hl:-j<=6)(x:Int):Ok (DR ts j x "one") λB=>(∀s,s∈B↔∃a∈j,x∈nr (FD ts) a.toNat/\s=wst j a x)/\-B<=117649:=by
 let L:=h.ln;unfold DR GN;rw[qX (wX rfl)];simp only[AH];rw[PJ (by ext) ∅,Ax];simp only[AH]
 rw[Fm (P:=λk:Int=>decide (x∈CH (lnr ts (j.getD k.toNat 0)))) (by rw[Ck];lia) λk m=>by
  let#[A,G]:=Cm.mp m
  let l:k.toNat < -j:=by ext
  rw[ID A (AJ l)];simp only[AH];rw[YG ∅,B2,AJ l]
  rfl]
 simp only[AH,BF];let N:=CO (λk:Int=>decide (x∈CH (lnr ts (j.getD k.toNat 0)))) (CA 0 (-j));rw[Ck]at N
 rw[FJ (f:=λk:Int=>wst j (j.getD k.toNat 0) x) ∅ λk m=>by
  let#[A,G]:=Cm.mp (BA.mp m).1
  let l:k.toNat < -j:=by lia
  rw[oE];simp only[AH];rw[show k=((k.toNat:Nat):Int) by lia,oM j ∅,show((k.toNat:Nat):Int)+1=((k.toNat+1:Nat):Int) by rfl,dr j ∅,LK (by rw[Cc,Am];grind)];simp only[AH];rw[LK (by rw[AT,Cc,FX,Am];grind),fY J l,Ax,B2,AJ l]
  rfl]
 simp only[AH]
 let C:∀s,s∈((CA 0 (-j)).filter λk:Int=>decide (x∈CH (lnr ts (j.getD k.toNat 0)))).map (λk:Int=>wst j (j.getD k.toNat 0) x)↔∃a∈j,x∈nr (FD ts) a.toNat/\s=wst j a x:=λs=>by
  rw[Ay]
  constructor
  ·rintro⟨k,m,rfl⟩
   let#[O,H]:=BA.mp m;let#[A,G]:=Cm.mp O
   let l:k.toNat < -j:=by lia
   let w:j.getD k.toNat 0=j[k.toNat]:=by rw[B2,AJ l];rfl
   rw[w]at H ⊢;exact#[_,CJ l,(h.near (E _ (CJ l)).1 x).mpr (of_decide_eq_true H),rfl]
  ·rintro⟨a,Q,R,rfl⟩
   let#[k,m,rfl]:=CL Q
   let w:j.getD ((k:Int)).toNat 0=j[k]:=by rw[Ax,B2,AJ m];rfl
   refine#[(k:Int),BA.mpr #[Cm.mpr #[by ext,by ext],?_],by rw[w]];rw[w];exact wX ((h.near (E _ (CJ m)).1 x).mp R)
 let I:(((CA 0 (-j)).filter λk:Int=>decide (x∈CH (lnr ts (j.getD k.toNat 0)))).map (λk:Int=>wst j (j.getD k.toNat 0) x)).length<=117649:=by rw[AD];lia
 generalize ((CA 0 (-j)).filter λk:Int=>decide (x∈CH (lnr ts (j.getD k.toNat 0)))).map (λk:Int=>wst j (j.getD k.toNat 0) x)=f at C I
 rw[Xw λr S z=>by
  let#[a,_,_,e]:=(C r).mp S;rw[z]at e;unfold wst at e
  ext]
 exact#[_,rfl,λs=>(C7 f).mem_iff.trans (C s),by rw[(C7 f).length_eq];exact I]
theorem nT(h:GB o ts)(Q:o < 8)(R:∀g∈w,0<=g/\g < (o:Int))(h0:w≠[])(hl:-w<=6)(x:Int)(S:Not (kd = "one")):Ok (DR ts w x kd) λB=>(∀s,s∈B↔Zu (FD ts) w x s)/\-B<=117649:=by
 unfold DR GN;rw[wY S,qY An];simp only[BF,de,oE,AH];refine OkF.out (OkF.seq (OkF.for (λpre s=>Rw (FD ts) pre s) #[λr=>?_,by simp,AM _] ?_) ?_)
 ·ext
 ·intro pre g s T U A
  let E:=U.length_le;rw[AT,Am]at E;let j:=R g T;rw[YG (by let:=h.ln;lia)];simp only[AH]
  let l:=λx=>iE h (x:=x) j.1
  let m:=lz h g
  let G:-([g]++CH (lnr ts g))<=7:=by
   let:=Gz (k:=CA 0 o) m λx X=>by
    let:=((h.ties Q).tg j.1 j.2).2.1 x ((l x).mp X);rw[Cm];ext
   rw[Ck]at this
   lia
  rw[LK (by rw[<-AT];lia)];generalize [g]++CH (lnr ts g)=v at G l m;simp only[AH,BF];let N:(7:Nat) ^ (-pre)<=16807:=A5 (Hg (by decide) (show -pre<=5 by lia)) (by ext);let O:=A.ln;refine OkF.seq (OkF.for (λH I=>I=H.flatMap (lnx v)) rfl ?_) ?_
  ·rintro H r I J Y rfl
   let C:=Y.length_le;rw[AT,Am]at C;let Z:=((A.mem r).mp J).1;rw[NS ∅ (λM M=>rfl) λp M M=>LK (by rw[Am];lia)];simp only[AH];let k1:=QV G H;let k2:=YE (v:=v) (r:=r);unfold lnx at k2;rw[LK ∅];refine .nx ?_;rw[List.flatMap_append,JL,List.flatMap_nil,BP];rfl
  ·rintro I rfl
   exact .nx (A.step l m G)
 ·intro s A
  let N:(7:Nat) ^ (-w)<=117649:=A5 (Hg ∅ hl) (by ext);let O:=A.ln;rw[Fm ∅ λM M=>rfl];simp only[AH]
  let L:∀r,r∈s.filter (λr=>decide (x∈r))↔Zu (FD ts) w x r:=λr=>by
   rw[BA,A.mem,decide_eq_true_eq];exact#[λ#[#[a,b,c],d]=>#[a,b,c,d],λ#[a,b,c,d]=>#[#[a,b,c],d]]
  let P:-(s.filter λr=>decide (x∈r))<=117649:=A5 (CO _ _) (A5 O N);generalize s.filter (λr=>decide (x∈r))=f at L P
  rw[Xw λr J z=>by
   let:=((L r).mp J).1
   grind]
  exact .rt #[λr=>(C7 f).mem_iff.trans (L r),by rw[(C7 f).length_eq];exact P]
theorem lans(h:GB o ts)(A:o < 8)(hs:Stg o g l)(C:1<=g)(m:g<=6)(x:Int)(kd:Str):Ok (DR ts l x kd) λB=>(∀s,s∈B↔Ans kd (FD ts) l x s)/\-B<=117649:=by
 let w:l≠[]:=λz=>by let:=hs.1;rw[z]at this;simp at this;lia
 by_cases k:kd = "one"
 ·subst k
  refine(nP h hs.2.1 (bR hs.2.2) w (by rw[hs.1];exact m) x).imp λB j=>#[λs=>(j.1 s).trans ?_,j.2]
  rfl
 ·refine(nT h A hs.2.1 w (by rw[hs.1];exact m) x k).imp λB j=>#[λs=>(j.1 s).trans ?_,j.2]
  unfold Ans;rw[qY k]
end
open L2 L4
theorem nL{ρ j:Type}{s0:j}{n:Nat}{c:j->⇑Bool}{q:j->⇑(Fw ρ j)}{R:ρ->Prop}(I:j->Prop)(l:j->Nat)(m:I s0)(o:l s0 < n)(h:∀s,I s->∃b,c s=!b/\(b=true->OkF (q s) (λs'=>I s'/\l s' < l s) λG=>False)):OkF (whF c q n s0) (λs=>I s/\c s=!false) R:=by
 let#[s',e,w,A]:=Sq I l (λs B=>by
  let#[b,hb,C]:=h s B;cases b
  ·exact .inl hb
  ·rcases C rfl with⟨s',e,h⟩ | ⟨_,_,z⟩
   ·exact .inr #[hb,s',e,h]
   ext) n s0 m o
 exact .inl #[s',e,w,A]
theorem oH(l:¬Z'):(ddR l).Nodup:=by
 let j:∀(r l:¬Z'),(ddR l).Nodup->(ddR (l++r)).Nodup:=by
  intro r
  induction r with
  | nil=>simp
  | cons x r m=>
   intro l h;rw[show l++x :: r=(l++[x])++r by simp];refine m _ ?_;rw[K2];split
   ·exact h
   ·exact Jr.mpr #[h,by assumption]
 exact j l [] .nil
open L2 L4
open Srt (ltL)
section
variable{o g:Nat}{ts:¬YP}{kd:Str}
theorem ls(j:o < 8)(l:g<=o)(m:1<=g)(h:Stg o g r):∃n:Nat,(sts o g)[n]?=!r/\n < -sts o g:=by
 let#[n,w,e]:=CL ((Er j l m).mpr h);exact#[n,by ext,w]
theorem iD{i j:Nat}{r:Z'}(l:o < 8)(m:g<=o)(w:1<=g)(hi:(sts o g)[i]?=!r)(A:(sts o g)[j]?=!r):i=j:=(aK (AI.mp hi).1 (WS l m w)).mp (hi.trans A.symm)
theorem OC(h:(sts o g)[n]?=!r):c∈clS o g n↔(0<=c/\c < (o:Int))/\c∉r:=by
 unfold clS;rw[BA,Cm,Tl h];simp
theorem Ta(h:GB o ts)(j:o < 8)(A:g<=o)(m:1<=g)(G:g<=6)(hs:Stg o g r)(H:c∉r):Ok (EC ts r c kd) λl=>(∀r',r'∈l↔Stg o g r'/\Lk kd (FD ts) r r'/\c∈r')/\-l<=1000:=by
 let#[B,I,N,J]:=lans h j hs m G c kd;let w:=h.ties j
 let C:∀r',r'∈B.map CH↔Stg o g r'/\Lk kd (FD ts) r r'/\c∈r':=λr'=>by
  rw[<-jX w hs H,Ay];ext
 obtain⟨-,-,-,L⟩:=JR o j g ∅ A m;let O:-ddR (B.map CH)<=35:=A5 (Gz (oH _) λx E=>(Er j A m).mpr ((C x).mp (YV.mp E)).1) L;unfold EC Iw;rw[I];simp only[AH];rw[FJ (f:=CH) ∅ λM M=>rfl];simp only[AH]
 rw[show L7.setRO (B.map CH)=!ZA (B.map CH)from qX #[HI.mpr λx E=>by
  grind,by lia]]
 refine#[_,rfl,λr'=>?_,?_]
 ·unfold ZA
  rw[(C7 _).mem_iff,YV];exact C r'
 ·unfold ZA
  rw[(C7 _).length_eq]
  lia
def bh(ts:¬YP)(kd:Str)(r:Z')(c:Int):¬Z':=(EC ts r c kd).getD []
end
open L2 L4
open L7 (BK)
section
variable{κ α:Type}[DecidableEq κ]
theorem Ic{k:κ}:∀{l:¬(κ×α)},k∈l.map (·.1)↔(AR l k).isSome=true
 | []=>by simp[AR]
 | p :: l=>by
  let j:=Ic (k:=k) (l:=l);unfold AR at j ⊢
  grind
theorem QG(l:¬(κ×α))(k:κ)(v:α):(Cz l k v).map (·.1)=if k∈l.map (·.1)then l.map (·.1)else l.map (·.1)++[k]:=by
 unfold Cz
 let j:((l.any λm=>decide (m.1=k))=true)↔k∈l.map (·.1):=by simp[HH]
 by_cases c:k∈l.map (·.1)
 ·rw[qX (j.mpr c),qX c,Aw]
  refine B0 λx G=>?_
  show(if x.1=k then(x.1,v)else x).1=x.1
  split <;> rfl
 grind
theorem mK{l:¬(κ×α)}{k:κ}{v:α}(h:(l.map (·.1)).Nodup):((Cz l k v).map (·.1)).Nodup:=by
 rw[QG];split
 ·exact h
 ·exact Jr.mpr #[h,by assumption]
theorem mL{l:¬(κ×α)}{k:κ}{v:α}(h:AR l k=none):-Cz l k v=-l+1:=by
 let:=congrArg Dp (QG l k v);rw[qY (by rw[Ic,h];simp)]at this;ext
theorem b9{l:¬(κ×α)}{k:κ}{v:α}:-l<=-Cz l k v:=by
 let:=congrArg Dp (QG l k v)
 split at this <;> simp at this <;> ext
end
section
variable{o g:Nat}{ts:¬YP}{kd:Str}
structure Bh(o g:Nat)(ts:¬YP)(kd:Str)(l:¬BK):Prop where
 ky:∀k,k∈l.map (·.1)↔k.1∈sts o g/\(0<=k.2/\k.2 < (o:Int))/\k.2∉k.1
 vl:∀k∈l.map (·.1),AR l k=!bh ts kd k.1 k.2
 ln:-l<=1000
theorem hW(h:GB o ts)(A:o < 8)(B:g<=o)(C:1<=g)(Z:g<=6){R:(¬(Z'×Int)×¬BK)->Prop} :
  OkF (BW (sts o g) [] λ(s2:¬BK) E=>BQ (λvR=>vR) ((!(o:Int)).bind FF*>λyS=>BW yS s2 λ(S:¬BK) G=>BQ (λwc=>wc) (if (not (decide (G∈E))) then BQ (λxG=>xG) (EC ts E G kd*>λuD=>B4 S (E,G) uD*>λza=>!.nx za)else !.nx S))) (Bh o g ts kd) R:=by
 obtain⟨-,-,-,hl⟩:=JR o A g ∅ B C
 refine OkF.imp (OkF.for (λpre (l:¬BK)=>(∀k,(AR l k).isSome=true↔k.1∈pre/\(0<=k.2/\k.2 < (o:Int))/\k.2∉k.1)/\(∀k v,AR l k=!v->v=bh ts kd k.1 k.2)/\-l<=8 * -pre) #[λk=>by simp[AR],λk v e=>by simp[AR]at e,by simp] ?_) ?_ λM z=>z
 ·rintro pre r l hr hp ⟨H,I,T⟩
  let hpl:-pre+1<=-sts o g:=by let:=hp.length_le;simpa using this
  refine OkF.map (OkF.of (P:=(· = CA 0 o)) #[_,by rw[AH,PJ (by ext) ∅,Ax],rfl] ?_) λM z=>z
  rintro _ rfl
  refine OkF.imp (OkF.for (λj (m:¬BK)=>(∀k,(AR m k).isSome=true↔(k.1∈pre∨k.1=r/\k.2∈j)/\(0<=k.2/\k.2 < (o:Int))/\k.2∉k.1)/\(∀k v,AR m k=!v->v=bh ts kd k.1 k.2)/\-m<=8 * -pre+-j) #[λk=>by rw[H];simp,I,by simpa using T] ?_) ?_ λM z=>z
  ·rintro j c m hc J ⟨U,L,X⟩
   let uF:-j+1<=o:=by let:=J.length_le;rw[Ck]at this;simpa using this
   let#[c0,c1]:=Cm.mp hc
   refine OkF.map (N:=λw:¬BK=>(∀k,(AR w k).isSome=true↔(k.1∈pre∨k.1=r/\k.2∈j++[c])/\(0<=k.2/\k.2 < (o:Int))/\k.2∉k.1)/\(∀k v,AR w k=!v->v=bh ts kd k.1 k.2)/\-w<=8 * -pre+-(j++[c])) (OkF.ite (λO=>?_) λO=>?_) λM z=>z
   ·let Q:c∉r:=by simpa using O
    obtain⟨b,Y,-,-⟩:=Ta (kd:=kd) h A B C Z ((Er A B C).mp hr) Q
    let ebh:b=bh ts kd r c:=by unfold bh;rw[Y];rfl
    refine OkF.map (N:=λw:¬BK=>w=Cz m (r,c) b) ?_ ?_
    ·rw[Y]
     simp only[AH];unfold B4;rw[qX ∅];exact .nx rfl
    ·rintro _ rfl
     refine#[λk=>?_,λk v e=>?_,?_]
     ·rw[CN]
      by_cases e:k=(r,c)
      ·subst e
       rw[qX rfl];exact#[λM=>#[.inr #[rfl,by simp],#[by ext,by ext],Q],λM=>rfl]
      grind
     ·rw[CN]at e
      grind
     ·let:=Kr m (r,c) b
      rw[AT,Am]
      lia
   ·let Q:c∈r:=by simpa using O
    refine .nx #[λk=>?_,L,by rw[AT];lia]
    grind
  ·rintro m ⟨U,L,X⟩
   refine#[λk=>?_,L,by rw[Ck]at X;rw[AT,Am];lia];rw[U,Aj,Av]
   constructor
   ·rintro⟨q | ⟨q,-⟩,z⟩
    ·exact#[.inl q,z]
    ·exact#[.inr q,z]
   ·rintro⟨q | q,z⟩
    ·ext
    ·exact#[.inr #[q,Cm.mpr #[z.1.1,by ext]],z]
 ·rintro l ⟨H,I,T⟩
  refine#[λk=>Ic.trans (H k),λk hk=>?_,by lia];let:=Ic.mp hk
  cases e:AR l k with
  | none=>ext
  | some v=>rw[I k v e]
end
abbrev FV:=¬(Z'×Int)
section
variable{o g:Nat}{ts:¬YP}{kd:Str}
theorem kQ(h:GB o ts)(j:o < 8)(l:g<=o)(m:1<=g)(w:g<=6)(A:r∈sts o g)(B:c∉r):-bh ts kd r c<=1000/\∀x∈bh ts kd r c,x∈sts o g:=by
 let#[b,C,b1,b2]:=Ta (kd:=kd) h j l m w ((Er j l m).mp A) B;unfold bh;rw[C];exact#[b2,λx E=>(Er j l m).mpr ((b1 x).mp E).1]
abbrev Cal(o:Nat)(r:Z')(c:Int):Prop:=(0<=c/\c < (o:Int))/\c∉r
structure Rk(o g:Nat)(ts:¬YP)(kd:Str)(ρ:Z'->⇑Int):Prop where
 rg:∀r t,ρ r=!t->r∈sts o g
 lo:∀r t,ρ r=!t->1<=t
 up:∀r t,ρ r=!t->∃c,Cal o r c/\∀x∈bh ts kd r c,∃y,ρ x=!y/\y < t
 mn:∀r t,ρ r=!t->2<=t->∀c,Cal o r c->∃x∈bh ts kd r c,∀y,ρ x=!y->t<=y+1
 no:∀r∈sts o g,ρ r=none->∀c,Cal o r c->∃x∈bh ts kd r c,ρ x=none
theorem Rk.half(h:GB o ts)(L:o < 8)(N:g<=o)(O:1<=g)(P:g<=6){ρ j:Z'->⇑Int}(a:Rk o g ts kd ρ)(b:Rk o g ts kd j){n:Nat}(B:∀r t,t < (n:Int)->(ρ r=!t↔j r=!t)){t:Int}(Q:t<=(n:Int))(m:ρ r=!t):j r=!t:=by
 let#[c,C,H]:=a.up r t m;let I:=a.rg r t m
 let J:∀x∈bh ts kd r c,∃y,j x=!y/\y < t:=λx l=>by
  let#[y,w,E]:=H x l;exact#[y,(B x y ∅).mp w,E]
 cases e:j r with
 | none=>
  let#[x,l,G]:=b.no r I e c C
  grind
 | some A=>
  rcases Jb A t with z | z | z
  ·let:=(B r A ∅).mpr e
   ext
  ·rw[z]
  ·let R:=a.lo r t m
   let#[x,l,G]:=b.mn r A e ∅ c C;let#[y,w,E]:=J x l;let:=G y w
   lia
theorem Rk.same(h:GB o ts)(w:o < 8)(A:g<=o)(B:1<=g)(C:g<=6){ρ j:Z'->⇑Int}(a:Rk o g ts kd ρ)(b:Rk o g ts kd j)(r:Z'):ρ r=j r:=by
 let l:∀(n:Nat) r t,t < (n:Int)->(ρ r=!t↔j r=!t):=by
  intro n
  induction n with
  | zero=>
   intro r t m;exact#[λe=>by let:=a.lo r t e;lia,λe=>by let:=b.lo r t e;lia]
  | succ n E=>
   intro r t m;exact#[a.half h w A B C b E ∅,b.half h w A B C a (λr t m=>(E r t m).symm) ∅]
 cases e:ρ r with
 | some t=>
  let:=a.lo r t e;exact((l (t.toNat+1) r t ∅).mp e).symm
 | none=>
  cases G:j r with
  | none=>rfl
  | some t=>
   let:=b.lo r t G;let:=(l (t.toNat+1) r t ∅).mpr G
   ext
structure Rd(o g:Nat)(ts:¬YP)(kd:Str)(s:Int×Int×FV):Prop where
 rg:∀r t,AR s.2.2 r=!t->r∈sts o g/\t<=s.2.1
 nd:(s.2.2.map (·.1)).Nodup
 dn:s.1=(-s.2.2:Int)->∀r∈sts o g,AR s.2.2 r=none->∀c,Cal o r c->∃x∈bh ts kd r c,AR s.2.2 x=none
 le:s.1<=-s.2.2
 tn:0<=s.2.1
 lo:∀r t,AR s.2.2 r=!t->1<=t
 up:∀r t,AR s.2.2 r=!t->∃c,Cal o r c/\∀x∈bh ts kd r c,∃y,AR s.2.2 x=!y/\y < t
 mn:∀r t,AR s.2.2 r=!t->2<=t->∀c,Cal o r c->∃x∈bh ts kd r c,∀y,AR s.2.2 x=!y->t<=y+1
 cu:1<=s.2.1->∀r∈sts o g,AR s.2.2 r=none->∀c,Cal o r c->∃x∈bh ts kd r c,∀y,AR s.2.2 x=!y->s.2.1<=y
theorem Rd.len(h:Rd o g ts kd s):-s.2.2<=-sts o g:=by
 let:=Gz h.nd (k:=sts o g) λr j=>by
  let:=Ic.mp j
  cases e:AR s.2.2 r with
  | none=>rw[e]at this;cases this
  | some t=>exact(h.rg r t e).1
 ext
theorem jF(h:GB o ts)(I:o < 8)(J:g<=o)(L:1<=g)(O:g<=6){j:¬BK}(hb:Bh o g ts kd j){s:Int×Int×FV}(hs:Rd o g ts kd s){R:(FV×¬BK)->Prop} :
  OkF (BW (j.map (·.1)) [] λ(E:(¬(Z'×Int))) m=>AU ((AR j m*>λw=>Bu w (λG=>!true) (λG=>!decide (((AR s.2.2 G).getD (s.2.1+(1:Int))) < (s.2.1+(1:Int)))))*>λA=>!.nx A) λP=>BQ (λQ=>Q) ((if (not (AR s.2.2 m.1).isSome) then !P.all id else !false)*>λB=>if B=true then BQ (λS=>S) (HG E m*>λC=>!.nx C)else !.nx E))
   (λfr:¬(Z'×Int)=>(∀k,k∈fr↔k∈j.map (·.1)/\AR s.2.2 k.1=none/\∀x∈bh ts kd k.1 k.2,(AR s.2.2 x).isSome=true)) R:=by
 let T:-j.map (·.1)<=1000:=by rw[AD];exact hb.ln
 refine OkF.imp (OkF.for (λpre (fr:¬(Z'×Int))=>(∀k,k∈fr↔k∈pre/\AR s.2.2 k.1=none/\∀x∈bh ts kd k.1 k.2,(AR s.2.2 x).isSome=true)/\-fr<=-pre) #[λk=>by simp,by simp] ?_) (λfr z=>z.1) λM z=>z
 rintro pre k fr H U ⟨X,i2⟩
 let Y:-pre+1<=-j.map (·.1):=by let:=U.length_le;rw[AT]at this;exact this
 obtain⟨Z,-,k3⟩:=(hb.ky k).mp H;let#[b1,b2]:=kQ (kd:=kd) h I J L O Z k3
 let lt:∀x,decide (((AR s.2.2 x).getD (s.2.1+(1:Int))) < (s.2.1+(1:Int)))=(AR s.2.2 x).isSome:=λx=>by
  cases e:AR s.2.2 x with
  | none=>simp
  | some t=>
   let:=(hs.rg x t e).2;simp
   lia
 rw[hb.vl k H];simp only[AH];rw[FJ (f:=λx=>(AR s.2.2 x).isSome) ∅ λx M=>by rw[lt]];simp only[AH,BF]
 let t7:((bh ts kd k.1 k.2).map λx=>(AR s.2.2 x).isSome).all id=true↔∀x∈bh ts kd k.1 k.2,(AR s.2.2 x).isSome:=by simp
 let fin:∀l:¬(Z'×Int),(∀q,q∈l↔q∈fr∨(q=k/\AR s.2.2 k.1=none/\∀x∈bh ts kd k.1 k.2,(AR s.2.2 x).isSome=true))->∀q,q∈l↔q∈pre++[k]/\AR s.2.2 q.1=none/\∀x∈bh ts kd q.1 q.2,(AR s.2.2 x).isSome:=λl hf q=>by
  rw[hf,X,Aj,Av]
  constructor
  ·rintro(⟨a,z⟩ | ⟨rfl,z⟩)
   ·exact#[.inl a,z]
   ·exact#[.inr rfl,z]
  ·rintro⟨a | rfl,z⟩
   ·exact .inl #[a,z]
   ·exact .inr #[rfl,z]
 refine OkF.map (N:=λl:¬(Z'×Int)=>(∀q,q∈l↔q∈pre++[k]/\AR s.2.2 q.1=none/\∀x∈bh ts kd q.1 q.2,(AR s.2.2 x).isSome=true)/\-l<=-(pre++[k])) ?_ λM z=>z
 by_cases c:AR s.2.2 k.1=none/\∀x∈bh ts kd k.1 k.2,(AR s.2.2 x).isSome=true
 ·rw[c.1]
  simp only[Option.isSome_none,Rq,if_true,t7.mpr c.2,AH];rw[PY ∅];refine .nx #[fin _ λq=>?_,by simp;ext];rw[Aj,Av];exact#[λz=>z.imp id λe=>#[e,c],λz=>z.imp id λe=>e.1]
 ·let:(if (not (AR s.2.2 k.1).isSome) then !((bh ts kd k.1 k.2).map λx=>(AR s.2.2 x).isSome).all id else !false)=!false:=by
   by_cases e:AR s.2.2 k.1=none
   ·ext
   ·cases e2:AR s.2.2 k.1 with
    | none=>ext
    | some t=>rfl
  rw[this];simp only[AH,BB,if_false];exact .nx #[fin _ λq=>#[.inl,λz=>z.elim id λz=>zX z.2 c],by simp;lia]
theorem mJ(H:o < 8)(I:g<=o)(J:1<=g){s:Int×Int×FV}(hs:Rd o g ts kd s){fr:¬(Z'×Int)}(G:∀k∈fr,k.1∈sts o g/\AR s.2.2 k.1=none){R:(FV×¬BK)->Prop} :
  OkF (BW fr.reverse s.2.2 λ(L:(¬(Z'×Int))) O=>BQ (λP=>P) (B4 L O.1 (s.2.1+(1:Int))*>λm=>!.nx m))
   (λf:FV=>(∀r,AR f r=if r∈fr.map (·.1)then !s.2.1+1 else AR s.2.2 r)/\(f.map (·.1)).Nodup/\-s.2.2<=-f/\(fr≠[]->-s.2.2 < -f)) R:=by
 obtain⟨-,-,-,Z⟩:=JR o H g ∅ I J;let G':=hs.len
 refine OkF.imp (OkF.for (λpre (f:FV)=>(∀r,AR f r=if r∈pre.map (·.1)then !s.2.1+1 else AR s.2.2 r)/\(f.map (·.1)).Nodup/\-s.2.2<=-f/\(pre≠[]->-s.2.2 < -f)) #[λr=>by simp,hs.nd,AM _,λz=>zX rfl z] ?_) (λf #[j,l,w,A]=>#[λr=>?_,l,w,λz=>A (by simpa using z)]) λM z=>z
 ·rintro pre k f Q S ⟨j,l,w,A⟩
  let B:k∈fr:=EU.mp Q;let#[k1,T]:=G k B
  let C:∀r∈pre.map (·.1),r∈sts o g:=λr E=>by
   let#[q,U,rfl]:=Ay.mp E;exact(G q (EU.mp (S.subset (CS _ U)))).1
  let fl:-f<=35:=by
   let:=Gz l (k:=sts o g) λr E=>by
    let:=Ic.mp E;rw[j]at this
    by_cases e:r∈pre.map (·.1)
    ·exact C r e
    ·rw[qY e]at this
     cases X:AR s.2.2 r with
     | none=>ext
     | some t=>exact(hs.rg r t X).1
   rw[AD]at this
   lia
  refine OkF.map (N:=λY:FV=>Y=Cz f k.1 (s.2.1+1)) ?_ ?_
  ·unfold B4
   rw[qX ∅];exact .nx rfl
  ·rintro _ rfl
   refine#[λr=>?_,mK l,A5 w b9,λM=>?_]
   ·let hm:r∈(pre++[k]).map (·.1)↔r∈pre.map (·.1)∨r=k.1:=by rw[Bv,Aj];simp
    rw[CN,j]
    lia
   ·by_cases e:pre=[]
    ·subst e
     let:AR f k.1=none:=by rw[j];simpa using T
     rw[mL this]
     lia
    ·exact Ab (A e) b9
 ·rw[j]
  simp only[O3,EU]
set_option tactic.hygienic true in
theorem i6(h:GB o ts)(H:o < 8)(I:g<=o)(J:1<=g)(Q:g<=6):Ok (Fh ts o (sts o g) kd) λv=>Bh o g ts kd v.2/\Rk o g ts kd (AR v.1):=by
 obtain⟨-,-,-,R⟩:=JR o H g ∅ I J;unfold Fh Iv;simp only[BF];refine OkF.out (OkF.seq (hW h H I J Q) λbd hb=>?_)
 refine OkF.seq (nL (Rd o g ts kd) (λs=>2 * (-sts o g - -s.2.2)+if s.1=(-s.2.2:Int)then 0 else 1) #[λr t e=>by simp[AR]at e,.nil,λz=>by simp at z,by simp,by simp,λr t e=>by simp[AR]at e,λr t e=>by simp[AR]at e,λr t e=>by simp[AR]at e,λz=>by simp at z] (by
  let:-sts o g<=35:=R;show _+_ < wN;unfold wN
  split <;> lia) ?_) ?_
 ·intro s j
  refine#[_,rfl,λO=>?_]
  let O:s.1≠(-s.2.2:Int):=by simpa using O
  simp only[AH,de,BF]
  refine OkF.seq (jF h H I J Q hb j) λfr A=>?_
  let P:∀k∈fr,k.1∈sts o g/\AR s.2.2 k.1=none:=λk m=>by
   obtain⟨a,b,-⟩:=(A k).mp m;exact#[((hb.ky k).mp a).1,b]
  refine OkF.map (mJ H I J j P) ?_;rintro f ⟨S,T,f3,f4⟩
  let B:∀x y,AR s.2.2 x=!y->AR f x=!y:=λx y e=>by
   ext
  let new:∀x y,AR f x=!y->AR s.2.2 x=!y∨(AR s.2.2 x=none/\y=s.2.1+1/\∃k∈fr,k.1=x):=λx y e=>by
   rw[S]at e;split at e
   ·rename_i U
    cases e;let#[k,m,rfl]:=Ay.mp U;exact .inr #[(P k m).2,rfl,k,m,rfl]
   ·exact .inl e
  let tn:=j.tn
  let non:∀r∈sts o g,AR f r=none->∀c,Cal o r c->AR s.2.2 r=none/\∃x∈bh ts kd r c,AR s.2.2 x=none:=λr L G c l=>by
   let N:AR s.2.2 r=none:=by
    cases e:AR s.2.2 r with
    | none=>rfl
    | some y=>rw[B r y e]at G;cases G
   refine#[N,BY λq=>?_]
   let:=(A (r,c)).mpr #[(hb.ky (r,c)).mpr #[L,l],N,λx C=>by
    cases e:AR s.2.2 x with
    | none=>exact zX #[x,C,e] q
    | some t=>rfl]
   grind
  let rd:Rd o g ts kd ((-s.2.2:Int),s.2.1+1,f):=by
   refine#[λr t e=>?_,T,λz r L G c l=>?_,by show(-s.2.2:Int)<=-f;ext,by show 0<=s.2.1+1;lia,λr t e=>?_,λr t e=>?_,λr t e X c l=>?_,λM r L G c l=>?_]
   ·rcases new r t e with q | ⟨-,rfl,k,m,rfl⟩
    ·let#[a,b]:=j.rg r t q
     exact#[a,by show t<=s.2.1+1;lia]
    grind
   ·grind
   ·rcases new r t e with q | ⟨-,rfl,-⟩
    ·exact j.lo r t q
    ·lia
   ·rcases new r t e with q | ⟨-,rfl,k,m,rfl⟩
    ·let#[c,l,C]:=j.up r t q
     exact#[c,l,λx E=>let #[y,Y,Z]:=C x E;#[y,B x y Y,Z]]
    ·obtain⟨a,-,b⟩:=(A k).mp m
     refine#[k.2,((hb.ky k).mp a).2,λx E=>?_];let#[y,w]:=CF.mp (b x E);let:=(j.rg x y w).2;exact#[y,B x y w,by lia]
   ·rcases new r t e with q | ⟨N,rfl,k,m,rfl⟩
    ·let#[x,E,C]:=j.mn r t q X c l
     let tl:=(j.rg r t q).2;refine#[x,E,λy w=>?_]
     rcases new x y w with q | ⟨-,rfl,-⟩
     ·exact C y q
     ·lia
    ·let#[x,E,C]:=j.cu ∅ k.1 (P k m).1 N c l
     refine#[x,E,λy w=>?_]
     rcases new x y w with q | ⟨-,rfl,-⟩
     ·let:=C y q
      ext
     ·lia
   ·obtain⟨-,x,x1,x2⟩:=non r L G c l
    refine#[x,x1,λy w=>?_];show s.2.1+1<=y
    rcases new x y w with q | ⟨-,rfl,-⟩
    ·ext
    ·ext
  refine#[rd,?_];let l1:=rd.len;let l2:=j.len;let l3:-f<=-sts o g:=l1
  show 2 * (-sts o g - -f)+(if (-s.2.2:Int)=(-f:Int)then 0 else 1) < 2 * (-sts o g - -s.2.2)+if s.1=(-s.2.2:Int)then 0 else 1
  rw[qY O]
  split <;> grind
 ·rintro s ⟨j,l⟩
  let e:s.1=(-s.2.2:Int):=by simpa using l
  exact .rt #[hb,λr t e=>(j.rg r t e).1,j.lo,j.up,j.mn,j.dn e]
end
open L2 L4
open L7 (BK Wa)
theorem Tj{j:Type}(l:¬j)(x:j)(P:j->Bool):(l++[x]).filter P=if P x then l.filter P++[x]else l.filter P:=by
 grind
section
variable{o g:Nat}{ts:¬YP}{kd:Str}{T:TL}
theorem VY(h:GB o ts)(m:o < 8)(w:g<=o)(A:1<=g)(I:g<=6){n:Nat}(B:(sts o g)[n]?=!r)(J:c∈clS o g n):x∈bh ts kd r c↔∃j,BS o g (FD ts) kd n c j/\(sts o g)[j]?=!x:=by
 let L:=((OC B).mp J).2;obtain⟨l,e,N,-⟩:=Ta (kd:=kd) h m w A I ((Er m w A).mp (Az B)) L;unfold bh;rw[e];refine(N x).trans #[λ#[a,q]=>?_,λ#[j,#[O,P,C,E,q],G]=>?_]
 ·obtain⟨j,H,-⟩:=ls m w A a
  exact#[j,#[r,x,B,H,q],H]
 ·rw[B]at C
  rw[G]at E;cases C;cases E;exact#[(Er m w A).mp (Az G),q]
open Classical in
def rkT(o g:Nat)(T:TL)(r:Z'):⇑Int:=if h:∃n:Nat,(sts o g)[n]?=!r then(AR T (h.choose:Int)).map (·.1)else none
theorem Km(l:o < 8)(m:g<=o)(w:1<=g){n:Nat}(j:(sts o g)[n]?=!r):rkT o g T r=(AR T (n:Int)).map (·.1):=by
 let h:∃n:Nat,(sts o g)[n]?=!r:=#[n,j]
 unfold rkT;rw[dif_pos h,iD l m w h.choose_spec j]
theorem M9(l:o < 8)(m:g<=o)(w:1<=g)(h:rkT o g T r=!t):∃(n:Nat) (z:Int×Int),(sts o g)[n]?=!r/\AR T (n:Int)=!z/\z.1=t:=by
 by_cases c:∃n:Nat,(sts o g)[n]?=!r
 ·let#[n,j]:=c
  rw[Km l m w j]at h;let#[z,A,e]:=C9.mp h;exact#[n,z,j,A,e]
 ·unfold rkT at h
  ext
theorem qj(h:GB o ts)(l:o < 8)(m:g<=o)(A:1<=g)(I:g<=6)(F:Fa (-sts o g) (clS o g) (BS o g (FD ts) kd) T):Rk o g ts kd (rkT o g T):=by
 let ix:∀{n:Nat} {c:Int} {j:Nat},BS o g (FD ts) kd n c j->∃x,(sts o g)[j]?=!x:=λ#[_,x,_,e,_]=>#[x,e]
 refine#[λr t e=>?_,λr t e=>?_,λr t e=>?_,λr t e P c J=>?_,λr Q e c J=>?_]
 ·obtain⟨n,z,B,-,-⟩:=M9 l m A e
  exact Az B
 ·let#[n,z,B,E,rfl]:=M9 l m A e
  exact(F.ok n z E).1
 ·let#[n,z,B,E,rfl]:=M9 l m A e
  obtain⟨-,N,R,-⟩:=F.ok n z E;refine#[z.2,(OC B).mp N,λx S=>?_];let#[j,C,U]:=(VY h l m A I B N).mp S;let#[y,X,Y]:=R j C;exact#[y.1,by rw[Km l m A U,X];rfl,Y]
 ·let#[n,z,B,E,rfl]:=M9 l m A e
  let G:=(OC B).mpr J;let#[j,C,q]:=(F.ok n z E).2.2.2.2 P c G;let#[x,H]:=ix C;refine#[x,(VY h l m A I B G).mpr #[j,C,H],λy O=>?_];rw[Km l m A H]at O;let#[w,hw,rfl]:=C9.mp O;exact q w hw
 ·let#[n,B,rfl]:=CL Q
  let L:(sts o g)[n]?=!(sts o g)[n]:=AJ B;rw[Km l m A L]at e;let G:=(OC L).mpr J;let#[j,C,q]:=F.no n B (Option.map_eq_none_iff.mp e) c G;let#[x,H]:=ix C;exact#[x,(VY h l m A I L G).mpr #[j,C,H],by rw[Km l m A H,q];rfl]
theorem i7(h:GB o ts)(S:o < 8)(U:g<=o)(X:1<=g)(Y:g<=6){B:¬BK}(hb:Bh o g ts kd B){l:FV}(E:r∈sts o g){t c:Int}(Z:AR l r=!t)(t9:t<=1000)
  (hc:Cal o r c) (c1:∀x∈bh ts kd r c,∃y,AR l x=!y/\y < t) (c2:∀d,Cal o r d->d < c->∃x∈bh ts kd r d,∀y,AR l x=!y->t<=y) {R:¬(Z'×Int×Int)->Prop} :
  OkF (BW (CA 0 o).reverse ((unop% Neg.neg (1:Int))) λ(G:Int) H=>AU (!.nx (AR B (r,H))) λxx=>BQ (λvt=>vt) (match xx with | none=>!.nx G | some zd=>AU (Bu zd (λI=>!true) (λI=>(QJ (10:Int) (9:Int)*>λvG=>!(AR l I).getD vG)*>λuD=>AR l r*>λuw=>!decide (uD < uw))*>λwe=>!.nx we) λze=>BQ (λC'=>C') (if (ze.all id) then BQ (λD'=>D') (!.nx H)else !.nx G))) (λm=>m=c) R:=by
 let up:(CA 0 o).reverse.Pairwise (· > ·):=V5.mpr (PH 0 o)
 refine OkF.imp (OkF.for (λpre (m:Int)=>(c∈pre->m=c)/\(c∉pre->m = -1∨c < m)) #[λz=>(nomatch z),λM=>.inl rfl] ?_) (λm z=>z.1 (EU.mpr (Cm.mpr (by ext)))) λM z=>z
 rintro pre d m hd hp ⟨i1,i2⟩;let#[J,d1]:=Cm.mp (EU.mp hd);let A:=up.sublist hp.sublist;rw[A6]at A
 let L:∀x∈pre,d < x:=λx hx=>A.2.2 x hx d (J1 _)
 let dp:d∉pre:=λz=>by let:=L d z;lia
 let fin:∀j:Int,(d < c/\j=m)∨(d=c/\j=c)∨(c < d/\(j=m∨j=d))->(c∈pre++[d]->j=c)/\(c∉pre++[d]->j = -1∨c < j):=λj q=>by
  rw[Aj,Av]
  rcases q with⟨q,rfl⟩ | ⟨q,rfl⟩ | ⟨q,q'⟩
  ·exact#[λz=>i1 (z.elim id λz=>by ext),λz=>i2 λw=>z (.inl w)]
  ·exact#[λM=>rfl,λz=>zX (.inr q.symm) z]
  ·refine#[λz=>?_,λz=>?_]
   ·rcases z with z | z
    ·let:=L c z
     lia
    ·ext
   ·rcases q' with rfl | rfl
    ·ext
    ·exact .inr q
 simp only[BF]
 refine OkF.map (N:=λj:Int=>(c∈pre++[d]->j=c)/\(c∉pre++[d]->j = -1∨c < j)) ?_ λM z=>z
 cases e:AR B (r,d)with
 | none=>
  let C:d∈r:=BY λq=>by
   let:=(hb.ky (r,d)).mpr #[E,#[J,by ext],q];let:=Ic.mp this;rw[e]at this;cases this
  refine .nx (fin m ?_)
  grind
 | some rs=>
  let O:(r,d)∈B.map (·.1):=Ic.mpr (by rw[e];rfl);let C:d∉r:=((hb.ky (r,d)).mp O).2.2
  let er:rs=bh ts kd r d:=by
   let:=hb.vl (r,d) O;rw[e]at this;exact Bw this
  subst er;obtain⟨b1,-⟩:=kQ (kd:=kd) h S U X Y E C;symm
  rw[FJ (f:=λx=>decide ((AR l x).getD 1000000000 < t)) ∅ λx M=>by
   rw[Z]
   rfl]
  simp only[AH,BF]
  let P:((bh ts kd r d).map λx=>decide ((AR l x).getD 1000000000 < t)).all id=true↔∀x∈bh ts kd r d,∃y,AR l x=!y/\y < t:=by
   rw[Vl,HI]
   refine forall_congr' λx=>imp_congr_right λM=>?_
   show decide ((AR l x).getD 1000000000 < t)=true↔_;rw[decide_eq_true_eq]
   cases AR l x with
   | none=>exact#[λz=>by let:(1000000000:Int) < t:=z;grind,λ#[y,z,_]=>nomatch z]
   | some y=>exact#[λz=>#[y,rfl,z],λ#[_,z,q]=>by cases z;exact q]
  refine OkF.map (N:=λj:Int=>(c∈pre++[d]->j=c)/\(c∉pre++[d]->j = -1∨c < j)) ?_ λM z=>z
  by_cases q:∀x∈bh ts kd r d,∃y,AR l x=!y/\y < t
  ·rw[P.mpr q,qX rfl]
   refine OkF.map (N:=λj:Int=>j=d) (.nx rfl) ?_;intro j Q;refine fin _ ?_
   rcases Jb d c with z | z | z
   ·let#[x,x1,x2]:=c2 _ #[#[J,by ext],C] z
    let#[y,y1,y2]:=q x x1;let:=x2 y y1
    grind
   ·exact .inr (.inl #[z,Q.trans z])
   ·exact .inr (.inr #[z,.inr Q])
  ·rw[Bool.eq_false_iff.mpr λz=>q (P.mp z),qY An]
   refine .nx (fin m ?_)
   rcases Jb d c with z | z | z
   ·exact .inl #[z,rfl]
   ·subst z;exact zX c1 q
   ·exact .inr (.inr #[z,.inl rfl])
end
theorem iQ:∀o:Nat,o < 8->decide (((prs o).map Nv).Pairwise λa b=>Srt.ltL b a=false):=by decide +kernel
theorem Y1{o:Nat}(j:o < 8)(P:Int×Int->Bool):FD ((prs o).filter P)=(prs o).filter P:=by
 let l:=Xn j P
 let m:(((prs o).filter P).map Nv).Pairwise λa b=>Srt.ltL b a=false:=(of_decide_eq_true (iQ o j)).sublist (Ym.map Nv)
 let e:MH ((prs o).filter P)=((prs o).filter P).map Nv:=by
  unfold MH;rw[show((prs o).filter P).map (λx=>Nv (nrm x))=(((prs o).filter P).map nrm).map Nv by ext,l.nrm];exact LG (C7 _) (Kb _) m
 unfold FD;rw[e,Aw];exact(B0 λx G=>hJ x).trans (Ln _)
section
variable{o g:Nat}{ts:¬YP}{kd:Str}
theorem rn(h:GB o ts)(l:o < 8)(m:g<=o)(A:1<=g)(E:g<=6){P:¬BK}(hb:Bh o g ts kd P){H:FV}(Y:Rk o g ts kd (AR H)){T:TL}(F:Fa (-sts o g) (clS o g) (BS o g (FD ts) kd) T):Hy o (sts o g) H P=!Fll o g T:=by
 obtain⟨-,-,-,hl⟩:=JR o l g ∅ m A
 let same:∀r,AR H r=rkT o g T r:=Y.same h l m A E (qj h l m A E F)
 let ix:∀{n:Nat} {c:Int} {j:Nat},BS o g (FD ts) kd n c j->∃x,(sts o g)[j]?=!x:=λ#[_,x,_,e,_]=>#[x,e]
 refine Ok.is ?_;unfold Hy MK;simp only[AH,de,BF];refine OkF.out (OkF.seq (OkF.for (λpre (s:¬(Z'×Int×Int))=>s=((CA 0 (-pre)).filter λn=>(AR T n).isSome).map λn=>(evN o g n,(AR T n).getD (0,0))) rfl ?_) ?_)
 ·rintro pre r s Z Q rfl
  let hpl:-pre+1<=-sts o g:=by let:=Q.length_le;simpa using this
  let C:(sts o g)[pre.length]?=!r:=by
   let#[z,hz]:=Q;rw[<-hz,Ba,BU (AM _),V1];rfl
  let e1:CA 0 (-(pre++[r]))=CA 0 (-pre)++[(-pre:Int)]:=by
   rw[AT,Am];unfold CA;rw[List.range_succ,Bv];simp
  rw[e1,Tj]
  let sl:(((CA 0 (-pre)).filter λn=>(AR T n).isSome).map λn=>(evN o g n,(AR T n).getD (0,0))).length<=1000:=by
   let:=CO (λn=>(AR T n).isSome) (CA 0 (-pre));rw[Ck]at this;rw[AD]
   lia
  generalize (CA 0 (-pre)).filter (λn=>(AR T n).isSome)=L at sl;let ev:=Tl C;let B:=(same r).trans (Km l m A C)
  refine OkF.map (N:=λO:¬(Z'×Int×Int)=>O=(if (AR T (-pre:Int)).isSome then L++[(-pre:Int)]else L).map λn=>(evN o g n,(AR T n).getD (0,0))) ?_ λM z=>z
  cases I:AR T (-pre:Int)with
  | none=>
   rw[I]at B;rw[B];exact .nx rfl
  | some z=>
   let#[t,c]:=z;obtain⟨z1,S,z3,z4,-⟩:=F.ok _ _ I;rw[I]at B;let B:AR H r=!t:=B;rw[B];simp only[Mb,if_true,AH];rw[show Wa (o:Int)=!(CA 0 o).reverse by unfold Wa;rw[qX ∅,Ax]];simp only[AH];let hi:=F.hi _ _ I
   refine OkF.seq (by
    let:=i7 h l m A E hb Z B (by dsimp only at hi;lia) ((OC C).mp S) (λx hx=>by
     let#[j,J,ej]:=(VY h l m A E C S).mp hx;let#[y,y1,y2]:=z3 j J
     exact#[y.1,by rw[same,Km l m A ej,y1];rfl,y2]) (λd hd my=>by
     let G:=(OC C).mpr hd;let#[j,J,q]:=z4 d G my;let#[x,U]:=ix J;refine#[x,(VY h l m A E C G).mpr #[j,J,U],λy X=>?_];rw[same,Km l m A U]at X;let#[w,hw,rfl]:=C9.mp X
     exact q w hw) (R:=λr=>r=Fll o g T)
    rw[B]at this
    exact this) ?_
   rintro _ rfl
   refine OkF.map (N:=λO:¬(Z'×Int×Int)=>O=(L++[(-pre:Int)]).map λn=>(evN o g n,(AR T n).getD (0,0))) ?_ λM z=>z
   rw[PY ∅];refine .nx ?_
   ext
 ·rintro s rfl
  exact .rt rfl
end
theorem rX(j:Z')(N:-j<=63):X8 j=!true:=by
 refine Ok.is (v:=true) ?_;unfold X8 bz;rw[show Bt j 0=!j.getD 0 0 from Qs j 0,show Bt j 1=!j.getD 1 0 from Qs j 1,show Bt j 2=!j.getD 2 0 from Qs j 2];simp only[AH,BF]
 let O:∃o:Nat,2<=o/\o < 8/\(2+j.getD 0 0 % 5+if decide (j.getD 0 0 / 84 % 8=1) then 1 else 0)=(o:Int):=
  #[(2+j.getD 0 0 % 5+if decide (j.getD 0 0 / 84 % 8=1) then 1 else 0).toNat,by split <;> grind,by split <;> grind,by split <;> grind]
 let#[o,Q,m,R]:=O;rw[R];let#[P,S]:=lZ j N 3 (by ext) Q m;rw[show Fs j 3 o=_ from S];let w:=Xn m P;let C:=Y1 m P;generalize (prs o).filter P=ts at w C;simp only[AH,BF];let#[hs,U,E]:=dU j (ts:=ts) (by let:=w.ln;lia);rw[U];simp only[AH];rw[w.web ∅ ∅ E];simp only[AH,BF,few2]
 let X:∃g:Nat,1<=g/\g<=5/\g<=o/\((atI [(3:Int),5] (if decide ((o:Int) < 6) then 1 else 0)*>λG=>!(if G < (o:Int)then G else(o:Int)))*>λY=>MN (j.getD 1 0) Y)=!(g:Int) - 1:=by
  by_cases c:(o:Int) < 6
  ·rw[wX c,qX rfl,show atI [(3:Int),5] 1=!5 from ID (by ext) rfl]
   simp only[AH]
   let H:(0:Int) < (if (5:Int) < (o:Int)then(5:Int)else(o:Int))/\(if (5:Int) < (o:Int)then(5:Int)else(o:Int))<=5/\(if (5:Int) < (o:Int)then(5:Int)else(o:Int))<=o:=by split <;> lia
   rw[TW H.1];let h1:=jj (j.getD 1 0) (show(if (5:Int) < (o:Int)then(5:Int)else(o:Int))≠0 by grind);let E:=aP (j.getD 1 0) H.1;exact#[(j.getD 1 0 % (if (5:Int) < (o:Int)then(5:Int)else(o:Int))).toNat+1,by ext,by lia,by grind,by congr 1;lia]
  ·rw[wY c,qY An,show atI [(3:Int),5] 0=!3 from ID (by ext) rfl]
   simp only[AH];rw[qX (show(3:Int) < (o:Int) by lia),TW (by ext)];exact#[(j.getD 1 0 % 3).toNat+1,by ext,by lia,by lia,by congr 1;lia]
 let#[g,A,g5,go,Z]:=X;rw[Z];simp only[AH,BF];rw[show(1:Int)+((g:Int) - 1)=(g:Int) by lia]
 obtain⟨kd,ek⟩:∃kd:Str,atI [("one" : Str), "all"] (j.getD 2 0 % 2)=!kd:=by
  obtain⟨x,hx,-⟩:=YZ (l:=[("one" : Str), "all"]) (j.getD 2 0) (by decide);exact#[x,hx]
 rw[ek];simp only[AH,BF];let B:=w.ties m;obtain⟨-,es,tq,hl⟩:=JR o m g (by grind) go A;let#[T,hT,eL]:=jK (kd:=kd) B go A
 let I:g<=6:=by grind
 let#[#[fv,bd],ef,hb,J]:=i6 (kd:=kd) w m go A I;dsimp only at hb J;rw[es];simp only[AH,BF];rw[ef];simp only[AH,BF];rw[rn w m go A I hb J hT];simp only[AH,BF];rw[eL]
 let L:-Fll o g T < 1000000:=by
  let:=CO (λn=>(AR T n).isSome) (CA 0 (-sts o g));rw[Ck]at this;rw[AD]
  lia
 generalize Fll o g T=due at L;simp only[AH,BF,DW,BB,if_false,decide_true];refine OkF.out (OkF.seq (OkF.for (λM M=>True) trivial ?_) λM M=>?_)
 ·intro pre k _ hk _ _
  exact .nx trivial
 ·rw[de]
  simp only[AH];rw[qX L];simp only[BF,decide_true,if_true];rw[wX C];exact .rt rfl
open L2 PySem.W
theorem oR{l:OpenLaw}{w:A3}{K:Frag}{h:BG}{A:Str->⇑AE}{fa:AL}(X:K.In h)(G:h.Ns BD A)(B:A "law" = !.ref fa)
  {f1 f2 f3 f4 f5 f6 f7 f8 f9 C E H I J L N O P Q R S U Y Z f25 f26 f27 f28 f29 f30 f31 f32 f33 f34 f35 f36 o m j:AL} {tF tj:Tok}
  (o_Web:ClsAt K "Web" m)
  (o_Field:ClsAt K "Field" j)
  (d1:Dq K "checked_ties" Kg f1)
  (d2:Dq K "near_sets_of" Kf f2)
  (d4:Dq K "refuse_no_place" IX f4)
  (d5:Dq K "near" bj f5)
  (d6:Dq K "takes_of" P5 f6)
  (d7:Dq K "bits_of" R5 f7)
  (d8:Dq K "members" R4 f8)
  (d9:Dq K "settle" Ke f9)
  (d10:Dq K "fits" bn C)
  (d11:Dq K "with_step" OS E)
  (d12:Dq K "sets_of" R3 H)
  (d13:Dq K "ways_to_choose" JT I)
  (d14:Dq K "how_many" P6 J)
  (d15:Dq K "standings" OT L)
  (d22:Dq K "falling_now" Ly U)
  (d23:Dq K "fallen" Uj Y)
  (d24:Dq K "falls" Xu Z)
  (d25:Dq K "_law_cell_at" Kh f25)
  (d26:Dq K "_law_pairs" M7 f26)
  (d27:Dq K "_law_first_ties" IY f27)
  (d28:Dq K "_law_ties" OU f28)
  (d29:Dq K "_law_handed" Lz f29)
  (d30:Dq K "_law_near" OW f30)
  (d31:Dq K "_law_sets" OV f31)
  (d32:Dq K "_law_answers" Ki f32)
  (d33:Dq K "_law_behind" L1 f33)
  (d34:Dq K "_law_fallen" L0 f34)
  (d35:Dq K "_law_whole" M6 f35)
  (d36:Dq K "_law_due" P7 f36)
  (d37:Dq K "law" bm o)
  (d3:L9 K m "__init__" "Web.__init__" P8 f3)
  (d16:L9 K j "linked_by_one" "Field.linked_by_one" Gk N)
  (d17:L9 K j "linked_by_all" "Field.linked_by_all" Gn O)
  (d18:L9 K j "__init__" "Field.__init__" M8 P)
  (d19:L9 K j "calls" "Field.calls" L3 Q)
  (d20:L9 K j "linked" "Field.linked" E4 R)
  (d21:L9 K j "behind" "Field.behind" Kj S)
  (mo:findIn K (.ref m) "places" = !none)
  (wf:findIn K (.ref m) "ties" = !none)
  (ww:findIn K (.ref m) "near_sets" = !none)
  (ld:findIn K (.ref j) "everything" = !none)
  (wE:findIn K (.ref j) "kind" = !none)
  (t0:findIn K (.ref j) "takes" = !none)
  (wl:findIn K (.ref j) "numbers" = !none)
  (wn:findIn K (.ref j) "having" = !none)
  (wP:findIn K (.ref j) "place_bits" = !none)
  (ul:findIn K (.ref j) "known" = !none)
  (z_all:Og K BD "all" = !none)
  (z_bool:Og K BD "bool" = !none)
  (z_enumerate:Og K BD "enumerate" = !none)
  (z_int:Og K BD "int" = !none)
  (z_isinstance:Og K BD "isinstance" = !none)
  (z_len:Og K BD "len" = !none)
  (z_list:Og K BD "list" = !none)
  (z_max:Og K BD "max" = !none)
  (z_min:Og K BD "min" = !none)
  (z_range:Og K BD "range" = !none)
  (z_reversed:Og K BD "reversed" = !none)
  (z_set:Og K BD "set" = !none)
  (z_sorted:Og K BD "sorted" = !none)
  (z_tuple:Og K BD "tuple" = !none)
  (LE:Og K BD "MOST_PLACES" = !(!.int 60 tF))
  (LT:Og K BD "MOST_STANDINGS" = !(!.int 400 tj))
  : ∃(W:Wd) (T:Txt K A W),fa=T.tz.f/\∀(s:AK) (v:AE),Vm s T.tz.fd #[[v],[]] [("script",v)]:=by
 let#[zl,_,_,_,_,_,_,_,_,_,l,c,k]:=d37;let F:=dY (st:=bm) l c k
 letI W:Wd:=#[m,j]
 letI T:Txt K A W:={
  ST:=mkD X G d1 bd2
  Tm:=mkD X G d2 bd2
  wS:=mkM d3 bd3
  Ty:=mkD X G d4 bd2
  XL:=mkD X G d5 bd2
  aaa:=mkD X G d6 bd1
  aab:=mkD X G d7 bd1
  aac:=mkD X G d8 bd1
  em:=mkD X G d9 bd5
  wv:=mkD X G d10 bd3
  aad:=mkD X G d11 bd3
  aae:=mkD X G d12 bd2
  aaf:=mkD X G d13 bd2
  aag:=mkD X G d14 bd2
  aah:=mkD X G d15 bd2
  wT:=mkM d16 bd2
  xz:=mkM d17 bd2
  v0:=mkM d18 bd4
  xL:=mkM d19 bd2
  mt:=mkM d20 bd2
  BT:=mkM d21 bd3
  Cl:=mkD X G d22 bd2
  aai:=mkD X G d23 bd1
  EE:=mkD X G d24 bd3
  tt:=mkD X G d25 bd2
  Id:=mkD X G d26 bd1
  aaj:=mkD X G d27 bd2
  aak:=mkD X G d28 bd3
  aal:=mkD X G d29 bd2
  IO:=mkD X G d30 bd2
  aam:=mkD X G d31 bd2
  aan:=mkD X G d32 bd4
  aao:=mkD X G d33 bd4
  aap:=mkD X G d34 bd4
  KK:=mkD X G d35 bd1
  aaq:=mkD X G d36 bd4
  tz:=#[o,_,F,F.binds ((bd1 λM M M M M M M M M=>rfl) _ _),oq X G zl]
  gg:=mkO X G o_Web d3
  mo:=mo
  wf:=wf
  ww:=ww
  ce:=mkO X G o_Field d18
  ld:=ld
  wE:=wE
  t0:=t0
  wl:=wl
  wn:=wn
  wP:=wP
  ul:=ul
  aay:=mkE d16
  aaz:=mkE d17
  aaA:=mkE d19
  aaB:=mkE d20
  aaC:=mkE d21
  aaw:=Dm X G z_all
  aaD:=Dm X G z_bool
  aax:=Dm X G z_enumerate
  aas:=Dm X G z_int
  aar:=Dm X G z_isinstance
  ut:=Dm X G z_len
  aat:=Dm X G z_list
  aaE:=Dm X G z_max
  aau:=Dm X G z_min
  dl:=Dm X G z_range
  aav:=Dm X G z_reversed
  aaF:=Dm X G z_set
  ss:=Dm X G z_sorted
  u8:=Dm X G z_tuple
  LE:=#[tF,oq X G LE]
  LT:=#[tj,oq X G LT] }
 refine#[W,T,?_,λs v=>.of_eq rfl];let e:=B.symm.trans (oq X G zl);cases e;rfl
theorem walk{l:OpenLaw}{q:Ao}{j:¬Str}{E:(Str->⇑AE)->BG->Prop}{B:A3->BG->Prop}{d:DefRec}{K:Params->Frag}(I:l.most=!63)(J:d.params.defaults=[])
  (L:∀(w:A3) (h:BG),B w h->(K w.params).In h)
  (F:∀(w:A3) (m:Str->⇑AE) (o:AL) (h:BG),(K w.params).In h->h.Ns BD m->m d.name=!.ref o ->
   ∃(W:Wd) (T:Txt (K w.params) m W),o=T.tz.f/\∀(s:AK) (v:AE),Vm s T.tz.fd #[[v],[]] [("script",v)]) :
  WalkO q j E B l.row.toRowW d [] (λf vs=>Yi f vs):=
 L2.fq (n:=63) (k:=17) (x:="script") (CX:=λw=>CXG l.prog w) (sp:=λw=>bY (K w.params)) I ∅ J #[rfl,by decide,by decide] L
  (λw m o h N G O=>by
   let#[W,T,e,hb]:=F w m o h N G O;subst e
   exact#[T.tz.fd,hb,λC M M=>L7.law_trueN (λA=>qI T A) rX])
  (λM M a A P Q R=>#[a,A,rfl,frz_of Q R,P,λM=>rfl]) (λw H s e S z=>oK z)
end M
end
open PySem.W
set_option maxRecDepth 100000 in
set_option maxHeartbeats 0 in
theorem PySem.Challenge.cw_guardround_k19_rounds_and_calls_holds : PySem.Challenge.rw_guardround_k19_rounds_and_calls.Holds := by
 w_on;o_law;k_head;(case hw=>w_witness2)
 k_fill
 refine M.walk (l:=Gq) rfl rfl (λw h Y=>by first | exact kIn_of Y | exact km_in_of Y) ?F
 case F=>
  intro w mg fa h KX G wR;refine' M.oR (l:=Gq) (w:=w) KX G wR ?o_Web ?o_Field ?d1 ?d2 ?d4 ?d5 ?d6 ?d7 ?d8 ?d9 ?d10 ?d11 ?d12 ?d13 ?d14 ?d15 ?d22 ?d23 ?d24 ?d25 ?d26 ?d27 ?d28 ?d29 ?d30 ?d31 ?d32 ?d33 ?d34 ?d35 ?d36 ?d37 ?d3 ?d16 ?d17 ?d18 ?d19 ?d20 ?d21 ?mo ?wf ?ww ?ld ?wE ?t0 ?wl ?wn ?wP ?ul ?z_all ?z_bool ?z_enumerate ?z_int ?z_isinstance ?z_len ?z_list ?z_max ?z_min ?z_range ?z_reversed ?z_set ?z_sorted ?z_tuple ?LE ?LT
  (case o_Web | o_Field=>exact⟨by k_is,by k_is,by k_is,by k_is,by k_is,by k_is,by k_is⟩)
  (case d1 | d2 | d4 | d5 | d6 | d7 | d8 | d9 | d10 | d11 | d12 | d13 | d14 | d15 | d22 | d23 | d24 | d25 | d26 | d27 | d28 | d29 | d30 | d31 | d32 | d33 | d34 | d35 | d36 | d37=>exact⟨by k_is,_,_,_,_,_,_,_,_,_,by k_is,by k_is,by k_is⟩)
  (case d3 | d16 | d17 | d18 | d19 | d20 | d21=>exact⟨by k_is,by k_is,_,_,_,_,_,_,_,_,_,by k_is,by k_is,by k_is⟩)
  (case mo | wf | ww | ld | wE | t0 | wl | wn | wP | ul | z_all | z_bool | z_enumerate | z_int | z_isinstance | z_len | z_list | z_max | z_min | z_range | z_reversed | z_set | z_sorted | z_tuple | LE | LT=>k_is)
