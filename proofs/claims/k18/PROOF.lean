import PyProof.Rows.All
import Wide.All
import OpenK.AllK
import Wide.FinOn
import Lean
import PyProof.EqAt
import PyProof.EqKinds
import PyProof.TupleCall
import PyProof.NeKinds
import PyProof.ExcBaseAll.ValueError
import PyProof.NsDelKeeps
import PyProof.Rows.SortShell
import PyProof.Rows.FStr
import PyProof.FString
import PyProof.ExcAttrAll.ValueError
import PyProof.ExcArgsOwn
import PyProof.Rows.SortRuns
import PyProof.TupleIter
import PyProof.Dict
import KE.KDictSum
import PyProof.TupleOfSeq
import PyProof.EnumMake
import PyProof.SliceList
import PyProof.MinMaxWalk
import PyProof.Rows.EnumRows
import PyProof.WalkInts
import PyProof.WalksMore
import PyProof.Rows.SeqCalls
import KE.KRevIter
import PyProof.CollectIter
import PyProof.TupleOfGen
import PyProof.Rows.FactsT2
import PyProof.ListRange
import PyProof.Rows.CallKwBuiltin
import PyProof.Rows.SetFrom
import PyProof.SetRoads
import PyProof.Rows.Range3
import PyProof.ZipIter
import PyProof.Rows.ZipGen
import PyProof.Rows.RuleM_int
import PyProof.Rows.AssignMoreSeq
import KE.KIntText
import PyProof.Rows.StrKeys3
import PyProof.StrBlock
import PyProof.StrCalls2
import PyProof.StrWalks
import PyProof.TupleKey
import PyProof.SetKind
import PySem.Challenge.RW_guardround_k18_who_lasts
local macro_rules|`(tactic|and_intros)=>`(tactic|first|exact .inl rfl|exact .inr rfl|assumption)
local macro_rules|`(tactic|ext)=>`(tactic|simp_all)
local macro_rules|`(tactic|symm)=>`(tactic|dsimp only)
local macro_rules|`(∅)=>`(by first|lia|omega|decide|decide +kernel|(simp;done)|simp_all)
set_option tactic.hygienic false
set_option hygiene false
set_option genInjectivity false
set_option Elab.async false
set_option linter.all false
set_option compiler.extract_closed false
set_option bootstrap.genMatcherCode false
set_option genSizeOf false
set_option maxRecDepth 100000
set_option maxHeartbeats 8000000
abbrev ZLi:=List Int
abbrev ZPi:=Int×Int
theorem qX{c:Prop}{h:Decidable c}(l:c){m:Sort u}{t e:m}:ite c t e=t:=if_pos l
theorem qY{c:Prop}{h:Decidable c}(l:Not c){m:Sort u}{t e:m}:ite c t e=e:=if_neg l
theorem wX{p:Prop}[i:Decidable p](h:p):decide p=true:=decide_eq_true h
theorem wY{p:Prop}[i:Decidable p](h:Not p):decide p=false:=decide_eq_false h
theorem zX{a b:Prop}(h:a)(n:Not a):b:=absurd h n
theorem yq0(h:True:=by rfl):True:=h
def yq0q:=yq0._auto_1
theorem yq1(h:True:=by decide):True:=h
def yq1q:=yq1._auto_1
theorem yq2(h:True:=by intro _;rfl):True:=h
def yq2q:=yq2._auto_1
theorem yq3(h:True:=by and_intros):True:=h
def yq3q:=yq3._auto_1
theorem yq4(h:True:=by first | exact HK rfl | exact GK rfl):True:=h
def yq4q:=yq4._auto_1
theorem yq5(h:True:=by with_unfolding_all rfl):True:=h
def yq5q:=yq5._auto_1
theorem yq6(h:True:=by assumption):True:=h
def yq6q:=yq6._auto_1
theorem yq7(h:True:=by intro _ _;rfl):True:=h
def yq7q:=yq7._auto_1
theorem yq8(h:True:=by decide +kernel):True:=h
def yq8q:=yq8._auto_1
theorem yq9(h:True:=by first | exact Gq _ | with_unfolding_all rfl):True:=h
def yq9q:=yq9._auto_1
theorem yq10(h:True:=by exact Ds rfl):True:=h
def yq10q:=yq10._auto_1
theorem yq11(h:True:=by first | exact nobehind _ ∅ ∅ | rfl):True:=h
def yq11q:=yq11._auto_1
theorem yq12(h:True:=by intros;rfl):True:=h
def yq12q:=yq12._auto_1
theorem yq13(h:True:=by first | exact HK rfl | exact GK (HK rfl) | exact GK (GK rfl)):True:=h
def yq13q:=yq13._auto_1
theorem yq14(h:True:=by kernel_rfl):True:=h
def yq14q:=yq14._auto_1
theorem yq15(h:True:=by intro H _ _ _ _ _ _;exact pgn 0 H):True:=h
def yq15q:=yq15._auto_1
theorem yq16(h:True:=by exact jA):True:=h
def yq16q:=yq16._auto_1
noncomputable section
open Array renaming forIn_toList->Fs,getD->RC,getD_eq_getD_getElem?->Ct,getElem?_eq_getElem->Bq,getElem?_eq_none->J1,getElem?_toList->CF,length_toList->Ac,mem_extract_iff_getElem->Oo,mem_of_getElem?->Ce,mem_toList_iff->BB,perm_iff_toList_perm->E6,replicate->de,size_map->eR,toList->UB,toList_append->EJ,toList_map->G4,toList_modify->W7,toList_push->GS,toList_setIfInBounds->RB
open Array.Perm renaming refl->ND
open Bool renaming and_eq_true->Di,and_false->i8,false_eq_true->A5,false_ne_true->Av,false_or->jw,not_false->IJ,not_true->C1,or_eq_true->KP
open Classical renaming byContradiction->BR,choose->GR,choose_spec->JR
open False renaming elim->Q9
open ForInStep renaming yield->G1
open Int renaming emod_lt_of_pos->Zx,emod_nonneg->i7,fdiv_eq_ediv_of_nonneg->SX,le_refl->rf,one_mul->re,toNat_natCast->Ay,toNat_of_nonneg->BG
open List renaming Nodup->IH,Perm->EN,all_cons->ju,all_eq_true->Ju,all_map->nq,any_cons->Md,any_eq_false->Zv,any_eq_true->HA,any_map->nj,any_toArray->Jt,append_assoc->Bf,append_nil->BO,drop_eq_getElem_cons->Dx,drop_of_length_le->Vb,eq_nil_of_length_eq_zero->DN,ext_getElem->db,ext_getElem?->D5,extract->Va,filterMap_cons->Hj,filterMap_map->Zl,filter_eq_self->YR,filter_sublist->Hi,find?_cons->CP,find?_eq_none->Zk,find?_some->eD,flatMap_cons->Iz,foldl_append->GX,foldl_nil->i6,forIn_cons->D0,forIn_nil->GW,getD_eq_getElem?_getD->Bz,getElem?_append_left->Br,getElem?_append_right->Bl,getElem?_cons_zero->UA,getElem?_drop->Zj,getElem?_eq_getElem->AI,getElem?_eq_none_iff->CY,getElem?_eq_some_iff->AJ,getElem?_map->Ab,getElem?_of_mem->HN,getElem?_range->EM,getElem?_replicate->Js,getElem?_set->DT,getElem?_set_ne->Cr,getElem?_set_self->EY,getElem?_take_of_lt->T0,getElem?_zipIdx->Lj,getElem?_zip_eq_some->SV,getElem_inj->Jr,getElem_mem->CB,getElem_of_mem->CD,getElem_zip->Jq,length->Dg,length_append->AS,length_cons->Am,length_drop->FM,length_eq_one_iff->VZ,length_eraseIdx_of_lt->Rb,length_erase_of_mem->Tz,length_filter_le->DD,length_map->AF,length_pos_iff->YQ,length_pos_of_mem->VY,length_range->DS,length_replicate->K9,length_reverse->YO,length_set->eC,length_singleton->Ap,length_tail->Jp,length_take->CV,length_zip->KN,lookup->Li,lookup_cons->CA,mapM_toArray->Zu,map_append->Be,map_congr_left->By,map_cons->Ai,map_drop->Tx,map_filterMap->Zi,map_id->PR,map_id'->nh,map_map->Aw,map_nil->N6,map_reverse->On,map_take->Mc,mem_append->Ak,mem_append_left->CM,mem_append_right->BV,mem_cons->Aj,mem_cons_of_mem->AM,mem_cons_self->AW,mem_erase_of_ne->W5,mem_filter->Az,mem_filterMap->NC,mem_iff_getElem->FF,mem_map->Ax,mem_of_find?_eq_some->SU,mem_of_getElem?->A2,mem_of_mem_drop->HM,mem_of_mem_take->FE,mem_range->B9,mem_reverse->G9,mem_singleton->Au,mem_singleton_self->T9,mergeSort_perm->YN,nodup_append->Iy,nodup_cons->BJ,nodup_iff_pairwise_ne->Ra,nodup_nil->GV,nodup_range->Om,not_mem_nil->DG,of_mem_zip->KM,pairwise_append->BC,pairwise_cons->Fx,pairwise_iff_getElem->Ip,pairwise_lt_range->KC,pairwise_map->BN,pairwise_mergeSort->T8,perm_append_comm->Vr,range->A0,range_succ_eq_map->VX,replicate->Bk,reverse_cons->Zt,set_getElem_self->K8,singleton_append->En,size_toArray->BU,take_add_one->N5,take_append_drop->DC,take_of_length_le->CU,take_sublist->Zs,take_zero->i5,zipIdx_nil->d0,zip_append->Qw,zip_cons_cons->IG
open List.Pairwise renaming and->Re,drop->oR,filterMap->N7,nil->Rc,take->oQ
open List.Perm renaming append_left->GO,append_right->Q8,swap->YS
open List.Sublist renaming filter->rc
open List.cons renaming injEq->JM
open Nat renaming add_assoc->nc,add_zero->oP,and_div_two->Q7,and_mod_two_pow->Mb,le_of_ble_eq_true->Ds,le_of_eq->oO,le_of_lt->KJ,le_of_lt_succ->OX,le_of_not_lt->dy,le_of_succ_le->OW,le_refl->AN,le_succ->Qv,le_trans->A7,lt_irrefl->Em,lt_of_le_of_lt->IY,lt_of_lt_of_le->Aa,lt_of_not_le->dw,lt_or_ge->Gf,lt_succ_of_le->da,lt_succ_of_lt->D6,lt_succ_self->FP,lt_trans->OV,lt_trichotomy->dZ,min_eq_left->iz,mod_lt->NN,mod_two_eq_zero_or_one->IX,ne_of_gt->Ed,ne_of_lt->Ao,not_lt_zero->Q6,pow_le_pow_right->HR,pow_succ->KI,strongRecOn->iy,sub_self->oM,succ_ne_self->dv,succ_pos->Vp,testBit->rZ,testBit_lt_two_pow->Vo,testBit_or->jt,testBit_succ->HF,testBit_two_pow->Ma,two_pow_pos->iw,zero_add->Vn,zero_le->Bc
open Nat.succ renaming inj->MR
open Ne renaming symm->CO
open Option renaming bind_some->AE,getD_some->Zh,isSome_iff_exists->DF,isSome_map->GN,isSome_none->W3,isSome_some->W2,map_eq_some_iff->GM
open Option.some renaming inj->B1
open Or renaming inl->HK,inr->GK
open Prod renaming ext->RZ
open Prod.mk renaming inj->iu
open PyProof.Rows renaming AllBare->JA,IntsAre->Fq,IsTup->eE,Keyed->BA,SortKind->NJ,SortSt->A3,Subscript_->jo,args_tuple_getitem->jn,arrOf->Ad,boot_all->rY,boot_any->rX,boot_bool->rW,boot_int->rT,boot_isinstance->rS,boot_list->rR,boot_max->rQ,boot_min->rM,boot_set->rL,boot_sorted->rK,boot_sum->rJ,boot_tuple->rH,callWith_builtin1->Lh,callWith_type1->Cg,elem'_eq->dr,entry_list_sort->rA,entry_tuple_getitem->iq,envOfC->HD,failedOf->IC,firstOfTuple'->YK,general'->Vj,listUpdate_at->YJ,ltAt'->nW,mirror->PP,mirror_perm->Tv,pairsOf->L1,pendingOf->Ae,reverseSlice'->Oj,reverseSlice'_eq->LS,seqEpoch_at->dk,seqObj->Hh,slot_tuple_getitem->CC,sortedHeap->Ve,subscriptTail->YH,subscriptTail_builtinR->Zo,tuples'->nT,wpS_bind->Af,wpS_forRange->DR,wpS_get->HB,wpS_modify->De,wpS_mono->GP,wpS_pure->Ag
open PyProof.Rows.F renaming entry_set_update_loop->W6,plain_set_update_loop->KO
open PyProof.Rows.IsTup renaming new->Zw
open PyProof.Rows.SortSt renaming mk'->IA
open PySem renaming Addr->AL,Around->BP,BindsTo->Vc,CmpOp->T2,DictEntry->LZ,FuncData->D1,GenState->eG,Heap->BI,IsEnum->SW,IsPart->NP,IsTupleKey->jv,Keyword->KD,Model->Vq,NameKind->NO,Operator->NM,Paired->Er,PassesOwn->oK,Program->Al,Result->jp,Scope->LV,SetTable->Dz,Shared->AK,Stmt->B6,Value->AD,Within->T7,World->A1,assignEach->JP,atKey->KA,attributeBase->Bi,backTo->Cu,backToKw->NI,behindInMarks->BF,binaryOp->EL,bindArgs->du,bindC->Ze,bindL->Zd,bootBuiltins->EK,boot_len->LW,builtinsNs->Vk,cLine->Bd,call->YL,call_meetsIn->Zr,callerA->Q3,cellsFrom->B8,codeAny->HE,codeAny_builtin->GU,codeAny_mono->Ep,codeAny_of_tree->rB,compareOp->Bo,concat_meets->Zq,drawOrder->oG,eqIsQuiet->Zc,eqIsQuiet_byValue->nY,eval->A6,firstArgMember->NG,fits_of_scanBound->nX,foldedSetIterable->B5,getItem->Iu,getMethod->Zb,hashByValue->dq,holding->Fn,intKind->Hz,isInstance->jm,isSubtype_stop->NF,isSubtype_tuple_tuple->MW,isTrue->KG,keywordEach->IB,letOwnedTupleGo->MP,mainGlobals->A9,mem_of_lookup->DU,model->AY,newFunctionEnv->Vi,noFill_tuple_add->SN,ofAClassStatement->J9,pickOrder->Za,plainId_quiet->KF,preSum->PN,pushCells->Fm,pushCells_keeps->T5,putAt->Tu,putSet_of->N4,pyIter->PM,pyNext->F3,rawInt->SM,reduceHash->Vh,relabel->Is,searchCouldBeSeen->nU,seqIndex_of->dj,seq_tuple_add->YI,setItem->Zp,setSearchFrom->Oi,setsByText->Vg,sizeLine_eq->Tt,slotArgs->Vf,standAt->Ir,starEach->AH,storeName->oF,storedH->N3,subscripted->Ts,swapsWith->Bb,sysModules->B0,truthy->NE,tupleKeyHash->Q0,tupleKind->N2,tupleKind_room_in1->Ge,valueAt->Qz,wpAny->AZ,wpAny_Assign_Subscript->Zn,wpAny_Call_Name_kw->Eo,wpAny_Dict_empty->SL,wpAny_Name->jk,wpAny_askSetting->Fl,wpAny_assign_Name->nS,wpAny_attempt->FD,wpAny_bind->AA,wpAny_call->jj,wpAny_callSpecial?_slot->BM,wpAny_call_entry->BL,wpAny_comprehension_free->YG,wpAny_dictEntries->J8,wpAny_dictEpoch->T4,wpAny_eqBool_int->oE,wpAny_eqBool_tuple->ji,wpAny_eqIsQuiet_tuple->dX,wpAny_execs_cons->oC,wpAny_execs_nil->MN,wpAny_field->Gv,wpAny_fieldsOf->Eb,wpAny_forIn_list->LR,wpAny_getItem_heap->jh,wpAny_handled->Oh,wpAny_holding->Cp,wpAny_isInstance->Dt,wpAny_isOneOf_keyiter->MU,wpAny_isTrue_Compare1->dW,wpAny_ite_split->T3,wpAny_load->jg,wpAny_loadName_cell->ip,wpAny_loadName_local->di,wpAny_mono->DP,wpAny_newList->YF,wpAny_newObj_type->BD,wpAny_of_eq->J7,wpAny_passesOwn->E5,wpAny_pure->AC,wpAny_pyHash_tuple->jf,wpAny_pyIter_enum->J6,wpAny_pyIter_keyiter->dh,wpAny_pyIter_list->Qy,wpAny_pyIter_revIter->df,wpAny_pyIter_slot->Qx,wpAny_pyIter_tuple->Gc,wpAny_ret_mkInt->q9,wpAny_rule->JO,wpAny_seqItems->Ea,wpAny_sequenceKey->nR,wpAny_setEntries_of->Fy,wpAny_setField->HC,wpAny_setField_rec->JN,wpAny_setItem_heap->je,wpAny_setState_of->C9,wpAny_specialOf->E4,wpAny_storeSet_of->nQ,wpAny_throw->Tr,wpAny_truthy_bool->CL,wpAny_tupleItemsOf->PL,wpAny_typeNameOfWhole_keyiter->El,wpAny_typeNameOf_keyiter->GQ,wpAny_typeOf->Iq,wpAny_updateSeq->qz
open PySem.Around renaming under_plainId->E3
open PySem.AutoSeq1 renaming wpAny_loadPart'->FO
open PySem.Builtin renaming bitAnd->BE,bitNot->Zy,bitOr->DE,bitXor->Es
open PySem.Builtin.Dict renaming dictSlotNone->rh,showsAll->PU
open PySem.Builtin.Frozenset renaming addrOf->eQ,newClass->eN,sizeOf->eM,slot0->eJ,updateFrom->eI
open PySem.Builtin.Int renaming intBits->Dy
open PySem.Builtin.List renaming listExtendWith->Mg,listItems->II,listLengthHint->Mf,listSameRef->N8,listTooLong->Ha
open PySem.Builtin.Range renaming rangeSize->oW
open PySem.Builtin.Slice renaming sliceAdjust->HG,sliceApplied->Me,sliceFields->oV,slicePartIndex->oU,slicePlaces->Eh
open PySem.Builtin.SmallTypes renaming nextOf->EQ
open PySem.Builtin.Tuple renaming tupleExact->Et,tupleHashOf->Da,tupleIsExact->oS,tupleItemsOf->G3
open PySem.Calls renaming Name_function_global->RA,callWith_builtin->Jz,call_function_entry->IZ,evalArgs_plain->Vt,spliced_cons->ID,spliced_nil->NQ
open PySem.Challenge renaming pw_guardround_k18_who_lasts->jq,rw_guardround_k18_who_lasts->HZ
open PySem.F renaming args_dict_get_3->RY,args_dict_keyiterator_next_1->LY,args_tuple_add_2->IV,args_tuple_iterator_next_1->SZ,called_set->FX,entry_dict_get->SS,entry_dict_keyiterator_next->Lg,entry_tuple_add->Ix,entry_tuple_iterator_next->T1,plainAttrs_list->Iw,plain_extend_loop->Qu,plain_list_iadd->RX,plain_set_new->n9,slot_dict_get->Jy,slot_dict_getitem->Qt,slot_dict_iter->SR,slot_dict_keyiterator_next->Ci,slot_dict_len->n8,slot_enumerate_next->Zm,slot_list_append->Q5,slot_set_iter->ny,slot_tuple_add->JQ,slot_tuple_eq->Lm,slot_tuple_hash->G2,slot_tuple_iterator_next->FQ,type_list_append->Q4
open PySem.Heap renaming ExtBut->Ll,SameBut->DM,get?_push_of_some->AG,get?_push_size->AQ,get?_update_ne->YT,get?_update_other->Dc,get?_update_self->Ch,lt_size->AX,size_push->C2
open PySem.Heap.IsSliceOf renaming new->nv
open PySem.Heap.SameBut renaming refl->SY,update->B4
open PySem.NameKind renaming cell->DB,free->FL
open PySem.Obj renaming cls_mapFields->dY,data_mapFields->IW,isFreed_of_fields->W4,mapSeq->Ec,putSet->DV
open PySem.Paired renaming length->Cw,snoc->OU
open PySem.SeqAt.RcAt renaming tuples->oI
open PySem.SetTable renaming Probe->Tw,below->FK,fill->Qs,fits->Qr,grown->Fu,insertAt->MQ,leap->T6,runEnd->FW,sizeAbove->Ld,turns->Vd
open PySem.SetTable.layClean renaming free->IF
open PySem.SetTable.probe renaming go->LU
open PySem.Source renaming order->NB
open PySem.Value renaming bool->MX,bytes->nZ,float->Vl,int->Ft,isInt->Ol,isInt_shape->Zf,isStrOf->ir,none->C0,ref->AV,str->OS,type->Fo
open PySem.W renaming Frag->AB,callWith_K->L3,cellsFrom_some->SQ,codeIn->PQ,emptyDict->Cv,findIn->DH,fnOf->HP,handedIn->YM,hasDictIn->MZ,instObj->Dr,isFn->SO,kdu_collect->VV,keepIn->F5,kia_one->Cf,kitOne->Df,kitx_dict->W1,kitx_list->W0,lookIn->KH,makesIn->Zg,methodObj->MY,mg_none_of->DA,mg_of->nV,nsIn->MV,plainGet->Iv,plainGet_of->LX,plainOver->Wz,takerIn->OT
open PySem.W.Looks renaming here->oJ
open PySem.W.WData renaming int->rC
open PySem.Walks renaming list->oH
open PySem.Within renaming cons->rE
open PySem.pickOrder renaming go->Q2
open Sum renaming inl->Dq,inr->Vm
open True renaming intro->D8
open PySem PySem.Spec PyProof.Rows
namespace L2
abbrev Key:=Sum Int Str
noncomputable def R7:Key->AD->Bool
 | .inl k,v=>Ol k v
 | .inr x,v=>ir x v
noncomputable def keyH(w:A1):Key->Int
 | .inl k=>hashInt k
 | .inr x=>hashStr w x
theorem DK:∀{k:Key} {v:AD},R7 k v=true->(∃i t,k=Dq i/\v=Ft i t)∨(∃x t,k=Vm x/\v=OS x t)
 | .inl i,v,h=>by
  obtain⟨t,e⟩:=Zf (k:=i) (v:=v) h;exact .inl ⟨i,t,rfl,e⟩
 | .inr x,v,h=>by
  obtain⟨t,e⟩:=AD.isStrOf_shape (x:=x) (v:=v) h;exact .inr ⟨x,t,rfl,e⟩
theorem Y4(i:Int)(t:Tok):R7 (.inl i) (.int i t)=true:=by simp[R7,Ol]
theorem Y3(x:Str)(t:Tok):R7 (.inr x) (.str x t)=true:=by simp[R7,ir]
theorem mP(a b:Int):decide ((Dq a:Key)=Dq b)=(a==b):=by
 lia
theorem mL(a b:Str):decide ((Vm a:Key)=Vm b)=decide (a=b):=by
 ext
theorem mN(a:Int)(b:Str):decide ((Dq a:Key)=Vm b)=false:=wY (λq=>nomatch q)
theorem mM(a:Str)(b:Int):decide ((Vm a:Key)=Dq b)=false:=wY (λq=>nomatch q)
def Dm(prog:Al)(w:A1):PySem.KeyKind prog w Key where
 is:=R7
 hash:=keyH w
 inj:=λv a b o hb=>by
  rcases DK o with⟨i,t,rfl,rfl⟩ | ⟨x,t,rfl,rfl⟩
  ·rcases DK hb with⟨j,u,rfl,e⟩ | ⟨y,u,rfl,e⟩
   ·injection e with m _;rw[m]
   trivial
  ·rcases DK hb with⟨j,u,rfl,e⟩ | ⟨y,u,rfl,e⟩
   ·exact nomatch e
   ext
 byValue:=λk v h=>by
  rcases DK h with⟨i,t,rfl,rfl⟩ | ⟨x,t,rfl,rfl⟩ <;> rfl
 pyHash:=λl h=>by
  rcases DK l with⟨i,t,rfl,rfl⟩ | ⟨x,t,rfl,rfl⟩
  ·exact wpAny_pyHash_int h
  ·exact wpAny_pyHash_str h
 eqBool:=λA l h=>by
  rcases DK A with⟨i,t,rfl,rfl⟩ | ⟨x,t,rfl,rfl⟩
  ·rcases DK l with⟨j,u,rfl,rfl⟩ | ⟨y,u,rfl,rfl⟩
   ·rw[mP]at h;exact oE h
   ·rw[mN]at h;exact SeqAt.EqAt.int_str i t y u _ _ _ _ h
  ·rcases DK l with⟨j,u,rfl,rfl⟩ | ⟨y,u,rfl,rfl⟩
   ·rw[mM]at h;exact SeqAt.EqAt.str_int x t j u _ _ _ _ h
   ·rw[mL]at h;exact wpAny_eqBool_str h
 «strs»:=λk x t v h=>by
  rcases DK h with⟨i,u,rfl,e⟩ | ⟨y,u,rfl,e⟩
  ·trivial
  ·injection e with m _
   subst m
   cases v <;> rfl
theorem U0(prog:Al)(w:A1)(i:Int)(t:Tok):(Dm prog w).is (.inl i) (.int i t)=true:=Y4 i t
theorem Uz(prog:Al)(w:A1)(x:Str)(t:Tok):(Dm prog w).is (.inr x) (.str x t)=true:=Y3 x t
set_option genInjectivity true in
inductive V where
 | non | bl (b:Bool) | int (i:Int) | str (x:Str) | byt (b:Array UInt8) | flt (b:UInt64) | ref (a:AL) | ty (n:String)
 deriving DecidableEq
def RelV:V->AD->Prop
 | .non,u=>u=C0
 | .bl b,u=>u=MX b
 | .int i,u=>∃t,u=Ft i t
 | .str x,u=>∃t,u=OS x t
 | .byt b,u=>∃t,u=nZ b t
 | .flt b,u=>∃t,u=Vl b t
 | .ref a,u=>u=AV a
 | .ty n,u=>u=Fo n
noncomputable abbrev Bp:List V->List AD->Prop:=Er RelV
theorem Bp.length(r:Bp xs us):xs.length=us.length:=Cw r
theorem Bp.get:∀{xs:List V} {us:List AD} {i:Nat} {x:V},Bp xs us->xs[i]?=some x->∃u,us[i]?=some u/\RelV x u
 | _,_,_,_,.nil,e=>by simp at e
 | _,_,0,_,.cons r _,e=>by ext
 | _,_,i+1,x,.cons _ t,e=>by
  obtain⟨u,l,m⟩:=Bp.get (i:=i) (x:=x) t (by simpa using e);ext
theorem Bp.set(r:RelV x u):∀{xs:List V} {us:List AD} (i:Nat),Bp xs us->Bp (xs.set i x) (us.set i u)
 | _,_,_,.nil=>.nil
 | _,_,0,.cons _ t=>.cons r t
 | _,_,i+1,.cons q t=>.cons q (Bp.set r i t)
theorem Bp.append:∀{xs l:List V} {us m:List AD},Bp xs us->Bp l m->Bp (xs++l) (us++m)
 | _,_,_,_,.nil,s=>s
 | _,_,_,_,.cons r t,s=>.cons r (Bp.append t s)
theorem Bp.take:∀{xs:List V} {us:List AD} (n:Nat),Bp xs us->Bp (xs.take n) (us.take n)
 | _,_,0,_=>.nil
 | _,_,_+1,.nil=>.nil
 | _,_,n+1,.cons r t=>.cons r (Bp.take n t)
theorem Bp.drop:∀{xs:List V} {us:List AD} (n:Nat),Bp xs us->Bp (xs.drop n) (us.drop n)
 | _,_,0,r=>r
 | _,_,_+1,.nil=>.nil
 | _,_,n+1,.cons _ t=>Bp.drop n t
def JK:Option V->Option AD->Prop
 | some v,some u=>RelV v u
 | none,none=>True
 | _,_=>False
def KV{l:Type}:List (l×V)->List (l×AD)->Prop:=Er λ(p:l×V) (q:l×AD)=>p.1=q.1/\RelV p.2 q.2
noncomputable def kV:Key->V
 | .inl i=>.int i
 | .inr x=>.str x
set_option genInjectivity true in
inductive HO where
 | lst (xs:List V)
 | tup (xs:List V)
 | dK (kvs:List (Key×V)) | dT (kvs:List (List Key×V))
 | set (S:Int->Bool) (n:Nat)
 | ins (C dx:AL) (fs:List (Str×V))
 | own (x:AL)
 | xd (fs:List (Str×V))
 | met (f x:AL)
 | rng (lo hi:Int)
 | frz (o:Obj) (u:HO)
 | tbl (ps:Array AD)
 | ext (φ:BI->Prop)
abbrev Hp:=AL->Option HO
noncomputable def upd(H:Hp)(a:AL)(o:HO):Hp:=λb=>if b=a then some o else H b
theorem Ar:upd H a o a=some o:=by unfold upd;ext
theorem AO(h:b≠a):upd H a o b=H b:=by unfold upd;rw[qY h]
theorem jT{H:Hp}{a b:AL}{o u:HO}(h:H a=some o)(h':H b=some u)(d:o≠u):a≠b:=by
 lia
theorem D4{H:Hp}{a b:AL}{o:HO}(h:H a=some o)(h':H b=none):a≠b:=by
 lia
section
variable(P:Al)(w:A1)
def CS(H:Hp)(h:BI)(a:AL):HO->Prop
 | .lst m=>m.length<=sizeLine/\∃(B:List AD) (n:Nat),Bp m B/\h.get? a=some { cls:=.type "list",data:=.seq B.toArray n }
 | .tup m=>(m.length<=sizeLine/\∃o,h.get? a=some o/\o.dict=none)/\∃B:List AD,Bp m B/\eE h a B.toArray
 | .dK l=>l.length<=sizeLine/\(a==B0)=false/\∃vs,KV l vs/\h.DictOf (Dm P w) a vs
 | .dT l=>l.length<=sizeLine/\(a==B0)=false/\∃m:List (List Key×AL×AD),
   Er (λ(p:List Key×V) (q:List Key×AL×AD)=>p.1=q.1/\H q.2.1=some (.tup (p.1.map kV))/\RelV p.2 q.2.2) l m /\
   ∃o I N,h.get? a=some o/\o.ExactDict/\o.data=.dict I N/\I.toList=m.map (entryOfKey (N2 (Dm P w)))/\(m.map (·.1)).Nodup
 | .set S n=>h.SetOf (Hz P w) a S n
 | .ins C E fs=>H E=some (.own a)/\fs.length<=1000/\E≠a/\h.get? a=some (Dr C E) /\
   ∃A,h.Ns1 E A/\(∀f,JK (fs.lookup f) (A f))/\T7 A (fs.map (·.1))
 | .own _=>∃o,h.get? a=some o
 | .xd fs=>∃A,h.Ns1 a A/\∀f,JK (fs.lookup f) (A f)
 | .rng lo O=>∃t u v,h.get? a=some { cls:=.type "range",data:=.fields #[.int lo t,.int O u,.int 1 v] }
 | .frz o u=>h.get? a=some o/\CS H h a u
 | .tbl Q=>h.get? a=some { cls:=.none,data:=.fields Q }
 | .met f x=>h.get? a=some (MY (.ref f) (.ref x))
 | .ext G=>G h/\(∃o,h.get? a=some o)/\∀J L:BI,G J->(∀o,J.get? a=some o->L.get? a=some o)->G L
def HOk(H:Hp)(h:BI):Prop:=∀a o,H a=some o->CS P w H h a o
end
section
variable{P:Al}{w:A1}{H H':Hp}{h h':BI}{a:AL}{o:HO}
theorem CS.lt(x:CS P w H h a o):a < h.objs.size:=by
 cases o with
 | lst m=>obtain⟨_,_,_,_,e⟩:=x;exact AX e
 | tup m=>obtain⟨_,_,_,p⟩:=x;exact p.lt
 | dK l=>obtain⟨_,_,_,_,o,_,_,e,_⟩:=x;exact AX e
 | dT l=>obtain⟨_,_,_,_,o,_,_,e,_⟩:=x;exact AX e
 | set S n=>obtain⟨o,_,_,_,e,_⟩:=x;exact AX e
 | ins C A fs=>obtain⟨_,_,_,e,_⟩:=x;exact AX e
 | own y=>obtain⟨_,e⟩:=x;exact AX e
 | xd fs=>obtain⟨_,⟨_,_,_,e,_⟩,_⟩:=x;exact AX e
 | rng lo B=>obtain⟨_,_,_,e⟩:=x;exact AX e
 | frz ob u=>obtain⟨e,_⟩:=x;exact AX e
 | tbl E=>exact AX (show h.get? a=some _ from x)
 | met f y=>exact AX (show h.get? a=some _ from x)
 | ext G=>obtain⟨_,⟨_,e⟩,_⟩:=x;exact AX e
theorem Er.mapP{A B:Type}{F G:A->B->Prop}:∀{l:List A} {m:List B},Er F l m->(∀a b,F a b->G a b)->Er G l m
 | _,_,.nil,_=>.nil
 | _,_,.cons r t,f=>.cons (f _ _ r) (Er.mapP t f)
theorem CS.stay(x:CS P w H h a o)(k:∀b u,(b=a∨H b=some (.own a))->h.get? b=some u->h'.get? b=some u)
  (L:∀b,H b=some (.own a)->H' b=some (.own a)) (N:∀b xs,H b=some (.tup xs)->H' b=some (.tup xs)):CS P w H' h' a o:=by
 induction o with
 | lst xs=>obtain⟨z,A,n,r,e⟩:=x;exact⟨z,A,n,r,k _ _ (.inl rfl) e⟩
 | tup xs=>obtain⟨⟨z,O,B,Q⟩,A,r,ob,e,c⟩:=x;exact⟨⟨z,O,k _ _ (.inl rfl) B,Q⟩,A,r,ob,k _ _ (.inl rfl) e,c⟩
 | dK E=>obtain⟨z,y,vs,r,ob,l,m,e,c⟩:=x;exact⟨z,y,vs,r,ob,l,m,k _ _ (.inl rfl) e,c⟩
 | dT E=>
  obtain⟨z,y,xs,r,ob,l,m,e,c⟩:=x;exact⟨z,y,xs,Er.mapP r λp q z=>⟨z.1,N _ _ z.2.1,z.2.2⟩,ob,l,m,k _ _ (.inl rfl) e,c⟩
 | set S n=>obtain⟨ob,l,m,t,e,c⟩:=x;exact⟨ob,l,m,t,k _ _ (.inl rfl) e,c⟩
 | ins C T fs=>
  obtain⟨d,z,ne,e,G,⟨I,l,m,B,c⟩,r⟩:=x;exact⟨L _ d,z,ne,k _ _ (.inl rfl) e,G,⟨I,l,m,k _ _ (.inr d) B,c⟩,r⟩
 | own y=>obtain⟨ob,e⟩:=x;exact⟨ob,k _ _ (.inl rfl) e⟩
 | xd fs=>obtain⟨G,⟨I,l,m,e,c⟩,r⟩:=x;exact⟨G,⟨I,l,m,k _ _ (.inl rfl) e,c⟩,r⟩
 | rng lo U=>obtain⟨t,u,v,e⟩:=x;exact⟨t,u,v,k _ _ (.inl rfl) e⟩
 | frz ob u R=>obtain⟨e,q⟩:=x;exact⟨k _ _ (.inl rfl) e,R q⟩
 | tbl J=>
  have e:h.get? a=some { cls:=.none,data:=.fields J }:=x;show h'.get? a=some { cls:=.none,data:=.fields J };exact k a _ (.inl rfl) e
 | met f y=>
  have e:h.get? a=some (MY (.ref f) (.ref y)):=x;show h'.get? a=some (MY (.ref f) (.ref y));exact k a _ (.inl rfl) e
 | ext X=>obtain⟨p,⟨o,e⟩,st⟩:=x;exact⟨st _ _ p λo q=>k _ _ (.inl rfl) q,⟨o,k _ _ (.inl rfl) e⟩,st⟩
theorem HOk.lt(x:HOk P w H h)(e:H a=some o):a < h.objs.size:=(x a o e).lt
theorem HOk.fresh(x:HOk P w H h)(e:h.objs.size<=a):H a=none:=by
 cases q:H a with
 | none=>rfl
 | some u=>exact zX (Aa (x.lt q) e) (Em _)
theorem HOk.kept(x:HOk P w H h)(k:∀b u,h.get? b=some u->h'.get? b=some u):HOk P w H h':=λa o e=>
 (x a o e).stay (λb u G q=>k b u q) (λG q=>q) λG G q=>q
theorem HOk.laid(x:HOk P w H h)(k:∀b u,h.get? b=some u->h'.get? b=some u)(m:h.objs.size<=a)(new:CS P w (upd H a o) h' a o):HOk P w (upd H a o) h':=λb u e=>by
 have l:=x.fresh m
 by_cases hb:b=a
 ·subst hb;rw[Ar]at e;ext
 ·rw[AO hb]at e
  exact(x b u e).stay (λc v G q=>k c v q) (λc q=>by rw[AO (D4 q l)];exact q) λc A q=>by rw[AO (D4 q l)];exact q
end
def Rd(H:Hp)(a:AL)(u:HO):Prop:=H a=some u∨∃o,H a=some (.frz o u)
theorem Rd.ok(r:Rd H a u)(x:HOk P w H h):CS P w H h a u:=by
 rcases r with r | ⟨o,r⟩
 ·exact x a u r
 ·obtain⟨_,q⟩:=x a _ r
  exact q
def Mut:Option HO->Prop
 | some (.lst _)=>True
 | some (.dK _)=>True
 | some (.dT _)=>True
 | some (.set _ _)=>True
 | some (.ins _ _ _)=>True
 | some (.ext _)=>True
 | _=>False
section
variable{P:Al}{w:A1}{H:Hp}{h h':BI}{x e:AL}
theorem HOk.write(ok:HOk P w H h)(l:Mut (H x))(A:e=x∨H e=some (.own x))(k:∀b u,b≠e->h.get? b=some u->h'.get? b=some u)(B:∃u,h'.get? e=some u)
  (new:CS P w (upd H x o') h' x o'):HOk P w (upd H x o') h':=λb u q=>by
 have C:∀c y,H c=some (.own y)->c≠x:=λc y r z=>by subst z;rw[r]at l;exact l
 have E:∀c m,H c=some (.tup m)->c≠x:=λc m r z=>by subst z;rw[r]at l;exact l
 by_cases hb:b=x
 ·subst hb;rw[Ar]at q;ext
 ·rw[AO hb]at q
  by_cases G:b=e
  ·have o:H b=some (.own x):=by
    rcases A with z | z
    ·ext
    ·ext
   rw[q]at o;cases o;obtain⟨v,I⟩:=B;exact⟨v,by ext⟩
  ·refine(ok b u q).stay (λc v J r=>k c v ?_ r) (λc r=>by rw[AO (C c b r)];exact r) λc m r=>by rw[AO (E c m r)];exact r
   grind
end
structure Un(fs ex:List AL)(H H':Hp)(h h':BI):Prop where
 keep:∀b o,h.get? b=some o->H b=none->b∉fs->b∉ex->h'.get? b=some o
 slot:∀b o,h.get? b=some o->H b=none->b∈fs->b∉ex->∃sl,h'.get? b=some { o with slots:=sl }
 free:∀b o,h.get? b=some o->H b=none->b∉ex->H' b=none
 there:∀b o,h.get? b=some o->b∉ex->∃o',h'.get? b=some o'
 tups:∀b xs,H b=some (.tup xs)->H' b=some (.tup xs)
 frzs:∀b o u,H b=some (.frz o u)->H' b=some (.frz o u)
 tbls:∀b ps,H b=some (.tbl ps)->∃more,H' b=some (.tbl (ps++more))
section
variable{fs ex:List AL}{H H1:Hp}{h h1 h':BI}{a x e:AL}{o:HO}
theorem Un.any(u:Un fs ex H H1 h h1)(q:h.get? b=some ob)(n:H b=none)(l:b∉ex):∃m,h1.get? b=some { ob with slots:=m }:=by
 by_cases hb:b∈fs
 ·exact u.slot b ob q n hb l
 ·exact⟨ob.slots,u.keep b ob q n hb l⟩
theorem Un.kept(k:∀b u,h.get? b=some u->h'.get? b=some u):Un fs ex H H h h':=
 ⟨λb ob q G G G=>k b ob q,λb ob q G G G=>⟨ob.slots,k b ob q⟩,λG G G n G=>n,λb ob q G=>⟨ob,k b ob q⟩,λG G q=>q,λG G G q=>q,λG l q=>⟨#[],by rw[q];simp⟩⟩
theorem Un.refl:Un fs ex H H h h:=Un.kept λG G q=>q
theorem Un.laid(k:∀b u,h.get? b=some u->h'.get? b=some u)(m:h.objs.size<=a)(l:H a=none):Un fs ex H (upd H a o) h h' where
 keep:=λb u q G G G=>k b u q
 slot:=λb u q G G G=>⟨u.slots,k b u q⟩
 free:=λb u q n G=>by rw[AO (Ao (Aa (AX q) m))];exact n
 there:=λb u q G=>⟨u,k b u q⟩
 tups:=λb w q=>by rw[AO (D4 q l)];exact q
 frzs:=λb u w q=>by rw[AO (D4 q l)];exact q
 tbls:=λb A q=>⟨#[],by rw[AO (D4 q l),q];simp⟩
theorem Un.write(l:Mut (H x))(A:e=x∨H e=some (.own x))(k:∀b u,b≠e->h.get? b=some u->h'.get? b=some u)(E:∃u,h'.get? e=some u):Un fs ex H (upd H x o) h h':=by
 have w:∀b,H b=none->b≠x:=λb n z=>by subst z;rw[n]at l;exact l
 have hb:∀b,H b=none->b≠e:=λb n z=>by
  subst z
  rcases A with r | r
  ·exact w b n r
  ·rw[n]at r;cases r
 have m:∀b u,H b=some u->¬Mut (some u)->b≠x:=λb u q B z=>by subst z;rw[q]at l;exact B l
 refine⟨λb u q n I I=>k b u (hb b n) q,λb u q n I I=>⟨u.slots,k b u (hb b n) q⟩,λb u q n I=>by rw[AO (w b n)];exact n,λb u q I=>?_,
  λb C q=>by rw[AO (m b _ q λz=>z)];exact q,λb u C q=>by rw[AO (m b _ q λz=>z)];exact q,λb G q=>⟨#[],by rw[AO (m b _ q λz=>z),q];simp⟩⟩
 grind
end
noncomputable def trk(h:BI)(H:Hp):List AL:=(A0 h.objs.size).filter λa=>(H a).isSome
def Ta(h:BI)(H:Hp):BI:=PySem.W.hideAll h (trk h H)
theorem ZA(h:BI)(H:Hp):(Ta h H).objs.size=h.objs.size:=PySem.W.hideAll_size _ _
theorem ca(e:h.get? b=some o)(n:H b=none):(Ta h H).get? b=some o:=
 PySem.W.hideAll_get _ e λl=>by
  have q:(H b).isSome=true:=(Az.mp l).2
  ext
theorem hX(e:(Ta h H).get? b=some o):h.get? b=some o/\H b=none:=by
 have l:h.get? b=some o:=PySem.W.of_hideAll (trk h H) e;refine⟨l,?_⟩
 cases q:H b with
 | none=>rfl
 | some x=>
  have m:b∈trk h H:=Az.mpr ⟨B9.mpr (AX l),by simp[q]⟩;have z:(Ta h H).get? b=none:=PySem.W.hideAll_none (trk h H) m
  ext
structure Mod(K:AB)(mg:Str->Option AD)(base:BI):Prop where
 kin:K.In base
 glob:base.Ns A9 mg
 blt:∃mb,base.Ns Vk mb/\∀x:Str,x≠"__name__"->mb x=EK x
 nolimit:base.NoLimit
structure Cx where
 prog:Al
 w:A1
 K:AB
 mg:Str->Option AD
 base:BI
 A:BP
 N:List Str
 s₀:AK
 H₀:Hp
 env:Env
 outer:List Env
 stack:List Env
 ex:List AL
 fn:Str->Bool
 calm:Bool
 pn:List (AL×Obj)
 xe:AD->AK->Prop
noncomputable def frs(l:List Env):List AL:=l.filterMap (·.frame)
abbrev Cx.fs(X:Cx):List AL:=frs X.outer
def Vis(l:LV)(x:Str):Prop:=l.names.lookup x=some .local∨l.names.lookup x=some .cell∨l.names.lookup x=some .free
def Loc(l:LV)(x:Str):Prop:=l.names.lookup x=some .local∨l.names.lookup x=some .cell
def Look(l:Env)(h:BI)(m:Str->Option AD)(x:Str)(u:AD):Prop:=
 (l.kindOf x=some .local/\m x=some u)∨((l.kindOf x=some .cell∨l.kindOf x=some .free)/\∃c,l.cells.lookup x=some c/\h.IsCell c (some u))
structure Cx.Ok(X:Cx):Prop where
 mod:Mod X.K X.mg X.base
 kind:X.env.scope.kind=.function
 glob:X.env.globals=A9
 blt:X.env.builtins=Vk
 above:X.s₀.heap.objs.size<=X.env.locals
 inj:∀x y c,X.env.cells.lookup x=some c->X.env.cells.lookup y=some c->x=y
 has:∀x,(X.env.kindOf x=some .cell∨X.env.kindOf x=some .free)->∃c,X.env.cells.lookup x=some c
 cab:∀x c,X.fn x=true->X.env.cells.lookup x=some c->X.s₀.heap.objs.size<=c
 hd:X.calm=true->X.A.handled=none
 frames:X.A.frames=some X.stack
 stk:X.stack=X.outer∨(X.stack=X.env :: X.outer/\X.env.frame=some X.env.locals)
 exf:∀b∈X.ex,b≠X.env.locals/\∀x c,X.env.cells.lookup x=some c->c≠b
 bs:∀b o,X.base.get? b=some o->X.s₀.heap.get? b=some o/\X.H₀ b=none
 bsz:X.base.objs.size<=X.s₀.heap.objs.size
 noex:∀b o,X.base.get? b=some o->b∉X.ex
 exfs:∀b∈X.ex,b∉X.fs
 funs:X.s₀.heap.FunFrames X.base X.outer
 frf:∀b∈X.fs,X.H₀ b=none
structure Inv(X:Cx)(ζ:List (AL×Obj))(σ:List (Option V))(H:Hp)(s:AK):Prop where
 ok:X.Ok
 os:s.os=X.s₀.os
 bare:JA s.gens
 base:Un X.fs X.ex X.H₀ H X.s₀.heap s.heap
 loc:∃m,s.heap.Ns X.env.locals m/\∀(i:Nat) (x:Str) (v:V),X.N[i]?=some x->σ[i]?=some (some v)->Vis X.env.scope x->∃u,RelV v u/\Look X.env s.heap m x u
 cell:∀x c,X.env.cells.lookup x=some c->∃v,s.heap.IsCell c v
 free:H X.env.locals=none
 freeC:∀x c,X.env.cells.lookup x=some c->H c=none
 pin:∀p∈X.pn++ζ,s.heap.get? p.1=some p.2/\H p.1=none/\p.1≠X.env.locals/\p.1∉X.fs/\∀v,p.2.data≠.cell v
 hok:HOk X.prog X.w H s.heap
 len:σ.length=X.N.length
section
variable{X:Cx}{ζ:List (AL×Obj)}{σ:List (Option V)}{H H':Hp}{s:AK}{h':BI}
theorem Cx.Ok.nofr(ok:X.Ok)(e:X.base.get? b=some o):b∉X.fs:=λhb=>by
 have:=(ok.funs.mem hb).1
 ext
theorem Inv.bs(I:Inv X ζ σ H s):∀b o,X.base.get? b=some o->s.heap.get? b=some o/\H b=none:=λb o e=>
 ⟨I.base.keep b o (I.ok.bs b o e).1 (I.ok.bs b o e).2 (I.ok.nofr e) (I.ok.noex b o e),I.base.free b o (I.ok.bs b o e).1 (I.ok.bs b o e).2 (I.ok.noex b o e)⟩
theorem Inv.bk(I:Inv X ζ σ H s):∀b o,X.base.get? b=some o->s.heap.get? b=some o:=λb o e=>(I.bs b o e).1
theorem Inv.mod(I:Inv X ζ σ H s):Mod X.K X.mg X.base:=I.ok.mod
theorem Inv.kIn(I:Inv X ζ σ H s):X.K.In s.heap:=I.ok.mod.kin.keeps I.bk
theorem Inv.lt(I:Inv X ζ σ H s):X.env.locals < s.heap.objs.size:=let ⟨_,l,_⟩:=I.loc;l.lt
theorem Inv.sz(I:Inv X ζ σ H s):X.s₀.heap.objs.size<=s.heap.objs.size:=A7 I.ok.above (KJ I.lt)
theorem Inv.nofs(I:Inv X ζ σ H s)(h:s.heap.objs.size<=a):a∉X.fs:=λhb=>by
 obtain⟨_,o,l,_⟩:=I.ok.funs.mem hb;exact zX (Aa (AX l) (A7 I.sz h)) (Em _)
theorem Inv.cne(I:Inv X ζ σ H s):∀x c,X.env.cells.lookup x=some c->c≠X.env.locals:=λx c e z=>by
 obtain⟨v,o,w,A⟩:=I.cell x c e;obtain⟨m,⟨B,C,E,G,l,_⟩,_⟩:=I.loc
 ext
theorem Inv.funs(I:Inv X ζ σ H s):s.heap.FunFrames X.base X.outer:=by
 have all:∀(l:List Env),(∀b∈frs l,b∈X.fs)->X.s₀.heap.FunFrames X.base l->s.heap.FunFrames X.base l:=by
  intro l
  induction l with
  | nil=>intro _ _;trivial
  | cons B r C=>
   intro w E;obtain⟨G,⟨L,o,A,J,N,O⟩,P⟩:=E;have m:L∈X.fs:=w L (by unfold frs;ext)
   obtain⟨Q,e⟩:=I.base.slot L o N (I.ok.frf L m) m λz=>I.ok.exfs L z m
   exact⟨G,⟨L,_,A,J,e,O⟩,C (λb hb=>w b (by unfold frs;rw[Hj,A];exact AM _ hb)) P⟩
 exact all X.outer (λM hb=>hb) I.ok.funs
theorem Inv.stack(I:Inv X ζ σ H s):s.heap.FunFrames X.base X.stack:=by
 rcases I.ok.stk with e | ⟨e,l⟩
 ·rw[e];exact I.funs
 ·rw[e]
  obtain⟨m,o,_⟩:=I.loc;refine .cons (by rw[I.ok.kind];decide) l o ?_ I.funs;exact BI.get?_none_of_le (A7 I.ok.bsz I.ok.above)
theorem Inv.stkSub(I:Inv X ζ σ H s):∀b∈frs X.stack,b∈X.env.locals :: X.fs:=λb hb=>by
 rcases I.ok.stk with e | ⟨e,l⟩
 ·ext
 ·rw[e]at hb
  unfold frs at hb;rw[Hj,l]at hb;exact hb
theorem Inv.stkFree(I:Inv X ζ σ H s):∀b∈frs X.stack,H b=none:=λb hb=>by
 rcases Aj.mp (I.stkSub b hb)with e | hb
 ·rw[e];exact I.free
 ·obtain⟨_,o,l,_⟩:=I.ok.funs.mem hb
  exact I.base.free b o l (I.ok.frf b hb) λz=>I.ok.exfs b z hb
theorem Inv.step{g':Array eG}{t':Nat}{d':Drawn}{ch:List AL}(I:Inv X ζ σ H s)
  (G:∀b∈ch,(b∈X.ex∨X.s₀.heap.objs.size<=b)/\b≠X.env.locals/\(∀x c,X.env.cells.lookup x=some c->c≠b)/\∀p∈X.pn++ζ,p.1≠b)
  (keep:∀b o,b≠X.env.locals->b∉X.fs->b∉ch->s.heap.get? b=some o->H b=none->h'.get? b=some o)
  (slot:∀b o,b≠X.env.locals->b∈X.fs->b∉ch->s.heap.get? b=some o->H b=none->∃Q,h'.get? b=some { o with slots:=Q }) (free:∀b o,b∉ch->s.heap.get? b=some o->H b=none->H' b=none)
  (there:∀b o,b∉ch->s.heap.get? b=some o->∃o',h'.get? b=some o')
  (J:∀b xs,H b=some (.tup xs)->H' b=some (.tup xs)) (L:∀b o u,H b=some (.frz o u)->H' b=some (.frz o u)) (U:∀b O,H b=some (.tbl O)->∃more,H' b=some (.tbl (O++more)))
  (ns:∀m,s.heap.Ns X.env.locals m->h'.Ns X.env.locals m) (R:HOk X.prog X.w H' h') (hg:JA g') :
  Inv X ζ σ H' { s with heap:=h',gens:=g',drawn:=d',toks:=t' }:=by
 have ϧ:∀b o,X.s₀.heap.get? b=some o->b≠X.env.locals:=λb o e=>Ao (Aa (AX e) I.ok.above)
 have P:∀b o,X.s₀.heap.get? b=some o->b∉X.ex->b∉ch:=λb o e A hb=>by
  rcases(G b hb).1 with z | z
  ·exact A z
  ·exact zX (Aa (AX e) z) (Em _)
 have B:∀x c,X.env.cells.lookup x=some c->∀v,s.heap.IsCell c v->h'.IsCell c v:=by
  rintro x c e v ⟨o,E,S⟩
  have N:c∉ch:=λz=>(G c z).2.2.1 x c e rfl
  by_cases Y:c∈X.fs
  ·obtain⟨Q,q⟩:=slot c o (I.cne x c e) Y N E (I.freeC x c e)
   exact⟨_,q,S⟩
  ·exact⟨o,keep c o (I.cne x c e) Y N E (I.freeC x c e),S⟩
 refine⟨I.ok,I.os,hg,⟨λb o e n hb A=>?_,λb o e n hb A=>?_,λb o e n A=>?_,λb o e A=>?_,λb xs e=>J b xs (I.base.tups b xs e),λb o xs e=>L b o xs (I.base.frzs b o xs e),λb O e=>?_⟩,?_,λx c e=>?_,?_,λx c e=>?_,λp Z=>?_,R,I.len⟩
 ·exact keep b o (ϧ b o e) hb (P b o e A) (I.base.keep b o e n hb A) (I.base.free b o e n A)
 ·obtain⟨Q,C⟩:=I.base.slot b o e n hb A
  obtain⟨yw,T⟩:=slot b _ (ϧ b o e) hb (P b o e A) C (I.base.free b o e n A);exact⟨yw,T⟩
 ·obtain⟨o',C⟩:=I.base.there b o e A
  exact free b o' (P b o e A) C (I.base.free b o e n A)
 ·obtain⟨o',C⟩:=I.base.there b o e A
  exact there b o' (P b o e A) C
 ·obtain⟨m1,C⟩:=I.base.tbls b O e
  grind
 ·obtain⟨m,hn,hl⟩:=I.loc
  refine⟨m,ns m hn,λi x v C T e3=>?_⟩;obtain⟨u,r,l⟩:=hl i x v C T e3;refine⟨u,r,?_⟩
  rcases l with l | ⟨k,c,e,z⟩
  ·exact .inl l
  ·exact .inr ⟨k,c,e,B x c e _ z⟩
 ·obtain⟨v,z⟩:=I.cell x c e
  exact⟨v,B x c e v z⟩
 ·obtain⟨m,⟨o,_,_,E,_⟩,_⟩:=I.loc
  exact free _ o (λz=>(G _ z).2.1 rfl) E I.free
 ·obtain⟨v,o,E,S⟩:=I.cell x c e
  exact free c o (λz=>(G c z).2.2.1 x c e rfl) E (I.freeC x c e)
 ·obtain⟨e,n,ne,nf,d⟩:=I.pin p Z
  have N:p.1∉ch:=λz=>(G p.1 z).2.2.2 p Z rfl
  exact⟨keep p.1 p.2 ne nf N e n,free p.1 p.2 N e n,ne,nf,d⟩
theorem Inv.un{t':Nat}(I:Inv X ζ σ H s)(u:Un X.fs [] H H' s.heap h')(l:HOk X.prog X.w H' h'):Inv X ζ σ H' { s with heap:=h',toks:=t' }:=by
 obtain⟨m,⟨o,N,O,B,r⟩,_⟩:=id I.loc;obtain⟨P,E⟩:=u.any B I.free ∅
 exact I.step (g':=s.gens) (d':=s.drawn) (ch:=[]) (λM z=>nomatch z) (λb o M hb M e n=>u.keep b o e n hb (by omega)) (λb o M hb M e n=>u.slot b o e n hb ∅) (λb o M e n=>u.free b o e n ∅) (λb o M e=>u.there b o e ∅) u.tups u.frzs u.tbls (λQ G=>by
  obtain⟨R,A,J,C,L⟩:=G;rw[B]at C;cases C
  exact⟨_,A,J,E,L⟩) l I.bare
theorem Inv.call{g':Array eG}{t':Nat}{d':Drawn}{ch:List AL}(I:Inv X ζ σ H s)(u:Un (frs X.stack) ch H H' s.heap h')(A:HOk X.prog X.w H' h')(L:JA g')
  (E:∀b∈ch,(b∈X.ex∨X.s₀.heap.objs.size<=b)/\b≠X.env.locals/\(∀x c,X.env.cells.lookup x=some c->c≠b)/\∀p∈X.pn++ζ,p.1≠b) :
  Inv X ζ σ H' { s with heap:=h',gens:=g',drawn:=d',toks:=t' }:=by
 obtain⟨m,⟨o,Q,R,G,r⟩,_⟩:=id I.loc
 obtain⟨S,B⟩:=u.any G I.free λz=>(E _ z).2.1 rfl
 exact I.step (ch:=ch) E (λb o B hb l e n=>u.keep b o e n (λz=>(Aj.mp (I.stkSub b z)).elim B hb) l) (λb o M M l e n=>u.any e n l) (λb o l e n=>u.free b o e n l) (λb o l e=>u.there b o e l) u.tups u.frzs u.tbls (λT N=>by
  obtain⟨U,C,O,J,P⟩:=N;rw[G]at J;cases J
  exact⟨_,C,O,B,P⟩) A L
theorem Inv.turned{t':Nat}{it:AL}(I:Inv X ζ σ H s)(k:∀b o,b≠it->s.heap.get? b=some o->h'.get? b=some o)(O:H it=none)(w:it≠X.env.locals)
  (A:it∈X.ex∨X.s₀.heap.objs.size<=it) (B:∀x c,X.env.cells.lookup x=some c->c≠it) (C:∀p∈X.pn++ζ,p.1≠it):Inv X ζ σ H { s with heap:=h',toks:=t' }:=by
 have E:∀b u,H b=some u->b≠it:=λb u e z=>by ext
 refine I.step (g':=s.gens) (d':=s.drawn) (ch:=[it]) (λb hb=>?_) (λb o M M l e M=>k b o (λz=>l (by simp[z])) e) (λb o M M l e M=>⟨o.slots,k b o (λz=>l (by simp[z])) e⟩) (λM M M M n=>n)
  (λb o l e=>⟨o,k b o (λz=>l (by simp[z])) e⟩) (λM M e=>e) (λM M M e=>e) (λb P e=>⟨#[],by rw[e];simp⟩) (λm G=>?_) (λb u e=>?_) I.bare
 ·have e:b=it:=by simpa using hb
  subst e;exact⟨A,w,B,C⟩
 ·obtain⟨o,J,L,N,r⟩:=G
  exact⟨o,J,L,k _ o (CO w) N,r⟩
 ·refine(I.hok b u e).stay (λc v l q=>k c v ?_ q) (λM q=>q) λM M q=>q
  lia
theorem Inv.tok(I:Inv X ζ σ H s)(t:Nat):Inv X ζ σ H { s with toks:=t }:=I.un (h':=s.heap) (t':=t) Un.refl I.hok
theorem Inv.kept(I:Inv X ζ σ H s)(k:∀b u,s.heap.get? b=some u->h'.get? b=some u):Inv X ζ σ H { s with heap:=h',toks:=t' }:=I.un (Un.kept k) (I.hok.kept k)
theorem Inv.laid(I:Inv X ζ σ H s)(k:∀b u,s.heap.get? b=some u->h'.get? b=some u)(l:s.heap.objs.size<=a)(new:CS X.prog X.w (upd H a o) h' a o) :
  Inv X ζ σ (upd H a o) { s with heap:=h',toks:=t' }:=I.un (Un.laid k l (I.hok.fresh l)) (I.hok.laid k l new)
theorem Inv.write(I:Inv X ζ σ H s)(l:Mut (H x))(m:e=x∨H e=some (.own x))(k:∀b u,b≠e->s.heap.get? b=some u->h'.get? b=some u)(A:∃u,h'.get? e=some u)
  (new:CS X.prog X.w (upd H x o) h' x o):Inv X ζ σ (upd H x o) { s with heap:=h',toks:=t' }:=I.un (Un.write l m k A) (I.hok.write l m k A new)
theorem Inv.pins_of(I:Inv X ζ σ H s)(h:∀p∈pins',s.heap.get? p.1=some p.2/\H p.1=none/\p.1≠X.env.locals/\p.1∉X.fs/\∀v,p.2.data≠.cell v):Inv X pins' σ H s:=
 ⟨I.ok,I.os,I.bare,I.base,I.loc,I.cell,I.free,I.freeC,λp l=>(Ak.mp l).elim (λz=>I.pin p (CM _ z)) (h p),I.hok,I.len⟩
theorem Uw{N:List Str}(l:N.Nodup){i j:Nat}{x:Str}(a:N[i]?=some x)(b:N[j]?=some x):i=j:=by
 obtain⟨w,m⟩:=AJ.mp a;obtain⟨A,o⟩:=AJ.mp b;exact(Jr l).mp (m.trans o.symm)
abbrev _root_.zFn(X:L2.Cx)(x:Str):Prop:=X.fn x=true∨X.env.scope.names.lookup x=some .local
theorem Rm{M:Vq}{A:BP}{E:AD->AK->Prop}{i:Nat}{x:Str}{v:V}{u:AD}{Q:Unit->AK->Prop}(I:Inv X ζ σ H s)(hN:X.N.Nodup)(hi:X.N[i]?=some x)(G:Loc X.env.scope x)(r:RelV v u)
  (h:∀s',Inv X ζ (σ.set i (some v)) H s'->(∃a,DM a s.heap s'.heap/\(a=X.env.locals∨X.env.cells.lookup x=some a))->Q () s') (hf:autoParam (zFn X x) yq3q):AZ M A (oF X.env x u) Q E s:=by
 obtain⟨m,S,hl⟩:=id I.loc
 have ze:(X.env.scope.kind==.class||(X.env.scope.kind==.module&&X.env.locals != X.env.globals))=false:=by rw[I.ok.kind];rfl
 have Ϩ:i < σ.length:=by rw[I.len];exact(AJ.mp hi).1
 have cne:=I.cne
 have B:∀{a:AL} {h':BI},(∃o,s.heap.get? a=some o/\H a=none)->DM a s.heap h'->HOk X.prog X.w H h':=λ{a h'} ha l b ob e=>by
  obtain⟨_,_,xo⟩:=ha
  refine(I.hok b ob e).stay (λc T J q=>(l.2 c ?_).trans q) (λ_ q=>q) λ_ _ q=>q
  lia
 rcases G with P | P
 ·refine wpAny_storeName_local P S (λh' vD l=>?_) ze
  obtain⟨oL,_,_,U,_⟩:=id S;refine h _ ⟨I.ok,I.os,I.bare,⟨λb o e n hb G=>?_,λb o e n hb G=>?_,I.base.free,λb o e G=>?_,I.base.tups,I.base.frzs,I.base.tbls⟩,⟨_,vD,λj y Y C L Z=>?_⟩,λy c e=>?_,I.free,I.freeC,λp hp=>?_,B ⟨oL,U,I.free⟩ l,by simpa using I.len⟩ ⟨_,l,.inl rfl⟩
  ·exact(l.2 b (Ao (Aa (AX e) I.ok.above))).trans (I.base.keep b o e n hb G)
  ·obtain⟨sl,C⟩:=I.base.slot b o e n hb G
   exact⟨sl,(l.2 b (Ao (Aa (AX e) I.ok.above))).trans C⟩
  ·obtain⟨o',C⟩:=I.base.there b o e G
   exact⟨o',(l.2 b (Ao (Aa (AX e) I.ok.above))).trans C⟩
  ·by_cases O:j=i
   ·subst O
    rw[hi]at C;cases C;rw[EY Ϩ]at L;cases L;exact⟨u,r,.inl ⟨P,by simp⟩⟩
   ·rw[Cr (CO O)]at L
    obtain⟨u',r',q⟩:=hl j y Y C L Z;refine⟨u',r',?_⟩
    rcases q with⟨k,e⟩ | ⟨k,c,e,z⟩
    ·refine .inl ⟨k,?_⟩
     have:y≠x:=λe=>O (Uw hN C (e▸hi))
     ext
    ·exact .inr ⟨k,c,e,z.sameBut l (cne y c e)⟩
  ·obtain⟨T,z⟩:=I.cell y c e
   exact⟨T,z.sameBut l (cne y c e)⟩
  ·obtain⟨e,n,ne,nf,d⟩:=I.pin p hp
   exact⟨(l.2 p.1 ne).trans e,n,ne,nf,d⟩
 ·have zg:X.fn x=true:=by
   rcases hf with z | z
   ·exact z
   ·ext
  obtain⟨c,J⟩:=I.ok.has x (.inl P);obtain⟨T,z⟩:=I.cell x c J;refine wpAny_storeName_cell I.ok.kind P J z (λh' t5 l=>?_);obtain⟨oc,hoc,hocd⟩:=id z;refine h { s with heap:=h' } ⟨I.ok,I.os,I.bare,⟨λb o e n hb G=>?_,λb o e n hb G=>?_,I.base.free,λb o e G=>?_,I.base.tups,I.base.frzs,I.base.tbls⟩,⟨m,S.sameBut l (CO (cne x c J)),λj y Y C L Z=>?_⟩,λy R e=>?_,I.free,I.freeC,λp hp=>?_,B ⟨oc,hoc,I.freeC x c J⟩ l,by simpa using I.len⟩ ⟨c,l,.inr J⟩
  ·exact(l.2 b (Ao (Aa (AX e) (I.ok.cab x c zg J)))).trans (I.base.keep b o e n hb G)
  ·obtain⟨sl,C⟩:=I.base.slot b o e n hb G
   exact⟨sl,(l.2 b (Ao (Aa (AX e) (I.ok.cab x c zg J)))).trans C⟩
  ·obtain⟨o',C⟩:=I.base.there b o e G
   exact⟨o',(l.2 b (Ao (Aa (AX e) (I.ok.cab x c zg J)))).trans C⟩
  ·by_cases O:j=i
   ·subst O
    rw[hi]at C;cases C;rw[EY Ϩ]at L;cases L;exact⟨u,r,.inr ⟨.inl P,c,J,t5⟩⟩
   ·rw[Cr (CO O)]at L
    obtain⟨u',r',q⟩:=hl j y Y C L Z;refine⟨u',r',?_⟩
    rcases q with q | ⟨k,R,e,z'⟩
    ·exact .inl q
    ·refine .inr ⟨k,R,e,z'.sameBut l ?_⟩
     rintro rfl;exact O (Uw hN C (I.ok.inj _ _ _ e J▸hi))
  ·by_cases hcc:R=c
   ·grind
   ·obtain⟨w2,z2⟩:=I.cell y R e
    exact⟨w2,z2.sameBut l hcc⟩
  ·obtain⟨e,n,ne,nf,d⟩:=I.pin p hp
   refine⟨(l.2 p.1 ?_).trans e,n,ne,nf,d⟩
   grind
theorem Pr(I:Inv X ζ σ H s)(l:X.N.Nodup)(hi:X.N[i]?=some x)(m:Loc X.env.scope x)(r:RelV v u)
  (h:∀s',Inv X ζ (σ.set i (some v)) H s'->Q () s') (o:autoParam (zFn X x) yq3q):AZ M A (oF X.env x u) Q E s:=
 Rm I l hi m r (λs' w G=>h s' w) o
theorem Inv.call'(I:Inv X ζ σ H s)(m:s'.os=s.os)(u:Un (frs X.stack) ch H H' s.heap s'.heap)(l:HOk X.prog X.w H' s'.heap)(o:JA s'.gens)
  (A:∀b∈ch,(b∈X.ex∨X.s₀.heap.objs.size<=b)/\b≠X.env.locals/\(∀x c,X.env.cells.lookup x=some c->c≠b)/\∀p∈X.pn++ζ,p.1≠b):Inv X ζ σ H' s':=by
 obtain⟨h',g',d',t',B⟩:=s';have e:B=s.os:=m;subst e;exact I.call (g':=g') (t':=t') (d':=d') u l o A
end
noncomputable abbrev XK:=AD->Option AL->Hp->Prop
abbrev St:=List (Option V)
abbrev VK:=V->Hp->Prop
abbrev TE:=St->Hp->VK->Prop
abbrev TT:=St->Hp->(Bool->Hp->Prop)->Prop
abbrev TA:=St->Hp->(List V->Hp->Prop)->Prop
structure dQ where
 nx:St->Hp->Prop
 rt:VK
 bk:St->Hp->Prop:=λG G=>False
 ct:St->Hp->Prop:=λG G=>False
abbrev TS:=dQ->St->Hp->Prop
def EP(X:Cx)(m:List (AL×Obj))(o:St)(Q:VK)(u:AD)(s':AK):Prop:=∃v l,Inv X m o l s'/\RelV v u/\Q v l
def TP(X:Cx)(m:List (AL×Obj))(o:St)(Q:Bool->Hp->Prop)(b:Bool)(s':AK):Prop:=∃l,Inv X m o l s'/\Q b l
def AP(X:Cx)(m:List (AL×Obj))(o:St)(Q:List V->Hp->Prop)(us:List AD)(s':AK):Prop:=∃vs l,Inv X m o l s'/\Bp vs us/\Q vs l
def SP(X:Cx)(o:List (AL×Obj))(D:dQ)(f:Flow)(s':AK):Prop:=
 match f with
 | .next=>∃l m,Inv X o l m s'/\D.nx l m
 | .brk=>∃l m,Inv X o l m s'/\D.bk l m
 | .cont=>∃l m,Inv X o l m s'/\D.ct l m
 | .ret u=>∃v l m,Inv X o l m s'/\RelV v u/\D.rt v m
def PE(X:Cx)(e:Expr)(t:TE):Prop:=
 ∀(m:List (AL×Obj)) (s:AK) (l:St) (H:Hp) (Q:VK),Inv X m l H s->t l H Q->AZ (AY X.prog X.w) X.A (A6 e X.env) (EP X m l Q) X.xe s
def PT(X:Cx)(e:Expr)(t:TT):Prop:=
 ∀(m:List (AL×Obj)) (s:AK) (l:St) (H:Hp) (Q:Bool->Hp->Prop),Inv X m l H s->t l H Q->AZ (AY X.prog X.w) X.A (KG e X.env (A6 e X.env)) (TP X m l Q) X.xe s
def PW(X:Cx)(e:Expr)(t:TT):Prop:=
 ∀(l:Sem AD) (o:List (AL×Obj)) (s:AK) (m:St) (H:Hp) (Q:Bool->Hp->Prop),Inv X o m H s->t m H Q->AZ (AY X.prog X.w) X.A (KG e X.env l) (TP X o m Q) X.xe s
theorem PW.pt(h:PW X e t):PT X e t:=h _
def PA(X:Cx)(es:List Expr)(t:TA):Prop:=
 ∀(l:Pos) (o:List (AL×Obj)) (s:AK) (m:St) (H:Hp) (Q:List V->Hp->Prop),Inv X o m H s->t m H Q->AZ (AY X.prog X.w) X.A (spliced (Cu l (AH es X.env))) (AP X o m Q) X.xe s
def PS(X:Cx)(st:B6)(t:TS):Prop:=
 ∀(l:List (AL×Obj)) (s:AK) (m:St) (H:Hp) (D:dQ),Inv X l m H s->t D m H->AZ (AY X.prog X.w) X.A (exec st X.env) (SP X l D) X.xe s
def PSs(X:Cx)(st:List B6)(t:TS):Prop:=
 ∀(l:List (AL×Obj)) (s:AK) (m:St) (H:Hp) (D:dQ),Inv X l m H s->t D m H->AZ (AY X.prog X.w) X.A (execs st X.env) (SP X l D) X.xe s
theorem thn{l:Type}{t:Sem l}{Q m:l->AK->Prop}{M:Vq}{A:BP}{E:AD->AK->Prop}{s:AK}(h:AZ M A t Q E s)(o:∀a s,Q a s->m a s):AZ M A t m E s:=DP h o λG G x=>x
section
variable{X:Cx}
def DX(i:Nat):TE:=λl H Q=>∃v,l[i]?=some (some v)/\Q v H
def tC(v:V):TE:=λG H Q=>Q v H
theorem lX(C:X.N[i]?=some x)(E:Vis X.env.scope x)(w:autoParam ((x==("__debug__" : Str))=false) yq1q) (G:autoParam ((x==("__classdict__" : Str))=false) yq1q):PE X (.Name x pos) (DX i):=by
 intro J s L H Q I h;obtain⟨v,e,h⟩:=h;obtain⟨m,O,P⟩:=I.loc;obtain⟨u,r,l⟩:=P i x v C e E;have fin:EP X J L Q u s:=⟨v,H,I,r,h⟩
 rcases l with⟨o,R⟩ | ⟨o,c,A,B⟩
 ·exact jk (di I.ok.kind o O R fin) w
 ·rcases o with o | o
  ·exact jk (ip I.ok.kind o A B fin) w
  ·exact jk (wpAny_loadName_free I.ok.kind o A B fin G) w
theorem lc{i j pos}:PE X (.Constant (.int i) j pos) (tC (.int i)):=λG G G H G I h=>wpAny_Constant_int ⟨.int i,H,I.tok _,⟨_,rfl⟩,h⟩
theorem qD{b j pos}:PE X (.Constant (.bool b) j pos) (tC (.bl b)):=λG G G H G I h=>Constant_bool ⟨.bl b,H,I,rfl,h⟩
theorem lY{x j pos}:PE X (.Constant (.str x) j pos) (tC (.str x)):=λG G G H G I h=>Calls.Constant_str ⟨.str x,H,I.tok _,⟨_,rfl⟩,h⟩
def Gl(X:Cx)(x:Str):Prop:=X.env.kindOf x=some .globalImplicit
theorem TN(I:Inv X B C H s)(l:Gl X x)(m:X.mg x=some u)(h:Q u s)
  (o:autoParam ((x==("__debug__" : Str))=false) yq1q):AZ (AY X.prog X.w) X.A (A6 (.Name x pos) X.env) Q E s:=
 RA I.ok.kind l (Calls.loadGlobal_global (by rw[I.ok.glob];exact I.mod.glob.keeps I.bk) m h) o
theorem Jj(I:Inv X L N H s)(l:Gl X x)(m:X.mg x=none)(o:EK x=some u)(h:Q u s)
  (B:autoParam (x≠"__name__") yq1q) (C:autoParam ((x==("__debug__" : Str))=false) yq1q):AZ (AY X.prog X.w) X.A (A6 (.Name x pos) X.env) Q E s:=by
 obtain⟨O,G,J⟩:=I.mod.blt;exact RA I.ok.kind l (Calls.loadGlobal_builtin (by rw[I.ok.glob];exact I.mod.glob.keeps I.bk) m (by rw[I.ok.blt];exact G.keeps I.bk) ((J x B).trans o) h) C
theorem gr(l:Gl X x)(m:X.mg x=some u)(r:RelV v u)(o:autoParam ((x==("__debug__" : Str))=false) yq1q):PE X (.Name x pos) (tC v):=
 λG G G H G I h=>TN I l m ⟨v,H,I,r,h⟩ o
theorem gw(l:Gl X x)(m:X.mg x=none)(o:EK x=some u)(r:RelV v u)(w:autoParam (x≠"__name__") yq1q) (A:autoParam ((x==("__debug__" : Str))=false) yq1q):PE X (.Name x pos) (tC v):=
 λG G G H G I h=>Jj I l m o ⟨v,H,I,r,h⟩ w A
variable{a b:Expr}{ta tb:TE}{pos:Pos}
def PC(X:Cx)(op:T2)(a b:Expr)(t:TE):Prop:=
 ∀(B:List (AL×Obj)) (s:AK) (o:St) (H:Hp) (Q:VK),Inv X B o H s->t o H Q ->
  AZ (AY X.prog X.w) X.A (A6 a X.env) (λv l=>AZ (AY X.prog X.w) X.A (A6 b X.env) (λu m=>AZ (AY X.prog X.w) X.A (Bo op v u) (EP X B o Q) X.xe m) X.xe l) X.xe s
def tB(t:TE):TT:=λl H Q=>t l H λx m=>∃c,x=.bl c/\Q c m
theorem lg(h:PC X op a b t)(l:autoParam (BF op b=false) yq11q):PE X (.Compare a [op] [b] pos) t:=λm s o H Q I hw=>wpAny_Compare1 (h m s o H Q I hw) l
theorem bQ(h:PC X op a b t)(l:autoParam (BF op b=false) yq11q):PT X (.Compare a [op] [b] pos) (tB t):=by
 intro m s o H Q I hw;refine dW (thn (h m s o H _ I hw) λv G l=>thn l λu J w=>thn w ?_) l;rintro c L ⟨x,A,B,C,E⟩;obtain⟨d,rfl,q⟩:=E;cases C;exact CL ⟨A,B,q⟩
variable{tA yx:TT}{rest:List Expr}
def tAnd(t u:TT):TT:=λl H Q=>t l H λc m=>if c=true then u l m Q else Q false m
def tOr(t u:TT):TT:=λl H Q=>t l H λc m=>if c=true then Q true m else u l m Q
def tNot(t:TT):TT:=λl H Q=>t l H λc m=>Q (!c) m
theorem Xf(l:PT X a tA):PW X (.BoolOp .And [a] pos) tA:=by
 intro w m s o H Q I h;refine isTrue_and (thn (l m s o H Q I h) λc A e=>?_)
 cases c with
 | true=>exact isTrue_and_nil e
 | false=>exact e
theorem lM(l:PT X a tA):PW X (.BoolOp .Or [a] pos) tA:=by
 intro w m s o H Q I h;refine isTrue_or (thn (l m s o H Q I h) λc A e=>?_)
 cases c with
 | false=>exact isTrue_or_nil e
 | true=>exact e
theorem S7(o:PT X a tA)(hb:PW X (.BoolOp .And (b :: rest) pos) yx):PW X (.BoolOp .And (a :: b :: rest) pos) (tAnd tA yx):=by
 intro w l s m H Q I h;refine isTrue_and (thn (o l s m H _ I h) λc A ⟨B,C,E⟩=>?_)
 cases c with
 | true=>exact hb w l A m B Q C E
 | false=>assumption
theorem jO(o:PT X a tA)(hb:PW X (.BoolOp .Or (b :: rest) pos) yx):PW X (.BoolOp .Or (a :: b :: rest) pos) (tOr tA yx):=by
 intro w l s m H Q I h;refine isTrue_or (thn (o l s m H _ I h) λc A ⟨B,C,E⟩=>?_)
 cases c with
 | true=>assumption
 | false=>exact hb w l A m B Q C E
theorem bP(l:PT X a tA):PT X (.UnaryOp .Not a pos) (tNot tA):=by
 intro m s o H Q I h;exact isTrue_not (l m s o H (λc w=>Q (!c) w) I h)
def pS(ta tb:TE):TE:=λl H Q=>ta l H λx m=>∃c,x=.bl c/\if c=true then tb l m Q else Q (.bl false) m
def tOrV(ta tb:TE):TE:=λl H Q=>ta l H λx m=>∃c,x=.bl c/\if c=true then Q (.bl true) m else tb l m Q
def pH(ta:TE):TE:=λl H Q=>ta l H λx m=>∃c,x=.bl c/\Q (.bl (!c)) m
theorem lZ{op}{t}(h:PE X a t):PE X (.BoolOp op [a] pos) t:=λl s m H Q I hw=>BoolOp_one (h l s m H Q I hw)
theorem bj(B:PE X a ta)(hb:PE X (.BoolOp .And (b :: rest) pos) tb):PE X (.BoolOp .And (a :: b :: rest) pos) (pS ta tb):=by
 intro m s o H Q I h;refine BoolOp_and (thn (B m s o H _ I h) ?_);rintro v C ⟨x,w,A,E,l⟩;obtain⟨c,rfl,l⟩:=l;cases E;refine CL ?_
 cases c with
 | true=>exact hb m C o w Q A l
 | false=>exact⟨.bl false,w,A,rfl,l⟩
theorem jQ(B:PE X a ta)(hb:PE X (.BoolOp .Or (b :: rest) pos) tb):PE X (.BoolOp .Or (a :: b :: rest) pos) (tOrV ta tb):=by
 intro m s o H Q I h;refine BoolOp_or (thn (B m s o H _ I h) ?_);rintro v C ⟨x,w,A,E,l⟩;obtain⟨c,rfl,l⟩:=l;cases E;refine CL ?_
 cases c with
 | false=>exact hb m C o w Q A l
 | true=>exact⟨.bl true,w,A,rfl,l⟩
theorem lb(m:PE X a ta):PE X (.UnaryOp .Not a pos) (pH ta):=by
 intro o s w H Q I h;refine UnaryOp_ (thn (m o s w H _ I h) ?_);rintro v E ⟨x,A,B,C,l⟩;obtain⟨c,rfl,l⟩:=l;cases C;exact not_of (CL ⟨.bl (!c),A,B,rfl,l⟩)
def tIf(t:TT)(ta tb:TE):TE:=λl H Q=>t l H λc m=>if c=true then ta l m Q else tb l m Q
theorem Ur(C:PT X c tA)(E:PE X a ta)(hb:PE X b tb):PE X (.IfExp c a b pos) (tIf tA ta tb):=by
 intro l s m H Q I h;refine wpAny_IfExp (thn (C l s m H _ I h) ?_);rintro d o ⟨w,A,B⟩
 cases d with
 | true=>exact E l o m w Q A B
 | false=>exact hb l o m w Q A B
end
def SqL(K:AB)(H:Hp)(a:AL)(xs:List V):Prop:=
 Rd H a (.lst xs) ∨
  ∃(o:Obj) (l:Array AD) (n:Nat),K.lookup a=some o/\o.cls=.type "list"/\o.dict=none/\o.data=.seq l n/\l.size<=sizeLine/\Bp xs l.toList
def SqT(K:AB)(H:Hp)(a:AL)(xs:List V):Prop:=
 Rd H a (.tup xs) ∨
  ∃(o:Obj) (l:Array AD) (n:Nat),K.lookup a=some o/\o.cls=.type "tuple"/\o.data=.seq l n/\l.size<=sizeLine/\Bp xs l.toList
noncomputable def absV:AD->Option V
 | .none=>some .non
 | .bool b=>some (.bl b)
 | .int i _=>some (.int i)
 | .str x _=>some (.str x)
 | .bytes b _=>some (.byt b)
 | .float b _=>some (.flt b)
 | .ref a=>some (.ref a)
 | .type n=>some (.ty n)
 | _=>none
theorem RelV.abs(r:RelV x u):absV u=some x:=by
 cases x with
 | non=>cases r;rfl
 | bl _=>cases r;rfl
 | int _=>obtain⟨t,rfl⟩:=r;rfl
 | str _=>obtain⟨t,rfl⟩:=r;rfl
 | byt _=>obtain⟨t,rfl⟩:=r;rfl
 | flt _=>obtain⟨t,rfl⟩:=r;rfl
 | ref _=>cases r;rfl
 | ty _=>cases r;rfl
theorem RelV.inj(r:RelV x u)(q:RelV y u):x=y:=B1 (r.abs.symm.trans q.abs)
theorem Bp.inj:∀{xs l:List V} {us:List AD},Bp xs us->Bp l us->xs=l
 | _,_,_,.nil,.nil=>rfl
 | _,_,_,.cons r t,.cons m o=>by rw[r.inj m,Bp.inj t o]
section
variable{X:Cx}{ζ:List (AL×Obj)}{σ:St}{H:Hp}{s:AK}{a:AL}{xs ys:List V}
theorem Inv.list(I:Inv X ζ σ H s)(h:SqL X.K H a xs):∃l:List AD,Bp xs l/\PlainL s.heap a l.toArray/\xs.length<=sizeLine:=by
 rcases h with h | ⟨o,l,n,m,w,A,B,C,r⟩
 ·obtain⟨z,l,n,r,e⟩:=h.ok I.hok
  exact⟨l,r,⟨_,n,e,rfl,rfl,rfl⟩,z⟩
 ·refine⟨l.toList,r,⟨o,n,I.kIn a o m,w,A,by simpa using B⟩,?_⟩
  have e:=r.length;ext
theorem Inv.tuple(I:Inv X ζ σ H s)(h:SqT X.K H a xs):∃l:List AD,Bp xs l/\eE s.heap a l.toArray/\xs.length<=sizeLine:=by
 rcases h with h | ⟨o,l,n,m,w,A,B,r⟩
 ·obtain⟨z,l,r,p⟩:=h.ok I.hok
  exact⟨l,r,p,z.1⟩
 ·refine⟨l.toList,r,⟨o,I.kIn a o m,w,n,by simpa using A⟩,?_⟩
  have e:=r.length;ext
theorem Inv.list_inj(I:Inv X ζ σ H s)(h:SqL X.K H a xs)(h':SqL X.K H a ys):xs=ys:=by
 obtain⟨w,r,⟨o,n,e,_,_,d⟩,_⟩:=I.list h;obtain⟨its',A,⟨B,C,l,_,_,m⟩,_⟩:=I.list h';rw[e]at l;cases l;rw[d]at m
 injection m with d1 _
 have:w=its':=by simpa using congrArg UB d1
 subst this;exact r.inj A
theorem Inv.tuple_inj(I:Inv X ζ σ H s)(h:SqT X.K H a xs)(h':SqT X.K H a ys):xs=ys:=by
 obtain⟨w,r,⟨o,e,_,n,d⟩,_⟩:=I.tuple h;obtain⟨its',A,⟨B,l,_,C,m⟩,_⟩:=I.tuple h';rw[e]at l;cases l;rw[d]at m
 injection m with d1 _
 have:w=its':=by simpa using congrArg UB d1
 subst this;exact r.inj A
end
section
variable{X:Cx}{st:B6}{rest:List B6}{t u:TS}{e:Expr}{te:TE}{pos:Pos}
def pJ:TS:=λD l H=>D.nx l H
def tSeq(t u:TS):TS:=λD l H=>t { D with nx:=u D } l H
theorem gY:PSs X [] pJ:=λG G l H G I h=>MN ⟨l,H,I,h⟩
theorem Ul(o:PS X st t)(w:PSs X rest u):PSs X (st :: rest) (tSeq t u):=by
 intro m s A H D I h;refine oC (thn (o m s A H { D with nx:=u D } I h) λf B q=>?_)
 cases f with
 | next=>
  obtain⟨l,C,E,q⟩:=q;exact w m B l C D E q
 | ret v=>exact q
 | brk=>exact q
 | cont=>exact q
theorem gX(l:PS X st t):PSs X [st] t:=by
 intro m s o H D I h;refine oC (thn (l m s o H D I h) λf w q=>?_)
 cases f with
 | next=>exact MN q
 | ret v=>exact q
 | brk=>exact q
 | cont=>exact q
theorem Inv.quiet(I:Inv X l m H s):interactive X.env=false:=by simp[interactive,I.ok.kind]
def pN(te:TE):TS:=λD l H=>te l H λG m=>D.nx l m
theorem O2(m:PE X e te)(hs:autoParam (Bb e none pos.line X.env=pure false) yq0q):PS X (.Expr e pos) (pN te):=by
 intro o s l H D I h;exact wpAny_Expr_any (thn (m o s l H _ I h) (by rintro v C ⟨x,w,A,E,B⟩;exact ⟨l,w,A,B⟩)) I.quiet hs
def tRet(te:TE):TS:=λD l H=>te l H D.rt
theorem S9(m:PE X e te):PS X (.Return (some e) pos) (tRet te):=by
 intro o s l H D I h;exact wpAny_Return_some (thn (m o s l H _ I h) (by rintro v E ⟨x,w,A,B,C⟩;exact ⟨x,l,w,A,B,C⟩))
def tIfS(c:TT)(t u:TS):TS:=λD l H=>c l H λb m=>if b=true then t D l m else u D l m
theorem Xg(C:PT X c tc)(E:PSs X a t)(hb:PSs X b u):PS X (.If c a b pos) (tIfS tc t u):=by
 intro l s m H D I h;refine wpAny_If (thn (C l s m H _ I h) ?_);rintro d o ⟨w,A,B⟩
 cases d with
 | true=>exact E l o m w D A B
 | false=>exact hb l o m w D A B
def ke:TS:=λG G G=>False
theorem JH:PSs X sts ke:=λG G G G G G h=>h.elim
end
abbrev TG:=V->St->Hp->(St->Hp->Prop)->Prop
abbrev TGs:=List V->St->Hp->(St->Hp->Prop)->Prop
def PG(X:Cx)(C:Expr)(t:TG):Prop:=
 ∀(m:List (AL×Obj)) (s:AK) (o:St) (H:Hp) (v:V) (u:AD) (Q:St->Hp->Prop),Inv X m o H s->RelV v u->t v o H Q ->
  AZ (AY X.prog X.w) X.A (assign C X.env u) (λG E=>∃l B,Inv X m l B E/\Q l B) X.xe s
def PGs(X:Cx)(ts:List Expr)(t:TGs):Prop:=
 ∀(m:List (AL×Obj)) (s:AK) (o:St) (H:Hp) (vs:List V) (B:List AD) (Q:St->Hp->Prop),Inv X m o H s->Bp vs B->t vs o H Q ->
  AZ (AY X.prog X.w) X.A (assignInOrder ((JP ts X.env).map (·.2)) B) (λG E=>∃l C,Inv X m l C E/\Q l C) X.xe s
abbrev qr:=V->V->V->Hp->(Hp->Prop)->Prop
def qu(X:Cx)(t:qr):Prop:=
 ∀(l:List (AL×Obj)) (s:AK) (m:St) (H:Hp) (o i v:V) (B C u:AD) (Q:Hp->Prop),Inv X l m H s->RelV o B->RelV i C->RelV v u->t o i v H Q ->
  AZ (AY X.prog X.w) X.A (Zp B C u) (λI G=>∃E,Inv X l m E G/\Q E) X.xe s
abbrev TIp:=V->V->Hp->VK->Prop
def PIp(X:Cx)(op:NM)(t:TIp):Prop:=
 ∀(l:List (AL×Obj)) (s:AK) (m:St) (H:Hp) (x y:V) (v u:AD) (Q:VK),Inv X l m H s->RelV x v->RelV y u->t x y H Q ->
  AZ (AY X.prog X.w) X.A (inplaceOp op v u) (EP X l m Q) X.xe s
section
variable{X:Cx}{pos:Pos}
def IT(i:Nat):TG:=λv l H Q=>Q (l.set i (some v)) H
theorem gm(l:X.N.Nodup)(hi:X.N[i]?=some x)(m:Loc X.env.scope x)(o:autoParam (zFn X x) yq3q):PG X (.Name x pos) (IT i):=by
 intro A s B H v u Q I r h;exact nS (Pr I l hi m r (λC w=>⟨_,H,w,h⟩) o)
def me:TGs:=λvs l H Q=>vs=[]/\Q l H
def U9(t:TG)(u:TGs):TGs:=λvs m H Q=>∃v r,vs=v :: r/\t v m H λl o=>u r l o Q
theorem M0:PGs X [] me:=by
 intro m s l H vs o Q I r h;obtain⟨e,h⟩:=h;subst e;cases r;exact assignInOrder_nil ⟨l,H,I,h⟩
theorem FS(o:PG X e t)(w:PGs X es u)
  (hs:autoParam ((JP (e :: es) X.env).map (·.2)=assign e X.env :: (JP es X.env).map (·.2)) yq0q):PGs X (e :: es) (U9 t u):=by
 intro m s A H vs N Q I r h;obtain⟨v,vr,B,h⟩:=h;subst B
 cases r with
 | cons r C=>
  rw[hs];refine assignInOrder_cons (thn (o m s A H _ _ _ I r h) ?_);rintro _ E ⟨l,G,J,L⟩;exact w m E l G _ _ Q J C L
def md(K:AB)(n:Nat)(t:TGs):TG:=λv m H Q=>∃a l,v=.ref a/\SqT K H a l/\l.length=n/\t l m H Q
theorem P9(w:X.calm=true)(h:PGs X es t)
  (A:autoParam ((JP es X.env).length=n) yq0q) (B:autoParam ((JP es X.env).findIdx? (·.1)=none) yq0q):PG X (.Tuple es k pos) (md X.K n t):=by
 intro l s m H v u Q I r hw;obtain⟨a,C,E,G,J,hw⟩:=hw;subst E;cases r;obtain⟨S,L,N,T⟩:=I.tuple G
 refine assign_Tuple_tuple (I.ok.hd w) N (by simp[A,<-J,L.length]) B λO P=>?_
 have R:Inv X l m H { s with heap:=O }:=I.kept (t':=s.toks) λb o e=>P b o (Ao (AX e)) e
 exact h l _ m H C _ Q R (by ext) hw
def gJ(m:TE)(g:TG):TS:=λD l H=>m l H λx o=>g x l o D.nx
theorem lT(o:PE X e w)(A:PG X tg g)(hs:autoParam (swapsWithSole [tg] e pos.line X.env=pure false) yq0q)(hw:autoParam (swappedStores [tg] e X.env=pure none) yq0q)
  (B:autoParam ((JP [tg] X.env).map (·.2)=[assign tg X.env]) yq0q):PS X (.Assign [tg] e pos) (gJ w g):=by
 intro l s m H D I h;refine wpAny_Assign_stores (thn (o l s m H _ I h) ?_) hs hw;rintro v C ⟨x,E,G,J,L⟩;rw[B]
 exact thn (A l C m E x v _ G J L) λM N q=>q
theorem bT(m:X.N.Nodup)(hi:X.N[i]?=some x)(o:Loc X.env.scope x)(w:PE X e A)(hs:autoParam (Bb e (some (.Name x l)) pos.line X.env=pure false) yq0q)(B:autoParam (zFn X x) yq3q) :
  PS X (.Assign [.Name x l] e pos) (gJ A (IT i)):=by
 intro C s E H D I h;refine wpAny_Assign_Name (thn (w C s E H _ I h) ?_) hs;rintro v Q ⟨y,G,J,L,O⟩;exact Pr J m hi o L (λR P=>⟨_,G,P,O⟩) B
def tAug(i:Nat)(m:TE)(o:TIp):TS:=λD l H=>∃x,l[i]?=some (some x)/\m l H λy w=>o x y w λz A=>D.nx (l.set i (some z)) A
theorem lS(P:X.N.Nodup)(hi:X.N[i]?=some x)(E:Loc X.env.scope x)(Q:PE X e R)(S:PIp X op T)(U:autoParam (zFn X x) yq3q) :
  PS X (.AugAssign (.Name x L) op e pos) (tAug i R T):=by
 intro G s O H D I h;obtain⟨v,Y,h⟩:=h;obtain⟨m,Z,hl⟩:=I.loc
 have J:Vis X.env.scope x:=by rcases E with k | k;exact .inl k;exact .inr (.inl k)
 obtain⟨u,r,l⟩:=hl i x v hi Y J;refine wpAny_AugAssign_Name ?_
 have go:AZ (AY X.prog X.w) X.A (A6 e X.env) (λw B=>AZ (AY X.prog X.w) X.A (inplaceOp op u w) (λr C=>AZ (AY X.prog X.w) X.A (oF X.env x r) (λM=>SP X G D .next) X.xe C) X.xe B) X.xe s:=by
  refine thn (Q G s O H _ I h) ?_;rintro w s1 ⟨y,H1,I1,r1,q1⟩
  refine thn (S G s1 O H1 v y u w _ I1 r r1 q1) ?_;rintro z s2 ⟨zv,H2,I2,r2,q2⟩
  exact Pr I2 P hi E r2 (λs3 I3=>⟨_,H2,I3,q2⟩) U
 rcases l with⟨o,hm⟩ | ⟨o,c,hc,sG⟩
 ·exact di I.ok.kind o Z hm go
 ·rcases o with o | o
  ·exact ip I.ok.kind o hc sG go
  ·rcases E with k | k
   ·have:X.env.scope.names.lookup x=some .free:=o
    ext
   ·have:X.env.scope.names.lookup x=some .free:=o
    ext
def pR(to m w:TE)(A:V->V->Hp->VK->Prop)(B:TIp)(C:qr):TS:=λD l H=>to l H λo E=>m l E λi G=>A o i G λx I=>w l I λy J=>B x y J λz L=>C o i z L λN=>D.nx l N
def qv(X:Cx)(t:V->V->Hp->VK->Prop):Prop:=
 ∀(l:List (AL×Obj)) (s:AK) (m:St) (H:Hp) (o i:V) (B C:AD) (Q:VK),Inv X l m H s->RelV o B->RelV i C->t o i H Q ->
  AZ (AY X.prog X.w) X.A (Iu B C) (EP X l m Q) X.xe s
theorem gZ(L:PE X o to)(hi:PE X i N)(O:qv X P)(Q:PE X e R)(S:PIp X op T)(hs:qu X U)
  (Y:autoParam (∀l m new,augStore i l m new=(do Fn [new,l,m] (Zp l m new);release [new,l,m] [];pure .next)) yq12q):PS X (.AugAssign (.Subscript o i tpos) op e pos) (pR to N R P T U):=by
 intro A s w H D I h;refine wpAny_AugAssign_SubscriptAny (thn (L A s w H _ I h) ?_) Y;rintro l Z ⟨C,H1,I1,E,q1⟩
 refine thn (hi A Z w H1 _ I1 q1) ?_;rintro m s2 ⟨G,H2,I2,J,q2⟩
 refine thn (O A s2 w H2 C G l m _ I2 E J q2) ?_;rintro B s3 ⟨x3,H3,I3,r3,q3⟩
 refine thn (Q A s3 w H3 _ I3 q3) ?_;rintro v s4 ⟨x4,H4,I4,r4,q4⟩
 refine thn (S A s4 w H4 x3 x4 B v _ I4 r3 r4 q4) ?_;rintro new s5 ⟨x5,H5,I5,r5,q5⟩
 exact thn (hs A s5 w H5 C G x5 l m new _ I5 E J r5 q5) (by rintro _ s6 ⟨H6,I6,q6⟩;exact ⟨w,H6,I6,q6⟩)
def ipI(f:Int->Int->Int):TIp:=λx y H Q=>∃i j,x=.int i/\y=.int j/\Q (.int (f i j)) H
theorem mX:PIp X .Add (ipI λi j=>i+j):=by
 intro A s B H x y v u Q I l m h;obtain⟨i,j,o,w,q⟩:=h;subst o;subst w;obtain⟨t,rfl⟩:=l;obtain⟨C,rfl⟩:=m;exact iadd_int ⟨.int _,H,I.tok _,⟨_,rfl⟩,q⟩
def kZ(c:TT)(tb:TS):TS:=λD l H=>∃W:Nat->St->Hp->Prop,(∃m,W m l H)/\∀m l H,W m l H ->
 c l H λb w=>if b=true then ∃N:St->Hp->Prop,(∀o A,N o A->∃B,B < m/\W B o A)/\tb { D with nx:=N,ct:=N,bk:=D.nx } l w else D.nx l w
theorem bR(T:oK (AY X.prog X.w) X.A X.env X.xe)(hc:PT X c tc)(hb:PSs X o tb):PS X (.While c o [] pos) (kZ tc tb):=by
 intro L s σ H D I h;obtain⟨W,⟨m0,w0⟩,B⟩:=h;refine wpAny_While (codeAny_whileLoop (λn s'=>∃C U,Inv X L C U s'/\W n C U) ?_ m0 ⟨σ,H,I,w0⟩);rintro n s1 ⟨m,Y,I1,w1⟩;refine E5 T (thn (hc L s1 m Y _ I1 (B n m Y w1)) ?_);rintro b s2 ⟨Z,I2,G⟩
 cases b with
 | true=>
  obtain⟨N,hN,G⟩:=G;rw[qX rfl];refine E5 T (thn (hb L s2 m Z _ I2 G) λf s3 J=>?_)
  cases f with
  | next=>
   obtain⟨l,E,O,P⟩:=J;obtain⟨Q,R,S⟩:=hN l E P;exact⟨Q,R,l,E,O,S⟩
  | cont=>
   obtain⟨l,E,O,P⟩:=J;obtain⟨Q,R,S⟩:=hN l E P;exact⟨Q,R,l,E,O,S⟩
  | brk=>exact J
  | ret v=>exact J
 | false=>
  rw[qY Av];exact MN ⟨m,Z,I2,G⟩
end
structure It where
 go:Nat->Hp->Prop
 yld:Nat->Hp->V->Hp->Prop
 stop:Nat->Hp->Prop
def MM(X:Cx)(l:List (AL×Obj))(H:Hp)(b:AL):Prop:=
 H b=none/\b≠X.env.locals/\b∉X.fs/\(b∈X.ex∨X.s₀.heap.objs.size<=b)/\(∀x c,X.env.cells.lookup x=some c->c≠b)/\∀p∈X.pn++l,p.1≠b
theorem Inv.fpOk(I:Inv X l w H s)(hb:s.heap.objs.size<=b)(m:H' b=none):MM X l H' b:=by
 refine⟨m,Ed (Aa I.lt hb),I.nofs hb,.inr (A7 I.sz hb),λx c e z=>?_,λp o z=>?_⟩
 ·obtain⟨v,q⟩:=I.cell x c e
  exact zX (Aa q.lt (by ext)) (Em _)
 ·exact zX (Aa (AX (I.pin p o).1) (by ext)) (Em _)
structure RU(P:Al)(w:A1)(K:AB)(tg:Expr)(J:It)(fp:List AL)(it:AL)(tn:Nat->BI->Prop):Prop where
 mem:it∈fp
 obj:∀i h,tn i h->∀b∈fp,∃o,h.get? b=some o/\∀v,o.data≠.cell v
 keep:∀i h h',tn i h->(∀b∈fp,∀o,h.get? b=some o->h'.get? b=some o)->tn i h'
 item:∀(X:Cx),X.prog=P->X.w=w->X.K=K->X.calm=true->∀(i:Nat) (ζ:List (AL×Obj)) (s:AK) (σ:St) (H:Hp) (E:AD->AK->Prop),Inv X ζ σ H s->(∀b∈fp,MM X ζ H b)->tn i s.heap->J.go i H ->
  AZ (AY P w) X.A (F3 (.ref it)) (λr s1=>∃u,r=some u /\
   AZ (AY P w) X.A (MP tg (.ref it) u) (λG s2=>∃x H',Inv X ζ σ H' s2/\RelV x u/\J.yld i H x H'/\tn (i+1) s2.heap/\∀b∈fp,H' b=none) E s1) E s
 done:∀(X:Cx),X.prog=P->X.w=w->X.K=K->X.calm=true->∀(i:Nat) (ζ:List (AL×Obj)) (s:AK) (σ:St) (H:Hp) (E:AD->AK->Prop),Inv X ζ σ H s->(∀b∈fp,MM X ζ H b)->tn i s.heap->J.stop i H ->
  AZ (AY P w) X.A (F3 (.ref it)) (λr s1=>r=none/\Inv X ζ σ H s1) E s
 self:∀(A:BP) (i:Nat) (s:AK) (Q:AD->AK->Prop) (E:AD->AK->Prop),tn i s.heap->Q (.ref it) s->AZ (AY P w) A (PM (.ref it)) Q E s
abbrev TI:=St->Hp->(It->Hp->Prop)->Prop
def PIE(X:Cx)(o:List (AL×Obj))(E:St)(tg:Expr)(R:It->Hp->Prop)(l:AD)(A:AK):Prop:=
 ∃(it:AL) (B:List AL) (C:Nat->BI->Prop) (J:It) (m:Hp),l=.ref it/\Inv X o E m A/\RU X.prog X.w X.K tg J B it C/\C 0 A.heap/\(∀b∈B,MM X o m b)/\R J m
def PI(X:Cx)(tg iter:Expr)(o:TI):Prop:=
 ∀(m:List (AL×Obj)) (s:AK) (l:St) (H:Hp) (R:It->Hp->Prop),Inv X m l H s->o l H R ->
  AZ (AY X.prog X.w) X.A (A6 iter X.env) (λv B=>AZ (AY X.prog X.w) X.A (PM v) (PIE X m l tg R) X.xe B) X.xe s
theorem U8(m:s.heap.get? it=some o)(w:o.cls=.type n)(B:o.data=.fields vs)
  (C:["enumerate", "zip", "dict_itemiterator", "dict_reverseitemiterator", "odict_iterator", "itertools.zip_longest", "itertools.pairwise"].contains n=false) (l:Q () s):AZ M A (MP tg (.ref it) u) Q E s:=by
 unfold MP
 cases tg <;> first
  | exact AC l
  | (cases u <;> first
    | exact AC l
    | (refine AA (jg m ?_)
       rw[w,B];show AZ M A (if (["enumerate", "zip", "dict_itemiterator", "dict_reverseitemiterator", "odict_iterator", "itertools.zip_longest", "itertools.pairwise"].contains n&&vs[0]?==some (SM _))=true then _ else _) Q E s;rw[qY (by intro h;rw[C,Bool.false_and]at h;cases h)]
       exact AC l))
def Itl(K:AB)(a:AL):It:=
 ⟨λi H=>∃l x,SqL K H a l/\l[i]?=some x,λi H x m=>m=H/\∀l,SqL K H a l->l[i]?=some x,λi H=>∃l,SqL K H a l/\l.length<=i⟩
def Itt(K:AB)(a:AL):It:=
 ⟨λi H=>∃l x,SqT K H a l/\l[i]?=some x,λi H x m=>m=H/\∀l,SqT K H a l->l[i]?=some x,λi H=>∃l,SqT K H a l/\l.length<=i⟩
def Itr(lo:Int)(n:Nat):It:=⟨λi G=>i < n,λi H x l=>l=H/\x=.int (lo+i),λi G=>n<=i⟩
theorem Yc{P}{w}{K}{tg}(a it:AL):RU P w K tg (Itl K a) [it] it (λi h=>h.IsListIter it a i) where
 mem:=by simp
 obj:=λi h st b hb=>by
  have e:b=it:=by simpa using hb
  subst e;obtain⟨o,e,c,d⟩:=st
  ext
 keep:=λi h m st k=>st.at λo e=>k it ∅ o e
 item:=by
  intro X C hw G U i Y s Z H E I A st J;subst C hw G;obtain⟨xs,x,B,L⟩:=J;obtain⟨mh,N,p,hz⟩:=I.list B;obtain⟨u,hu,ru⟩:=N.get L;obtain⟨O,Q,f2,R,S,T⟩:=A it ∅
  refine wpAny_pyNext_list_item st p.isList (x:=u) (by ext) λm l sb=>?_
  have I1:Inv X Y Z H { s with heap:=m }:=I.turned (t':=s.toks) (λb o hb e=>(sb.2 b hb).trans e) O Q R S T;obtain⟨o,e,c,d⟩:=id l;exact⟨u,rfl,U8 (s:={ s with heap:=m }) e c d (by rfl) ⟨x,H,I1,ru,⟨rfl,λys hy=>by rw[I.list_inj hy B];exact L⟩,l,λb hb=>(A b hb).1⟩⟩
 done:=by
  intro X C hw G U i Y s Z H E I A st J;subst C hw G;obtain⟨xs,B,L⟩:=J;obtain⟨mh,N,p,hz⟩:=I.list B;obtain⟨O,Q,f2,R,S,T⟩:=A it ∅;have hl:=N.length
  exact wpAny_pyNext_list_end (I.ok.hd U) st p.isList (by simp;ext) λm eb=>⟨rfl,I.turned (t':=s.toks) (λb o hb e=>eb b o hb e) O Q R S T⟩
 self:=λM M M M M st h=>wpAny_pyIter_listiter st h
theorem V6{P}{w}{K}{tg}(a it:AL):RU P w K tg (Itt K a) [it] it (λi h=>h.IsTupleIter it a i) where
 mem:=by simp
 obj:=λi h st b hb=>by
  have e:b=it:=by simpa using hb
  subst e;obtain⟨o,e,c,d⟩:=st
  ext
 keep:=λi h m st k=>st.at λo e=>k it ∅ o e
 item:=by
  intro X C hw G Y i Z s σ H E I A st J;subst C hw G;obtain⟨xs,x,B,L⟩:=J;obtain⟨N,O,p,hz⟩:=I.tuple B;obtain⟨u,hu,ru⟩:=O.get L;obtain⟨Q,R,f2,S,T,U⟩:=A it ∅
  refine wpAny_pyNext_tuple_item st (show s.heap.IsTuple a N.toArray from p) (x:=u) (by ext) λm l sb=>?_
  have I1:Inv X Z σ H { s with heap:=m }:=I.turned (t':=s.toks) (λb o hb e=>(sb.2 b hb).trans e) Q R S T U;obtain⟨o,e,c,d⟩:=id l;exact⟨u,rfl,U8 (s:={ s with heap:=m }) e c d (by rfl) ⟨x,H,I1,ru,⟨rfl,λys hy=>by rw[I.tuple_inj hy B];exact L⟩,l,λb hb=>(A b hb).1⟩⟩
 done:=by
  intro X C hw G Y i Z s σ H E I A st J;subst C hw G;obtain⟨xs,B,L⟩:=J;obtain⟨N,O,p,hz⟩:=I.tuple B;obtain⟨Q,R,f2,S,T,U⟩:=A it ∅;have hl:=O.length
  exact wpAny_pyNext_tuple_end (I.ok.hd Y) st (show s.heap.IsTuple a N.toArray from p) (by simp;ext) λm eb=>⟨rfl,I.turned (t':=s.toks) (λb o hb e=>eb b o hb e) Q R S T U⟩
 self:=λM M M M M st h=>wpAny_pyIter_tupleiter st h
theorem V7{P}{w}{K}{tg}(it:AL)(lo:Int)(n:Nat):RU P w K tg (Itr lo n) [it] it (λi h=>IsRangeIter h it (lo+(i:Nat) * 1) ((n:Int) - (i:Nat)) 1) where
 mem:=by simp
 obj:=λi h st b hb=>by
  ext
 keep:=λi h m st k=>k it ∅ _ st
 item:=by
  intro X B hw C G i S s T H E I A st J;subst B hw C;obtain⟨L,N,Y,O,Q,R⟩:=A it ∅;have W:=Walks.range (prog:=X.prog) (w:=X.w) (I.ok.hd G) it lo 1 n
  refine W.item i s _ _ J st λv m U Z l kk=>?_
  obtain⟨t,rfl⟩:=Z;have I1:Inv X S T H { s with heap:=m,toks:=U }:=I.turned (λb o hb e=>kk b o (by simpa using hb) e) L N O Q R;refine⟨_,rfl,U8 (s:={ s with heap:=m,toks:=U }) (n:="range_iterator") l rfl rfl (by rfl) ⟨.int (lo+i),H,I1,⟨t,?_⟩,⟨rfl,rfl⟩,l,λb hb=>(A b hb).1⟩⟩
  ext
 done:=by
  intro X B hw C G i S s T H E I A st J;subst B hw C;obtain⟨L,N,Y,O,Q,R⟩:=A it ∅
  exact wpAny_pyNext_range_end (I.ok.hd G) st (by have:n<=i:=J;lia) λm eb=>⟨rfl,I.turned (t':=s.toks) (λb o hb e=>eb b o hb e) L N O Q R⟩
 self:=λM M M M M st h=>wpAny_pyIter_rangeiter st h
section
variable{X:Cx}
def qc(K:AB)(m:TE):TI:=λo H R=>m o H λx l=>∃a,x=.ref a/\(∃w,SqL K l a w)/\R (Itl K a) l
def iTup(K:AB)(m:TE):TI:=λo H R=>m o H λx l=>∃a,x=.ref a/\(∃w,SqT K l a w)/\R (Itt K a) l
theorem O4{l}{A}(hl:PE X l A):PI X tg l (qc X.K A):=by
 intro B s C H R I h
 refine thn (hl B s C H _ I h) ?_;rintro v m ⟨x,E,w,G,J⟩
 obtain⟨a,e,⟨N,L⟩,q⟩:=J;subst e;cases G;obtain⟨O,P,p,Q⟩:=w.list L;refine Qy p.isList ?_;refine⟨m.heap.objs.size,[m.heap.objs.size],_,_,E,rfl,w.kept (t':=m.toks) λb o e=>AG _ e,Yc a _,⟨_,AQ _ rfl,rfl,rfl⟩,λb hb=>?_,q⟩
 have e:b=m.heap.objs.size:=by simpa using hb
 subst e;exact w.fpOk (AN _) (w.hok.fresh (AN _))
theorem lV{l}{A}(hl:PE X l A):PI X tg l (iTup X.K A):=by
 intro B s C H R I h
 refine thn (hl B s C H _ I h) λv m ⟨x,E,w,G,J⟩=>?_
 obtain⟨a,e,⟨O,L⟩,q⟩:=J;subst e;cases G;obtain⟨N,P,p,Q⟩:=w.tuple L;refine Gc (show m.heap.IsTuple a N.toArray from p) ?_;refine⟨m.heap.objs.size,[m.heap.objs.size],_,_,E,rfl,w.kept (t':=m.toks) λb o e=>AG _ e,V6 a _,⟨_,AQ _ rfl,rfl,rfl⟩,λb hb=>?_,q⟩
 have e:b=m.heap.objs.size:=by simpa using hb
 subst e;exact w.fpOk (AN _) (w.hok.fresh (AN _))
theorem Ui{l}{m}{H}{s}{R}{E}{lo hi}{t u v}{B}(I:Inv X l m H s)(G:-(2 ^ 62)<=lo)(J:lo < 2 ^ 62)(L:-(2 ^ 62)<=hi)(N:hi < 2 ^ 62)
  (q:R (Itr lo (hi - lo).toNat) H):AZ (AY X.prog X.w) X.A (PM (.ref s.heap.objs.size)) (PIE X l m tg R) E { s with heap:=s.heap.push { cls:=.type "range",data:=.fields #[.int lo t,.int hi u,.int 1 v] },toks:=B }:=by
 refine wpAny_pyIter_range (IsRange.new ..) (small_one G J L N) ?_
 have C:Inv X l m H { s with heap:=s.heap.push { cls:=.type "range",data:=.fields #[.int lo t,.int hi u,.int 1 v] },toks:=B }:=I.kept λb o e=>AG _ e
 refine⟨(s.heap.push { cls:=.type "range",data:=.fields #[.int lo t,.int hi u,.int 1 v] }).objs.size,[(s.heap.push { cls:=.type "range",data:=.fields #[.int lo t,.int hi u,.int 1 v] }).objs.size],_,_,H,rfl,
  C.kept (t':=B) λb o e=>AG _ e,V7 _ lo (hi - lo).toNat,?_,λb hb=>?_,q⟩
 ·have O:lo+((0:Nat):Int) * 1=lo:=by simp
  have P:(((hi - lo).toNat:Nat):Int) - ((0:Nat):Int)=oW lo hi 1:=by rw[rangeSize_one];split <;> grind
  show IsRangeIter _ _ (lo+((0:Nat):Int) * 1) ((((hi - lo).toNat:Nat):Int) - ((0:Nat):Int)) 1;rw[O,P];exact AQ _ rfl
 ·have e:b=(s.heap.push { cls:=.type "range",data:=.fields #[.int lo t,.int hi u,.int 1 v] }).objs.size:=by simpa using hb
  subst e;exact C.fpOk (AN _) (C.hok.fresh (AN _))
def qW(ta:TA):TI:=λl H R=>ta l H λvs m=>∃j:Int,vs=[.int j]/\-(2 ^ 62)<=j/\j < 2 ^ 62/\R (Itr 0 j.toNat) m
def qV(ta:TA):TI:=λl H R=>ta l H λvs m=>∃i j:Int,vs=[.int i,.int j]/\(-(2 ^ 62)<=i/\i < 2 ^ 62/\-(2 ^ 62)<=j/\j < 2 ^ 62)/\R (Itr i (j - i).toNat) m
theorem Yu{a}{ta}{p pos}(m:Gl X "range") (o:X.mg "range" = none) (w:PA X [a] ta) (hs:autoParam (AH [a] X.env=[(false,A6 a X.env)]) yq0q):PI X tg (.Call (.Name "range" p) [a] [] pos) (qW ta):=by
 intro A s B H R I h;refine Call_ (Jj I m o boot_range (Cg (thn (w pos A s B H _ I h) ?_) hs rfl));rintro L N ⟨vs,O,C,E,l⟩;obtain⟨j,e,l,G,q⟩:=l;subst e
 cases E with
 | cons r J=>
  cases J;obtain⟨t,rfl⟩:=r;exact call_range_1 (Ui C (by ext) (by ext) l G (by simpa using q))
theorem Yt(w:Gl X "range") (A:X.mg "range" = none) (B:PA X [a,b] ta) (hs:autoParam (AH [a,b] X.env=[(false,A6 a X.env),(false,A6 b X.env)]) yq0q) (o:autoParam (AH [b] X.env=[(false,A6 b X.env)]) yq0q) :
  PI X tg (.Call (.Name "range" p) [a,b] [] pos) (qV ta):=by
 intro C s E H R I h;refine Call_ (Jj I w A boot_range (Cg (thn (B pos C s E H _ I h) ?_) (by(try unfold zSp);rw[hs,o]) (by rw[o];rfl)));rintro Q S ⟨vs,T,G,J,l⟩;obtain⟨i,j,e,⟨l,L,N,O⟩,q⟩:=l;subst e
 cases J with
 | cons r m=>
  cases m with
  | cons P m=>
   cases m;obtain⟨t,rfl⟩:=r;obtain⟨U,rfl⟩:=P;exact call_range_2 (Ui G l L N O q)
def tFor(C:TI)(g:TG)(tb:TS):TS:=λD l H=>C l H λJ E=>∃W:Nat->Nat->St->Hp->Prop,(∃m,W 0 m l E)/\∀i m l H,W i m l H ->
 (J.stop i H/\D.nx l H)∨(J.go i H/\∃N:St->Hp->Prop,(∀o w,N o w->∃B,B < m/\W (i+1) B o w)/\∀x w,J.yld i H x w->g x l w λA G=>tb { D with nx:=N,ct:=N,bk:=D.nx } A G)
noncomputable def P8(l:List AL)(h:BI):List (AL×Obj):=l.filterMap λb=>(h.get? b).map λo=>(b,o)
theorem Jh(hb:b∈l)(e:h.get? b=some o):(b,o)∈P8 l h:=NC.mpr ⟨b,hb,by rw[e];rfl⟩
theorem Yy(l:p∈P8 m h):p.1∈m/\h.get? p.1=some p.2:=by
 obtain⟨b,hb,e⟩:=NC.mp l
 cases q:h.get? b with
 | none=>ext
 | some o=>
  grind
theorem Inv.pinned(I:Inv X l w H s)(A:∀b∈m,MM X l H b)(C:∀b∈m,∃o,s.heap.get? b=some o/\∀v,o.data≠.cell v):Inv X (l++P8 m s.heap) w H s:=
 I.pins_of λp B=>(Ak.mp B).elim (λz=>I.pin p (BV _ z)) λz=>by
  obtain⟨hb,e⟩:=Yy z;obtain⟨E,G,J,_⟩:=A p.1 hb
  grind
theorem Inv.unpinned(I:Inv X (l++pl) m H s):Inv X l m H s:=I.pins_of λp o=>I.pin p (BV _ (CM _ o))
theorem lR(P:oK (AY X.prog X.w) X.A X.env X.xe)(hc:X.calm=true)(hi:PI X tg iter wi)(hg:PG X tg g)(hb:PSs X Q tb)
  (hs:autoParam (∀x,B5 iter X.env x=pure x) yq2q):PS X (.For tg iter Q [] pos) (tFor wi g tb):=by
 intro O s σ H D I h;refine wpAny_For (thn (hi O s σ H _ I h) λv s1 h1=>thn h1 λitv s2 h2=>?_) hs;obtain⟨it,R,tn,J,H2,e,I2,T,mi,f2,W,⟨m0,w0⟩,S⟩:=h2;subst e
 have tX:∀{H':Hp},(∀b∈R,H' b=none)->∀b∈R,MM X O H' b:=λhn b hb=>⟨hn b hb,(f2 b hb).2⟩
 refine codeAny_forLoop_any (λn s'=>∃i B H',Inv X O B H' s'/\tn i s'.heap/\(∀b∈R,H' b=none)/\W i n B H') ?_ m0 ⟨0,σ,H2,I2,mi,λb hb=>(f2 b hb).1,w0⟩;rintro n s3 ⟨i,C,H3,I3,tR,U,w3⟩
 rcases S i n C H3 w3 with⟨Y,qn⟩ | ⟨go,N,hN,step⟩
 ·refine E5 P (thn (T.done X rfl rfl rfl hc i O s3 C H3 X.xe I3 (tX U) tR Y) ?_);rintro r s4 ⟨hr,I4⟩
  subst hr;exact MN ⟨C,H3,I4,qn⟩
 ·refine E5 P (thn (T.item X rfl rfl rfl hc i O s3 C H3 X.xe I3 (tX U) tR go) ?_);rintro r s4 ⟨u,hr,h4⟩
  subst hr;refine E5 P (thn h4 ?_);rintro _ s5 ⟨x,H5,I5,r5,y5,uV,fr5⟩;have zi:=I5.pinned (tX fr5) (T.obj _ _ uV);refine E5 P (thn (hg _ s5 C H5 x u _ zi r5 (step x H5 y5)) ?_);rintro _ s6 ⟨σ6,H6,I6,q6⟩;refine E5 P (thn (hb _ s6 σ6 H6 _ I6 q6) λf s7 L=>?_)
  have again:∀{l:St} {E:Hp},Inv X (O++P8 R s5.heap) l E s7->N l E->∃m,m < n/\∃i B H',Inv X O B H' s7/\tn i s7.heap/\(∀b∈R,H' b=none)/\W i m B H':=λ{l E} G Z=>by
   obtain⟨m',hm,w7⟩:=hN l E Z;refine⟨m',hm,i+1,l,E,G.unpinned,T.keep _ _ _ uV λb hb o e=>(G.pin (b,o) (BV _ (BV _ (Jh hb e)))).1,λb hb=>?_,w7⟩;obtain⟨o,e,d⟩:=T.obj _ _ uV b hb;exact(G.pin (b,o) (BV _ (BV _ (Jh hb e)))).2.1
  cases f with
  | next=>obtain⟨l,E,G,Z⟩:=L;exact again G Z
  | cont=>obtain⟨l,E,G,Z⟩:=L;exact again G Z
  | brk=>obtain⟨l,E,G,L⟩:=L;exact⟨l,E,G.unpinned,L⟩
  | ret v=>obtain⟨x7,l,E,G,r7,L⟩:=L;exact⟨x7,l,E,G.unpinned,r7,L⟩
end
abbrev R2:=V->V->Hp->VK->Prop
def OpR(X:Cx)(f:AD->AD->Sem AD)(r:R2):Prop:=
 ∀(l:List (AL×Obj)) (s:AK) (m:St) (H:Hp) (x y:V) (v u:AD) (Q:VK),Inv X l m H s->RelV x v->RelV y u->r x y H Q ->
  AZ (AY X.prog X.w) X.A (f v u) (EP X l m Q) X.xe s
def UnR(X:Cx)(f:AD->Sem AD)(r:V->Hp->VK->Prop):Prop:=
 ∀(l:List (AL×Obj)) (s:AK) (m:St) (H:Hp) (x:V) (v:AD) (Q:VK),Inv X l m H s->RelV x v->r x H Q ->
  AZ (AY X.prog X.w) X.A (f v) (EP X l m Q) X.xe s
def G8(X:Cx)(f:AD)(r:List V->Hp->VK->Prop):Prop:=
 ∀(l:List (AL×Obj)) (s:AK) (m:St) (H:Hp) (o:List V) (B:List AD) (Q:VK),Inv X l m H s->Bp o B->r o H Q ->
  AZ (AY X.prog X.w) X.A (call f B) (EP X l m Q) X.xe s
def TruR(X:Cx)(r:V->Hp->(Bool->Hp->Prop)->Prop):Prop:=
 ∀(l:List (AL×Obj)) (s:AK) (m:St) (H:Hp) (x:V) (v:AD) (Q:Bool->Hp->Prop),Inv X l m H s->RelV x v->r x H Q ->
  AZ (AY X.prog X.w) X.A (NE v) (TP X l m Q) X.xe s
def tOp(r:R2)(ta tb:TE):TE:=λl H Q=>ta l H λx m=>tb l m λy o=>r x y o Q
def tUn(r:V->Hp->VK->Prop)(ta:TE):TE:=λl H Q=>ta l H λx m=>r x m Q
def rI(C:Int->Int->Prop)(g:Int->Int->V):R2:=λx y H Q=>∃i j,x=.int i/\y=.int j/\C i j/\Q (g i j) H
def rI0(g:Int->Int->V):R2:=λx y H Q=>∃i j,x=.int i/\y=.int j/\Q (g i j) H
def rU(g:Int->V):V->Hp->VK->Prop:=λx H Q=>∃i,x=.int i/\Q (g i) H
section
variable{X:Cx}{a b:Expr}{ta tb:TE}{pos:Pos}
theorem nH(J:PE X a ta)(hb:PE X b tb){C:List (AL×Obj)}{s:AK}{l:St}{H:Hp}{R:V->V->Hp->Prop}(I:Inv X C l H s)
  (h:ta l H λx G=>tb l G λy m=>R x y m) {Q:AD->AK->Prop} {f:AD->AD->Sem AD}
  (L:∀v u E x y m,Inv X C l m E->RelV x v->RelV y u->R x y m->AZ (AY X.prog X.w) X.A (f v u) Q X.xe E) :
  AZ (AY X.prog X.w) X.A (A6 a X.env) (λv o=>AZ (AY X.prog X.w) X.A (A6 b X.env) (λu B=>AZ (AY X.prog X.w) X.A (f v u) Q X.xe B) X.xe o) X.xe s:=by
 refine thn (J C s l H _ I h) ?_;rintro v N ⟨x,G,O,P,S⟩
 refine thn (hb C N l G _ O S) ?_;rintro u E ⟨y,m,T,U,Y⟩
 exact L v u E x y m T P U Y
theorem ba{op:NM}{r:R2}(l:OpR X (EL op) r)(m:PE X a ta)(hb:PE X b tb):PE X (.BinOp a op b pos) (tOp r ta tb):=by
 intro o s w H Q I h;exact wpAny_BinOp (nH m hb I h λv u A x y B C E G q=>l o A w B x y v u Q C E G q)
theorem qC(o:UnR X (unaryOp op) r)(w:PE X a ta):PE X (.UnaryOp op a pos) (tUn r ta):=by
 intro l s m H Q I h;exact UnaryOp_ (thn (w l s m H _ I h) (by rintro v A ⟨x,B,C,E,G⟩;exact o l A m B x v Q C E G))
theorem opI{f:AD->AD->Sem AD}{C:Int->Int->Prop}{g:Int->Int->Int}
  (rule:∀(i j:Int) (t u:Tok) (s:AK) (Q:AD->AK->Prop) (E:AD->AK->Prop),C i j->Q (.int (g i j) s.toks) { s with toks:=s.toks+1 }->AZ (AY X.prog X.w) X.A (f (.int i t) (.int j u)) Q E s) :
  OpR X f (rI C λi j=>.int (g i j)):=by
 intro G s J H x y v u Q I l m h;obtain⟨i,j,rfl,rfl,o,q⟩:=h;obtain⟨t,rfl⟩:=l;obtain⟨B,rfl⟩:=m;exact rule i j t B s _ _ o ⟨.int (g i j),H,I.tok _,⟨_,rfl⟩,q⟩
theorem mB{f:AD->AD->Sem AD}{g:Int->Int->Int}
  (rule:∀(i j:Int) (t u:Tok) (s:AK) (Q:AD->AK->Prop) (E:AD->AK->Prop),Q (.int (g i j) s.toks) { s with toks:=s.toks+1 }->AZ (AY X.prog X.w) X.A (f (.int i t) (.int j u)) Q E s) :
  OpR X f (rI0 λi j=>.int (g i j)):=by
 intro B s C H x y v u Q I l m h;obtain⟨i,j,rfl,rfl,q⟩:=h;obtain⟨t,rfl⟩:=l;obtain⟨o,rfl⟩:=m;exact rule i j t o s _ _ ⟨.int (g i j),H,I.tok _,⟨_,rfl⟩,q⟩
theorem hW{f:AD->AD->Sem AD}{g:Int->Int->Bool}
  (rule:∀(i j:Int) (t u:Tok) (s:AK) (Q:AD->AK->Prop) (E:AD->AK->Prop),Q (.bool (g i j)) s->AZ (AY X.prog X.w) X.A (f (.int i t) (.int j u)) Q E s) :
  OpR X f (rI0 λi j=>.bl (g i j)):=by
 intro B s C H x y v u Q I l m h;obtain⟨i,j,rfl,rfl,q⟩:=h;obtain⟨t,rfl⟩:=l;obtain⟨o,rfl⟩:=m;exact rule i j t o s _ _ ⟨.bl (g i j),H,I,rfl,q⟩
def nP(i j:Int):Prop:=0 < j/\j < 1073741824
noncomputable def nO(i j:Int):Prop:=0<=j/\j<=1000000/\i.natAbs < 2 ^ 64
def dR(i j:Int):Prop:=(-(2 ^ 64) < i/\i < 2 ^ 64)∨(-(2 ^ 64) < j/\j < 2 ^ 64)
theorem dR.ok(h:dR i j):IntMulOk i j:=by
 rcases h with⟨l,m⟩ | ⟨l,m⟩
 ·exact .of_left (intBits_le_64 l m)
 ·exact .of_right (intBits_le_64 l m)
theorem V5(k:Nat):(0:Int)<=2 ^ k:=by
 lia
theorem l8:OpR X (EL .Add) (rI0 λi j=>.int (i+j)):=mB λG G G G G G G q=>add_int q
theorem lr:OpR X (EL .Sub) (rI0 λi j=>.int (i - j)):=mB λG G G G G G G q=>sub_int q
theorem ly:OpR X (EL .Mult) (rI dR λi j=>.int (i * j)):=opI λG G G G G G G l q=>mul_int q l.ok
theorem g9:OpR X (EL .FloorDiv) (rI nP λi j=>.int (i / j)):=opI λi j G G G G G l q=>by
 have m:(0:Int) < j:=l.1;have o:j < 1073741824:=l.2;exact floordiv_int ∅ (by rw[SX i ∅];exact q) (.inl (PyProof.noPylong_small (by grind)))
theorem lz:OpR X (EL .Mod) (rI (λG j=>0 < j) λi j=>.int (i % j)):=opI λi j G G G G G l q=>by
 have m:(0:Int) < j:=l;exact mod_int' ∅ (by rw[Int.fmod_eq_emod_of_nonneg i ∅];exact q)
theorem lw:OpR X (EL .LShift) (rI nO λi j=>.int (i * 2 ^ j.toNat)):=opI λG G G G G G G l q=>lshift_int_small l.1 l.2.1 l.2.2 q
theorem ls:OpR X (EL .RShift) (rI (λG j=>0<=j) λi j=>.int (i / 2 ^ j.toNat)):=opI λi j G G G G G l q=>
 rshift_int l (by rw[SX i (V5 _)];exact q)
theorem l6:OpR X (EL .BitAnd) (rI0 λi j=>.int (BE i j)):=mB λG G G G G G G q=>and_int q
theorem unI{f:AD->Sem AD}{g:Int->Int}
  (rule:∀(i:Int) (t:Tok) (s:AK) (Q:AD->AK->Prop) (E:AD->AK->Prop),Q (.int (g i) s.toks) { s with toks:=s.toks+1 }->AZ (AY X.prog X.w) X.A (f (.int i t)) Q E s) :
  UnR X f (rU λi=>.int (g i)):=by
 intro m s o H x v Q I l h;obtain⟨i,rfl,q⟩:=h;obtain⟨t,rfl⟩:=l;exact rule i t s _ _ ⟨.int (g i),H,I.tok _,⟨_,rfl⟩,q⟩
theorem kS:UnR X (unaryOp .USub) (rU λi=>.int (-i)):=unI λG G G G G q=>neg_int q
end
section
variable{X:Cx}{a b c:Expr}{ta tb tc:TE}{pos:Pos}
theorem bq:OpR X (Bo .Lt) (rI0 λi j=>.bl (decide (i < j))):=hW λG G G G G G G q=>lt_int q
theorem Ut:OpR X (Bo .LtE) (rI0 λi j=>.bl (decide (i<=j))):=hW λG G G G G G G q=>le_int q
theorem qF:OpR X (Bo .Gt) (rI0 λi j=>.bl (decide (j < i))):=hW λG G G G G G G q=>gt_int q
theorem qG:OpR X (Bo .GtE) (rI0 λi j=>.bl (decide (j<=i))):=hW λG G G G G G G q=>ge_int q
theorem Gq(b:Expr)(h:autoParam (op≠.In) yq1q)(o:autoParam (op≠.NotIn) yq1q):BF op b=false:=by
 have l:(op==T2.In)=false:=by cases op <;> first | rfl | trivial
 have m:(op==T2.NotIn)=false:=by cases op <;> first | rfl | trivial
 cases b <;> simp[BF,l,m]
theorem O5{op:T2}{r:R2}(l:OpR X (Bo op) r)(m:PE X a ta)(hb:PE X b tb)(o:BF op b=false):PE X (.Compare a [op] [b] pos) (tOp r ta tb):=by
 intro w s A H Q I h;exact wpAny_Compare1 (nH m hb I h λv u B x y C E G J q=>l w B A C x y v u Q E G J q) o
def jK(t:TE):TT:=λl H Q=>t l H λx m=>∃k,x=.bl k/\Q k m
theorem O0(o:OpR X (Bo op) r)(w:PE X a ta)(hb:PE X b tb)(A:BF op b=false):PT X (.Compare a [op] [b] pos) (jK (tOp r ta tb)):=by
 intro l s m H Q I h
 refine dW (thn (w l s m H _ I h) λv B ⟨x,C,E,G,J⟩=>thn (hb l B m C _ E J) λu L ⟨y,N,O,P,R⟩=>
  thn (o l L m N x y v u _ O G P R) ?_) A;rintro c Z ⟨z,S,T,U,k,e,Y⟩
 subst e;cases U;exact CL ⟨S,T,Y⟩
def kn(r o:R2)(ta tb tc:TE):TE:=λl H Q=>ta l H λx w=>tb l w λy A=>r x y A λz m=>∃k,z=.bl k /\
 (if k=true then tc l m λB C=>o y B C Q else Q (.bl false) m)
theorem Uk(E:OpR X (Bo op) r)(G:OpR X (Bo o) J)(L:PE X a ta)(hb:PE X b tb)(N:PE X c tc)
  (O:autoParam (lastMarks [op,o] [b,c]=false) yq5q):PT X (.Compare a [op,o] [b,c] pos) (jK (kn r J ta tb tc)):=by
 intro l s m H Q I h
 refine isTrue_chain (thn (L l s m H _ I h) λv P ⟨x,R,S,T,U⟩=>test_link (thn (hb l P m R _ S U) λu Y ⟨y,Z,I2,w,q2⟩=>
  thn (E l Y m Z x y v u _ I2 T w q2) λd s3 ⟨z,A,B,r3,k,e,C⟩=>?_)) O
 subst e;cases r3;refine CL ?_
 cases k with
 | false=>
  obtain⟨k',e',q'⟩:=C;cases e';exact ite_ff ⟨A,B,q'⟩
 | true=>
  refine ite_tt (test_last (thn (N l s3 m A _ B C) λw' s4 ⟨z',H4,I4,r4,q4⟩=>thn (G l s4 m H4 y z' u w' _ I4 w r4 q4) λd' s5 ⟨z2,H5,I5,r5,k2,e2,q5⟩=>?_));subst e2;cases r5;exact CL ⟨H5,I5,q5⟩
def VM(K:AB)(x:V)(H:Hp)(k:Bool):Prop:=
 match x with
 | .non=>k=false
 | .bl b=>k=b
 | .int i=>k=(i != 0)
 | .str y=>y.length<=sizeLine/\k=((y.length:Int) != 0)
 | .byt y=>y.size<=sizeLine/\k=((y.size:Int) != 0)
 | .ref p=>(∃l,SqL K H p l/\k = !l.isEmpty)∨(∃l,SqT K H p l/\k = !l.isEmpty)∨∃m,H p=some (.dK m)/\k = !m.isEmpty
 | _=>False
theorem Wb{l:Type}{kvs:List (l×V)}{vs:List (l×AD)}(r:KV kvs vs):(!vs.isEmpty) = !kvs.isEmpty:=by
 cases r <;> rfl
theorem QN(r:Bp xs l):(!l.toArray.isEmpty) = !xs.isEmpty:=by
 cases r <;> simp
theorem Nk:(sizeLine:Nat) < 2 ^ 63:=by rw[Tt];decide
theorem kU:TruR X (λx H Q=>∃k,VM X.K x H k/\Q k H):=by
 intro R s S H x v Q I C h;obtain⟨k,e,q⟩:=h;have T:=Nk;have U:sizeLine=16777216:=Tt
 cases x with
 | non=>
  cases C;have l:k=false:=e;subst l;exact truthy_none ⟨H,I,q⟩
 | bl b=>
  cases C;have l:k=b:=e;subst l;exact CL ⟨H,I,q⟩
 | int i=>
  obtain⟨t,rfl⟩:=C;have l:k=(i != 0):=e;subst l;exact PySem.P.truthy_int ⟨H,I,q⟩
 | str y=>
  obtain⟨t,rfl⟩:=C;obtain⟨L,l⟩:y.length<=sizeLine/\k=((y.length:Int) != 0):=e;subst l;exact PySem.P.truthy_str ∅ ⟨H,I.tok _,q⟩
 | byt y=>
  obtain⟨t,rfl⟩:=C;obtain⟨L,l⟩:y.size<=sizeLine/\k=((y.size:Int) != 0):=e;subst l;exact PySem.W.truthy_bytes ∅ ⟨H,I.tok _,q⟩
 | ref p=>
  cases C
  have l:(∃B,SqL X.K H p B/\k = !B.isEmpty)∨(∃B,SqT X.K H p B/\k = !B.isEmpty)∨∃o,H p=some (.dK o)/\k = !o.isEmpty:=e
  rcases l with⟨B,E,l⟩ | ⟨B,E,l⟩ | ⟨o,E,l⟩
  ·subst l
   obtain⟨N,r,G,J⟩:=I.list E;have A:=r.length;exact wpAny_truthy_list G.isList (by simp only[BU];lia) ⟨H,I.tok _,by rw[QN r];exact q⟩
  ·subst l
   obtain⟨N,r,G,J⟩:=I.tuple E;have A:=r.length;exact truthy_tuple G (by simp only[BU];lia) ⟨H,I.tok _,by rw[QN r];exact q⟩
  ·subst l
   obtain⟨J,O,vs,r,m⟩:o.length<=sizeLine/\(p==B0)=false/\∃vs,KV o vs/\s.heap.DictOf (Dm X.prog X.w) p vs:=I.hok p _ E
   have A:o.length=vs.length:=Cw r;exact wpAny_truthy_dict O m ∅ ⟨H,I.tok _,by rw[Wb r];exact q⟩
 | _=>exact(show False from e).elim
theorem P7(w:PE X a ta)(A:∀l,KG a X.env l=(do let v <-l;Ir a.pos;Fn [v] (NE v))) :
  PT X a (λm H Q=>ta m H λx H'=>∃k,VM X.K x H' k/\Q k H'):=by
 intro o s m H Q I h;exact isTrue_plain (thn (w o s m H _ I h) (by rintro v B ⟨x,C,E,G,J⟩;exact kU o B m C x v Q E G J)) (A _)
theorem vals1(r:Bp [x] us):∃u,us=[u]/\RelV x u:=by
 cases r with
 | cons l m=>cases m;exact⟨_,rfl,l⟩
theorem vals2(r:Bp [x,y] us):∃u w',us=[u,w']/\RelV x u/\RelV y w':=by
 cases r with
 | cons l m=>
  cases m with
  | cons o w=>cases w;exact⟨_,_,rfl,l,o⟩
theorem ZR(m:X.calm=true):G8 X (.builtin "max") (λxs H Q=>∃i j,xs=[.int i,.int j]/\Q (.int (if j > i then j else i)) H):=by
 intro o s w H xs A Q I r h;obtain⟨i,j,rfl,q⟩:=h;obtain⟨u,B,rfl,⟨t,rfl⟩,⟨C,rfl⟩⟩:=vals2 r
 refine max_two_ints (I.ok.hd m) λE G k=>⟨_,H,I.kept k,?_,q⟩
 by_cases l:j > i
 ·rw[qX l,qX l];exact⟨_,rfl⟩
 ·rw[qY l,qY l];exact⟨_,rfl⟩
theorem ZQ(m:X.calm=true):G8 X (.builtin "min") (λxs H Q=>∃i j,xs=[.int i,.int j]/\Q (.int (if j < i then j else i)) H):=by
 intro o s w H xs A Q I r h;obtain⟨i,j,rfl,q⟩:=h;obtain⟨u,B,rfl,⟨t,rfl⟩,⟨C,rfl⟩⟩:=vals2 r
 refine min_two_ints (I.ok.hd m) λE G k=>⟨_,H,I.kept k,?_,q⟩
 by_cases l:j < i
 ·rw[qX l,qX l];exact⟨_,rfl⟩
 ·rw[qY l,qY l];exact⟨_,rfl⟩
theorem ZT:G8 X (.type "int") (λxs H Q=>(∃i,xs=[.int i]/\Q (.int i) H)∨∃k,xs=[.bl k]/\Q (.int (if k then 1 else 0)) H):=by
 intro m s o H xs w Q I r h
 rcases h with⟨i,rfl,q⟩ | ⟨k,rfl,q⟩
 ·obtain⟨u,rfl,t,rfl⟩:=vals1 r
  exact call_int_int ⟨.int i,H,I,⟨_,rfl⟩,q⟩
 ·obtain⟨u,rfl,l⟩:=vals1 r
  cases l;exact call_int_bool ⟨.int (if k then 1 else 0),H,I.tok _,⟨_,rfl⟩,q⟩
end
structure Ww(h:BI)(x dx C:AL)(mA:Str->Option AD):Prop where
 obj:h.get? x=some (Dr C dx)
 ns:h.Ns1 dx mA
 ne:dx≠x
set_option tactic.hygienic true in
theorem Y2{h:BI}{l:AL}{m:Str->Option AD}(n:h.Ns1 l m):∃w,h.get? l=some w/\∀name,KH name w=some (m name):=by
 obtain⟨o,A,J,B,C,E,_,G⟩:=n;refine⟨o,B,λname=>?_⟩;have e:=G name;unfold nsFind findBy at e;rw[<-Array.find?_toList]at e;unfold KH;rw[C];symm;split
 ·ext
 ·rename_i q
  rw[q]at e
  have a:A.toList.any (·.refKey)=false:=by
   rw[Zv];intro y H;obtain⟨z,t,I⟩:=E y (BB.mp H);simp[LZ.refKey,I]
  grind
theorem Ww.look{h}{x m C}{o}(I:Ww h x m C o):∃l,PySem.W.InstAt h x (Dr C m) C (some l)/\∀name,KH name l=some (o name):=
 let ⟨l,w,A⟩:=Y2 I.ns
 ⟨l,⟨I.obj,rfl,rfl,w⟩,A⟩
section
variable{prog:Al}{w:A1}{A:BP}{E:AD->AK->Prop}{s:AK}{K:AB}{x dx C f:AL}{mA:Str->Option AD}{name:Str}{v:AD}
theorem iO(X:K.In s.heap)(I:Ww s.heap x dx C mA)(l:Iv K C name=true)(m:MZ K C=true)
  (o:DH K (.ref C) name=some none) (B:mA name=some v) (G:YM v=true) (h:Q v { s with toks:=s.toks+1 }) :
  AZ (AY prog w) A (getAttr (.ref x) name expr) Q E s:=by
 obtain⟨L,J,H⟩:=I.look;exact PySem.W.get_value X J (LX l).1 (PySem.W.findObj_own m o rfl (by rw[H,B])) G h
theorem cf(X:K.In s.heap)(I:Ww s.heap x dx C mA)(l:Iv K C name=true)
  (m:DH K (.ref C) name=some (some (.ref f))) (o:SO K (.ref f)=true) (G:mA name=none) (h:Q (.ref f,[.ref x]) s) :
  AZ (AY prog w) A (Zb (.ref x) name pl) Q E s:=by
 obtain⟨B,J,H⟩:=I.look;exact PySem.W.method_fn X J (LX l).1 (LX l).2 m (beq_iff_eq.mp o) (by show(KH name B).map (·.isSome)=some false;ext) h
theorem gQ(X:K.In s.heap)(I:Ww s.heap x dx C mA)
  (hs:DH K (.ref C) "__setattr__" = some (some (.builtin "object.__setattr__"))) (L:Wz K C=true) (N:OT K C name=some none) (O:MZ K C=true)
  (hw:T7 mA P) (hsz:P.length<=sizeLine)
  (h:∀h',Ww h' x dx C (λy=>if y=name then some v else mA y)->DM dx s.heap h'->Q () { s with heap:=h',toks:=s.toks+2 }) :
  AZ (AY prog w) A (setAttr (.ref x) name v) Q E s:=by
 obtain⟨Y,J,Z⟩:=I.look;refine PySem.W.set_plain X J hs (PySem.W.osa_open (s:={ s with toks:=s.toks+1 }) (r:=none) X J L N λb=>?_);obtain⟨cd,R,l⟩:=PySem.W.any_some O;have S:s.heap.get? x=some ⟨.ref C,some dx,.plain,#[]⟩:=I.obj;refine AA (AC (AA (AA (wpAny_loadPart S (AA (oJ (s:={ s with toks:=s.toks+1 }) (PySem.W.looks_clsIn X R) ?_))))));rw[l];refine AC (a:=some dx) (AA (AC (AA ?_)))
 refine wpAny_nsSet1 (s:={ s with toks:=s.toks+1 }) I.ns λh' G H=>?_
 obtain⟨oD,T,U,m,o,B⟩:=G.count (rE name v hw);refine AA (wpAny_lookBehind m (by rw[o];exact pastItsLine_dict (A7 B ∅)) ?_);exact AC (h _ ⟨(H.2 _ (CO I.ne)).trans I.obj,G,I.ne⟩ H)
theorem cC(X:K.In s.heap)(m:Zg K C=true)
  (hi:DH K (.ref C) "__init__" = some (some (.ref f))) (o:PySem.W.typeIn K (.ref f)=some (.type "function"))
  (h:HE (AY prog w) (A.under (.builtin "type.__call__" ⟨.ref C :: vs,l⟩)) (.call (.ref f) ⟨.ref (s.heap.objs.size+1) :: vs,l⟩) (PySem.W.InitBack (s.heap.objs.size+1) R)
   { s with heap:=(s.heap.push Cv).push (Dr C s.heap.objs.size) }) :
  HE (AY prog w) A (.call (.ref C) ⟨vs,l⟩) R s:=by
 obtain⟨B,g,d,t,os⟩:=s;exact PySem.W.make_core (PySem.W.makes_of X m) (PySem.W.looks_findIn X hi) (λself=>PySem.W.bind_fn X self o) (.inl rfl) h
end
noncomputable def putF(f:Str)(v:V):List (Str×V)->List (Str×V)
 | []=>[(f,v)]
 | (g,x) :: r=>if g=f then(g,v) :: r else(g,x) :: putF f v r
theorem Kt(f g:Str)(v:V):∀fs:List (Str×V),(putF f v fs).lookup g=if g=f then some v else fs.lookup g
 | []=>by
  show Li g [(f,v)]=_
  grind
 | (k,x) :: r=>by
  have l:=Kt f g v r;rw[show putF f v ((k,x) :: r)=(if k=f then(k,v) :: r else(k,x) :: putF f v r)from rfl]
  grind
theorem Nn(f:Str)(v:V):∀fs:List (Str×V),f∈(putF f v fs).map (·.1)/\∀g,g∈fs.map (·.1)->g∈(putF f v fs).map (·.1)
 | []=>⟨by simp[putF],λg h=>by simp at h⟩
 | (k,x) :: r=>by
  obtain⟨l,m⟩:=Nn f v r;rw[show putF f v ((k,x) :: r)=(if k=f then(k,v) :: r else(k,x) :: putF f v r)from rfl]
  grind
theorem OP(f:Str)(v:V):∀fs:List (Str×V),(putF f v fs).length<=fs.length+1
 | []=>by simp[putF]
 | (k,x) :: r=>by
  have m:=OP f v r;rw[show putF f v ((k,x) :: r)=(if k=f then(k,v) :: r else(k,x) :: putF f v r)from rfl]
  by_cases l:k=f
  ·rw[qX l,Am,Am];ext
  ext
theorem JK.some_of(r:JK (some v) o):∃u,o=some u/\RelV v u:=by
 cases o with
 | none=>exact(show False from r).elim
 | some u=>exact⟨u,rfl,r⟩
theorem JK.none_of(r:JK none o):o=none:=by
 cases o with
 | none=>rfl
 | some u=>exact(show False from r).elim
theorem ZB(r:RelV v u):YM u=true:=by
 cases v with
 | non=>cases(show u=C0 from r);rfl
 | bl b=>cases(show u=MX b from r);rfl
 | int i=>obtain⟨t,e⟩:=(show ∃t,u=Ft i t from r);cases e;rfl
 | str x=>obtain⟨t,e⟩:=(show ∃t,u=OS x t from r);cases e;rfl
 | byt b=>obtain⟨t,e⟩:=(show ∃t,u=nZ b t from r);cases e;rfl
 | flt b=>obtain⟨t,e⟩:=(show ∃t,u=Vl b t from r);cases e;rfl
 | ref a=>cases(show u=AV a from r);rfl
 | ty n=>cases(show u=Fo n from r);rfl
section
variable{P:Al}{w:A1}{H:Hp}{h:BI}{a C dx:AL}{fs:List (Str×V)}
theorem O9(m:HOk P w H h)(e:H a=some (.ins C dx fs)):∃l,Ww h a dx C l/\(∀f,JK (fs.lookup f) (l f))/\T7 l (fs.map (·.1))/\fs.length<=1000/\H dx=some (.own a):=by
 obtain⟨d,z,ne,ob,l,n,r,q⟩:=(show CS P w H h a (.ins C dx fs)from m a _ e);exact⟨l,⟨ob,n,ne⟩,r,q,z,d⟩
end
structure Cls(K:AB)(C:AL):Prop where
 pg:Iv K C Str.empty=true
 hd:MZ K C=true
 po:Wz K C=true
 sa:DH K (.ref C) "__setattr__" = some (some (.builtin "object.__setattr__"))
theorem Cls.get{K}{C}(c:Cls K C)(f:Str):Iv K C f=true:=c.pg
def Cj(K:AB)(C:AL)(f:Str):Prop:=DH K (.ref C) f=some none
theorem Cj.taker{K}{C}{f}(n:Cj K C f):OT K C f=some none:=by
 unfold OT;rw[show DH K (.ref C) f=some none from n];rfl
structure Tp(K:AB)(C:AL)(m:Str)(f:AL):Prop where
 at_:DH K (.ref C) m=some (some (.ref f))
 fn:SO K (.ref f)=true
 kp:F5 K (.ref f)=true
section
variable{X:Cx}{ζ:List (AL×Obj)}{σ:St}{H:Hp}{s:AK}{a C dx:AL}{fs:List (Str×V)}{f:Str}{v:V}{A:BP}{E:AD->AK->Prop}
theorem Wf(I:Inv X ζ σ H s)(e:H a=some (.ins C dx fs))(c:Cls X.K C)(n:Cj X.K C f)(l:fs.lookup f=some v)
  (h:∀u s',Inv X ζ σ H s'->RelV v u->Q u s'):AZ (AY X.prog X.w) A (getAttr (.ref a) f b) Q E s:=by
 obtain⟨B,O,r,_,_,_⟩:=O9 I.hok e;obtain⟨u,G,m⟩:=JK.some_of (v:=v) (o:=B f) (by grind);exact iO I.kIn O (c.get f) c.hd n G (ZB m) (h u _ (I.tok _) m)
theorem We(I:Inv X ζ σ H s)(e:H a=some (.ins C dx fs))(c:Cls X.K C)(k:Tp X.K C m g)(l:fs.lookup m=none)
  (h:Q (.ref g,[.ref a]) s):AZ (AY X.prog X.w) A (Zb (.ref a) m pl) Q E s:=by
 obtain⟨o,O,r,_,_,_⟩:=O9 I.hok e;have B:o m=none:=JK.none_of (by grind);exact cf I.kIn O (c.get m) k.at_ k.fn B h
theorem WH(I:Inv X ζ σ H s)(e:H a=some (.ins C dx fs))(c:Cls X.K C)(n:Cj X.K C f)(hl:fs.length < 1000)(G:RelV y u)
  (h:∀s',Inv X ζ σ (upd H a (.ins C dx (putF f y fs))) s'->Q () s'):AZ (AY X.prog X.w) A (setAttr (.ref a) f u) Q E s:=by
 obtain⟨J,O,r,m,_,B⟩:=O9 I.hok e
 have L:(fs.map (·.1)).length<=sizeLine:=by rw[AF,Tt];lia
 refine gQ I.kIn O c.sa c.po n.taker c.hd m L λN l P=>h _ ?_
 have R:∃o,N.get? dx=some o:=let ⟨o,_,_,S,_⟩:=l.ns;⟨o,S⟩
 refine I.write (x:=a) (e:=dx) (by rw[e];exact D8) (.inr B) (λb q hb z=>(P.2 b hb).trans z) R ?_;refine⟨by rw[AO O.ne];exact B,?_,O.ne,l.obj,_,l.ns,λg=>?_,λg T=>?_⟩
 ·have:=OP f y fs;lia
 ·show JK ((putF f y fs).lookup g) (if g=f then some u else J g)
  rw[Kt]
  by_cases q:g=f
  ·rw[qX q,qX q];exact G
  ext
 ·by_cases q:g=f
  ·rw[q];exact(Nn f y fs).1
  ·refine(Nn f y fs).2 g (m g λz=>T ?_)
   ext
theorem Inv.made(I:Inv X ζ σ H s):Inv X ζ σ (upd (upd H s.heap.objs.size (.own (s.heap.objs.size+1))) (s.heap.objs.size+1) (.ins C s.heap.objs.size []))
  { s with heap:=(s.heap.push Cv).push (Dr C s.heap.objs.size) }:=by
 have l:(s.heap.push Cv).get? s.heap.objs.size=some Cv:=AQ s.heap rfl
 have m:((s.heap.push Cv).push (Dr C s.heap.objs.size)).get? (s.heap.objs.size+1)=some (Dr C s.heap.objs.size):=by
  have:=AQ (s.heap.push Cv) (o:=Dr C s.heap.objs.size) rfl;rwa [C2]at this
 have w:(s.heap.push Cv).Ns s.heap.objs.size (λM=>none):=⟨Cv,#[],_,l,rfl,(λe B=>zX B ∅),λM=>rfl⟩;have G:=I.laid (a:=s.heap.objs.size) (o:=.own (s.heap.objs.size+1)) (h':=s.heap.push Cv) (t':=s.toks) (λb u q=>AG _ q) (AN _) ⟨_,l⟩;refine G.laid (a:=s.heap.objs.size+1) (o:=.ins C s.heap.objs.size []) (t':=s.toks) (λb u q=>AG _ q) (oO (C2 _ _)) ?_;have ne:s.heap.objs.size≠s.heap.objs.size+1:=Ao (FP _);refine⟨by rw[AO ne,Ar],Bc _,ne,m,λM=>none,(BI.Ns1.of_empty w).at λo q=>AG _ q,λM=>D8,λy J=>zX rfl J⟩
theorem il(hb:Bi e f l (A6 e l)=A6 e l)
  (h:AZ (AY prog w) A (A6 e l) (λo m=>AZ (AY prog w) A (getAttr o f true) Q E m) E s):AZ (AY prog w) A (A6 (.Attribute e f pos) l) Q E s:=
 Attribute_any_ h (by rw[arm_eval_Attribute,hb])
end
def tFld(K:AB)(ta:TE)(f:Str):TE:=λm H Q=>ta m H λx l=>∃a C o fs v,x=.ref a/\l a=some (.ins C o fs)/\Cls K C/\Cj K C f/\fs.lookup f=some v/\Q v l
def sFld(K:AB)(ta w:TE)(f:Str):TS:=λD l H=>w l H λy A=>ta l A λx m=>∃a C o fs,x=.ref a/\m a=some (.ins C o fs)/\Cls K C/\Cj K C f/\fs.length < 1000 /\
 D.nx l (upd m a (.ins C o (putF f y fs)))
section
variable{X:Cx}{o e value:Expr}{f:Str}{pos pos':Pos}{ta tv:TE}
theorem Ja(m:PE X e ta)(hb:Bi e f X.env (A6 e X.env)=A6 e X.env):PE X (.Attribute e f pos) (tFld X.K ta f):=by
 intro w s A H Q I h;refine il hb (thn (m w s A H _ I h) ?_);rintro u P ⟨x,B,E,G,a,C,R,fs,v,J,L,c,n,l,q⟩;subst J;obtain rfl:u=AV a:=G
 exact Wf E L c n l λS T N O=>⟨v,B,N,O,q⟩
theorem bU(A:PE X o ta)(B:PE X value tv)(hs:Bb value (some (.Attribute o f pos')) pos.line X.env=pure false):PS X (.Assign [.Attribute o f pos'] value pos) (sFld X.K ta tv f):=by
 intro w s m H D I h;refine plainObj_wpAny_Assign_Attribute (thn (B w s m H _ I h) λu E ⟨y,G,J,L,q⟩=>thn (A w E m G _ J q) ?_) hs;rintro N U ⟨x,Y,O,P,a,C,Z,fs,Q,R,c,n,l,S⟩;subst Q;obtain rfl:N=AV a:=P
 exact WH O R c n l L λs3 T=>⟨m,_,T,S⟩
end
section
variable{X:Cx}{ζ:List (AL×Obj)}{σ:St}{H:Hp}{s:AK}{A:BP}{E:AD->AK->Prop}{Q:AD->AK->Prop}{c:AD}{b:Bool}
set_option genInjectivity true in
inductive M9(K:AB)(H:Hp):V->AD->Prop where
 | non:M9 K H .non (.type "NoneType")
 | bl (x:Bool):M9 K H (.bl x) (.type "bool")
 | int (i:Int):M9 K H (.int i) (.type "int")
 | str (x:Str):M9 K H (.str x) (.type "str")
 | flt (x:UInt64):M9 K H (.flt x) (.type "float")
 | lst {a:AL} {xs:List V} (e:H a=some (.lst xs)):M9 K H (.ref a) (.type "list")
 | frz {a:AL} {o:Obj} {xs:List V} (e:H a=some (.frz o (.lst xs))):M9 K H (.ref a) (.type "list")
 | tup {a:AL} {xs:List V} (e:H a=some (.tup xs)):M9 K H (.ref a) (.type "tuple")
 | dK {a:AL} {kvs:List (Key×V)} (e:H a=some (.dK kvs)):M9 K H (.ref a) (.type "dict")
 | dT {a:AL} {kvs:List (List Key×V)} (e:H a=some (.dT kvs)):M9 K H (.ref a) (.type "dict")
 | ins {a C dx:AL} {fs:List (Str×V)} (e:H a=some (.ins C dx fs)) (cl:Cls K C) (ha:DH K (.ref C) "__class__" = some (some (.builtin "object.__class__")))
   (hn:PySem.W.specialIn K (.builtin "object.__class__") "__get__" = some (some (.builtin "getset_descriptor.__get__"))) (xq:PySem.W.takesIn K (.builtin "object.__class__")=some true)
   (hm:PySem.W.mroIn K C (.type "object")=some true):M9 K H (.ref a) (.ref C)
theorem Y6(I:Inv X ζ σ H s)(l:RelV x u)(ty:M9 X.K H x t)(e:Df X.K t c=some b)(h:∀R,Q (.bool b) { s with toks:=R }) :
  AZ (AY X.prog X.w) A (call (.builtin "isinstance") [u,c]) Q E s:=by
 cases ty with
 | non=>cases(show u=C0 from l);exact Cf PySem.W.kitx_none I.kIn D8 e (λz=>nomatch z) h
 | bl y=>cases(show u=MX y from l);exact Cf PySem.W.kitx_bool I.kIn D8 e (λz=>nomatch z) h
 | int i=>obtain⟨t,q⟩:=(show ∃t,u=Ft i t from l);cases q;exact Cf PySem.W.kitx_int I.kIn D8 e (λz=>nomatch z) h
 | str y=>obtain⟨t,q⟩:=(show ∃t,u=OS y t from l);cases q;exact Cf PySem.W.kitx_str I.kIn D8 e (λz=>nomatch z) h
 | flt y=>obtain⟨t,q⟩:=(show ∃t,u=Vl y t from l);cases q;exact Cf PySem.W.kitx_float I.kIn D8 e (λz=>nomatch z) h
 | @lst a L m=>
  cases(show u=AV a from l);obtain⟨_,_,n,_,B⟩:=(show CS X.prog X.w H s.heap a (.lst L)from I.hok a _ m);exact Cf W0 I.kIn ⟨_,B,rfl⟩ e (λz=>nomatch z) h
 | @frz a ob L m=>
  cases(show u=AV a from l);obtain⟨_,_,_,n,_,B⟩:=(show CS X.prog X.w H s.heap a (.frz ob (.lst L))from I.hok a _ m);exact Cf W0 I.kIn ⟨_,B,rfl⟩ e (λz=>nomatch z) h
 | @tup a L m=>
  cases(show u=AV a from l);obtain⟨_,_,_,p⟩:=(show CS X.prog X.w H s.heap a (.tup L)from I.hok a _ m);obtain⟨o,B,N,_⟩:=p;exact Cf PySem.W.kitx_tuple I.kIn ⟨o,B,N⟩ e (λz=>nomatch z) h
 | @dK a G m=>
  cases(show u=AV a from l);obtain⟨_,_,vs,_,p⟩:=(show CS X.prog X.w H s.heap a (.dK G)from I.hok a _ m);obtain⟨o,S,T,B,N,_⟩:=p;exact Cf W1 I.kIn ⟨o,B,N.1⟩ e (λz=>nomatch z) h
 | @dT a G m=>
  cases(show u=AV a from l);obtain⟨_,_,L,_,o,S,T,B,N,_⟩:=(show CS X.prog X.w H s.heap a (.dT G)from I.hok a _ m);exact Cf W1 I.kIn ⟨o,B,N.1⟩ e (λz=>nomatch z) h
 | @ins a C dx fs m P U Y Z hm=>
  cases(show u=AV a from l);obtain⟨mA,O,_⟩:=O9 I.hok m;obtain⟨od,J,_⟩:=O.look;exact Cf (PySem.W.kitx_own (P.get _) P.hd U Y Z hm) I.kIn J e (λz=>nomatch z) h
end
structure FC(k:Nat)(A:BP):Prop where
 hd:A.handled=none
 dp:A.depth+3 * k+5 < recursionLimit
 un:A.units+16 * k+200 < Bd
theorem FC.mono(r:FC k A)(h:j<=k):FC j A:=⟨r.hd,by have:=r.dp;lia,by have:=r.un;lia⟩
theorem FC.deeper(r:FC (k+1) A)(l:Env):FC k (A.deeper l):=
 ⟨r.hd,by have:=r.dp;show A.depth+1+3 * k+5 < _;lia,by have:=r.un;show A.units+3+16 * k+200 < _;lia⟩
theorem WW{A:BP}{C:AL}{us:List AD}{l:List (Str×AD)}:(A.under (.builtin "type.__call__" ⟨.ref C :: us,l⟩)).depth=A.depth+1:=by
 rfl
theorem WV{A:BP}{C:AL}{us:List AD}{l:List (Str×AD)}:(A.under (.builtin "type.__call__" ⟨.ref C :: us,l⟩)).units=A.units+1:=by
 rfl
theorem FC.make{k}{A}(r:FC (k+1) A)(C:AL)(us:List AD)(l:List (Str×AD)):FC k (A.under (.builtin "type.__call__" ⟨.ref C :: us,l⟩)):=
 ⟨r.hd,by have:=r.dp;rw[WW];lia,by have:=r.un;rw[WV];lia⟩
theorem FC.depth(r:FC k A):A.depth < recursionLimit:=by have:=r.dp;lia
theorem FC.units(r:FC k A):A.units+64 < Bd:=by have:=r.un;lia
def pI:TA:=λG H Q=>Q [] H
def pP(ta:TE)(m:TA):TA:=λl H Q=>ta l H λx o=>m l o λw A=>Q (x :: w) A
section
variable{X:Cx}{e:Expr}{es:List Expr}{te:TE}{t:TA}{pos:Pos}
theorem ET:PA X [] pI:=λG G G G H Q I h=>NQ ⟨[],H,I,.nil,h⟩
abbrev _root_.zSp(X:L2.Cx)(e:Expr)(es:List Expr):Prop:=AH (e :: es) X.env=(false,A6 e X.env) :: AH es X.env
theorem B3(o:PE X e te)(w:PA X es t)(hs:autoParam (zSp X e es) yq0q):PA X (e :: es) (pP te t):=by
 intro pos l s m H Q I h;rw[hs];show AZ _ _ (spliced ((false,A6 e X.env) :: Cu pos (AH es X.env))) _ _ s;refine ID (thn (o l s m H _ I h) ?_);rintro u A ⟨x,B,C,E,G⟩
 exact thn (w pos l A m B _ C G) (by rintro R S ⟨J,L,N,O,P⟩;exact ⟨x :: J,L,N,.cons E O,P⟩)
def tTup(t:TA):TE:=λo H Q=>t o H λl m=>l.length<=sizeLine/\∀p,m p=none->Q (.ref p) (upd m p (.tup l))
def pM(t:TA):TE:=λo H Q=>t o H λl m=>l.length<=sizeLine/\∀p,m p=none->Q (.ref p) (upd m p (.lst l))
theorem WO{w}(h:PA X es t):PE X (.Tuple es w pos) (tTup t):=by
 intro A s B H Q I C;refine wpAny_Tuple_spliced (thn (h pos A s B H _ I C) λE l ⟨G,m,o,r,z,q⟩=>⟨by rw[<-r.length];exact z,?_⟩);have J:m l.heap.objs.size=none:=o.hok.fresh (AN _);refine⟨.ref l.heap.objs.size,upd m l.heap.objs.size (.tup G),o.laid (t':=l.toks) (λb u e=>AG _ e) (AN _) ?_,rfl,q _ J⟩;exact⟨⟨z,⟨_,AQ _ rfl,rfl⟩⟩,E,r,⟨_,AQ _ rfl,rfl,_,rfl⟩⟩
theorem bb(h:PA X es t):PE X (.List es pos) (pM t):=by
 intro w s A H Q I B;refine wpAny_List_spliced (thn (h pos w s A H _ I B) λC l ⟨E,m,o,r,z,q⟩=>⟨by rw[<-r.length];exact z,?_⟩);have G:m l.heap.objs.size=none:=o.hok.fresh (AN _);refine⟨.ref l.heap.objs.size,upd m l.heap.objs.size (.lst E),o.laid (t':=l.toks) (λb u e=>AG _ e) (AN _) ?_,rfl,q _ G⟩;exact⟨z,C,0,r,AQ _ rfl⟩
end
abbrev Sp:=List V->Hp->VK->XK->Prop
abbrev CXT:=List Env->Hp->AK->XK->AD->AK->Prop
structure Wx(P:Al)(w:A1)(K:AB)(mg:Str->Option AD)(base:BI)(A:BP)(outer:List Env)(s:AK)(H:Hp):Prop where
 frames:A.frames=some outer
 mod:Mod K mg base
 bs:∀b o,base.get? b=some o->s.heap.get? b=some o/\H b=none
 bsz:base.objs.size<=s.heap.objs.size
 funs:s.heap.FunFrames base outer
 frf:∀b∈frs outer,H b=none
 hok:HOk P w H s.heap
 bare:JA s.gens
def CE(l:List Env)(P:Al)(w:A1)(H:Hp)(s:AK)(Q:VK)(u:AD)(s':AK):Prop:=
 ∃v m,s'.os=s.os/\JA s'.gens/\Un (frs l) [] H m s.heap s'.heap/\HOk P w m s'.heap/\RelV v u/\Q v m
def CR(CX:CXT)(l:List Env)(P:Al)(w:A1)(H:Hp)(s:AK)(Q:VK)(E:XK)(r:jp)(s':AK):Prop:=
 match r with
 | .ok (.ret u)=>CE l P w H s Q u s'
 | .ok _=>False
 | .error e=>CX l H s E e s'
structure CT(P:Al)(w:A1)(K:AB)(mg:Str->Option AD)(base:BI)(CX:CXT)(k:Nat)(f:AL)(fd:D1)(ps:List Str)(sp:Sp):Prop where
 len:∀vs H Q E,sp vs H Q E->vs.length=ps.length
 run:∀(A:BP) (outer:List Env) (s:AK) (H:Hp) (args:Args) (us:List AD) (vs:List V) (Q:VK) (E:XK),FC k A->Wx P w K mg base A outer s H->Vc s fd args (ps.zip us)->Bp vs us->sp vs H Q E ->
  HE (AY P w) A (.call (.ref f) args) (CR CX outer P w H s Q E) s
theorem CT.imp{P}{w}{K}{o}{base}{CX}{k}{f}{fd}{B}{sp sp'}(F:CT P w K o base CX k f fd B sp)
  (h:∀vs H Q E,sp' vs H Q E->sp vs H Q E):CT P w K o base CX k f fd B sp':=
 ⟨λvs H Q E q=>F.len vs H Q E (h _ _ _ _ q),λA l s H m C vs Q E G I hb J L=>F.run A l s H m C vs Q E G I hb J (h _ _ _ _ L)⟩
theorem Wx.make{P}{w}{K}{m}{base}{A}{l}{s}{H}(e:Wx P w K m base A l s H)(C:AL)(us:List AD)(o:List (Str×AD)) :
  Wx P w K m base (A.under (.builtin "type.__call__" ⟨.ref C :: us,o⟩)) l s H:=⟨by first | exact e.frames | (simpa[BP.under,Code.envs,Code.isFrame,pushEnvs]using e.frames),e.mod,e.bs,e.bsz,e.funs,e.frf,e.hok,e.bare⟩
section
variable{X:Cx}{ζ:List (AL×Obj)}{σ:St}{H:Hp}{s s':AK}
theorem Inv.env0(I:Inv X ζ σ H s):Wx X.prog X.w X.K X.mg X.base X.A X.stack s H:=
 ⟨I.ok.frames,I.ok.mod,I.bs,A7 I.ok.bsz I.sz,I.stack,I.stkFree,I.hok,I.bare⟩
theorem Inv.after(I:Inv X ζ σ H s)(h:CE X.stack X.prog X.w H s Q u s'):EP X ζ σ Q u s':=by
 obtain⟨v,o,os,l,un,m,r,q⟩:=h;obtain⟨A,g,d,t,B⟩:=s';obtain rfl:B=s.os:=os;exact⟨v,o,I.call (h':=A) (g':=g) (d':=d) (t':=t) (ch:=[]) un m l (λb z=>zX z (by ext)),r,q⟩
end
def pQ(sp:Sp)(m:List V)(E:St->XK)(t:TA):TE:=λl H Q=>t l H λvs o=>sp (vs++m) o Q (E l)
def pK(C:AL)(m:Str)(sp:Sp)(w:List V)(E:St->XK)(ta:TE)(t:TA):TE:=λl H Q=>ta l H λx o=>∃a A fs,x=.ref a/\o a=some (.ins C A fs)/\fs.lookup m=none /\
 t l o λvs B=>sp (x :: (vs++w)) B Q (E l)
def pL(C:AL)(sp:Sp)(w:List V)(E:St->XK)(t:TA):TE:=λo H Q=>t o H λvs m=>∀x l,m x=none->m l=none->l≠x ->
 sp (.ref x :: (vs++w)) (upd (upd m l (.own x)) x (.ins C l [])) (λv A=>v=.non/\Q (.ref x) A) (E o)
def Binds(K:AB)(fd:D1)(m:List Str)(o:List AD):Prop:=
 ∀(s:AK) (l:List AD),K.In s.heap->(l++o).length=m.length->Vc s fd ⟨l,[]⟩ (m.zip (l++o))
theorem Binds.all{K}{fd}{l}(h:∀us:List AD,us.length=l.length->du fd ⟨us,[]⟩=pure (l.zip us)):Binds K fd l []:=λs us G m=>by
 rw[BO]at m ⊢;exact .of_eq (h us m)
def Nx(CX:CXT)(X:Cx)(E:St->XK):Prop:=∀(o:List (AL×Obj)) (l:St) (H:Hp) (s:AK) (e:AD) (m:AK),Inv X o l H s->CX X.stack H s (E l) e m->X.xe e m
section
variable{X:Cx}{k:Nat}{f C:AL}{fd:D1}{ps:List Str}{sp:Sp}{E:St->XK}{x m:Str}{p pos apos:Pos}{e o:Expr}{es:List Expr}{ta:TE}{t:TA}
theorem bE(F:CT X.prog X.w X.K X.mg X.base CX k f fd ps sp)(O:FC k X.A)(hb:Binds X.K fd ps l)(P:Bp G l)(R:Nx CX X E)
  (I:Inv X J B H s) (r:Bp vs us) (h:sp (vs++G) H Q (E B)):AZ (AY X.prog X.w) X.A (call (.ref f) us) (EP X J B Q) X.xe s:=by
 have L:Bp (vs++G) (us++l):=r.append P
 have S:(us++l).length=ps.length:=by rw[<-L.length];exact F.len _ _ _ _ h
 refine jj (Ep (F.run X.A X.stack s H ⟨us,[]⟩ (us++l) (vs++G) Q (E B) O I.env0 (hb s us I.kIn S) L h) λr T N=>?_)
 cases r with
 | error e=>exact R J B H s e T I N
 | ok U=>
  cases U with
  | ret u=>exact I.after N
  | next=>assumption
  | brk=>assumption
  | cont=>assumption
theorem TC(F:CT X.prog X.w X.K X.mg X.base CX k f fd ps sp)(B:FC k X.A)(G:Gl X x)(J:X.mg x=some (.ref f))(L:F5 X.K (.ref f)=true)(hb:Binds X.K fd ps N)(O:Bp P N)(R:Nx CX X E)
  (S:PA X (e :: es) t) (T:autoParam ((x==("__debug__" : Str))=false) yq1q) (U:autoParam (zSp X e es) yq0q) (Y:autoParam ((Cu pos (AH es X.env)).any (·.1)=false) yq0q) :
  PE X (.Call (.Name x p) (e :: es) [] pos) (pQ sp P E t):=by
 intro Z s σ H Q I h;refine Eo (TN I G J ?_ T);refine L3 (h₀:=X.base) I.ok.mod.kin L (thn (S pos Z s σ H _ I h) λus s1 ⟨vs,H1,l,r,q⟩=>⟨l.kIn,?_⟩) U Y;exact bE F B hb O R l r q
theorem gq(P:PE X o ta)(c:Cls X.K C)(B:Tp X.K C m f)(F:CT X.prog X.w X.K X.mg X.base CX k f fd ps sp)(R:FC k X.A)(hb:Binds X.K fd ps S)(T:Bp U S)(Y:Nx CX X E)(Z:PA X (e :: es) t)
  (tW:autoParam (zSp X e es) yq0q) (rm:autoParam ((Cu pos (AH es X.env)).any (·.1)=false) yq0q)
  (ht:autoParam (A6 (.Call (.Attribute o m apos) (e :: es) [] pos) X.env=(do
   let G <-A6 o X.env
   Ir apos.atName
   let (f,fts) <-Fn [G] (Zb G m pl)
   callWith pos f fts (Cu pos (AH (e :: es) X.env)) (NI pos (IB [] X.env)))) yq0q) :
  PE X (.Call (.Attribute o m apos) (e :: es) [] pos) (pK C m sp U E ta t):=by
 intro J s L H Q I h;refine PySem.W.methodCall_KW (pl:=pl) (thn (P J s L H _ I h) ?_) ht;rintro u s1 ⟨x,H1,N,rx,a,dx,fs,ex,ea,l,q⟩;subst ex;obtain rfl:u=AV a:=rx;refine We N ea c B l ?_;refine L3 (first:=[.ref a]) (h₀:=X.base) I.ok.mod.kin B.kp (thn (Z pos J s1 L H1 _ N q) λus s2 ⟨vs,H2,O,r,q2⟩=>⟨O.kIn,?_⟩) tW rm;exact bE (us:=.ref a :: us) (vs:=.ref a :: vs) F R hb T Y O (.cons rfl r) q2
structure Mk(K:AB)(C f:AL):Prop where
 makes:Zg K C=true
 init:DH K (.ref C) "__init__" = some (some (.ref f))
 fn:SO K (.ref f)=true
 kp:F5 K (.ref C)=true
theorem bD(M:Mk X.K C f)(F:CT X.prog X.w X.K X.mg X.base CX k f fd ps sp)(S:FC (k+1) X.A)(hb:Binds X.K fd ps l)(T:Bp L l)
  (U:Nx CX X E) (I:Inv X N B H s) (r:Bp vs us)
  (h:∀x G,H x=none->H G=none->G≠x->sp (.ref x :: (vs++L)) (upd (upd H G (.own x)) x (.ins C G [])) (λv Y=>v=.non/\Q (.ref x) Y) (E B)) :
  AZ (AY X.prog X.w) X.A (call (.ref C) us) (EP X N B Q) X.xe s:=by
 have O:=h (s.heap.objs.size+1) s.heap.objs.size (I.hok.fresh (Qv _)) (I.hok.fresh (AN _)) (Ao (FP _));have J:=Inv.made (C:=C) I;have P:Bp (V.ref (s.heap.objs.size+1) :: (vs++L)) (AV (s.heap.objs.size+1) :: (us++l)):=.cons rfl (r.append T)
 have Z:(AV (s.heap.objs.size+1) :: us++l).length=ps.length:=by
  have e:=P.length;rw[F.len _ _ _ _ O]at e;exact e.symm
 refine jj (cC (f:=f) I.kIn M.makes M.init (beq_iff_eq.mp M.fn) (Ep (F.run _ X.stack _ _ ⟨AV (s.heap.objs.size+1) :: us,[]⟩ (AV (s.heap.objs.size+1) :: (us++l)) _ _ (E B) (S.make C us [])
  (J.env0.make C us []) (hb _ (AV (s.heap.objs.size+1) :: us) J.kIn Z) P O) λr s' R=>?_))
 cases r with
 | error e=>exact U N B _ _ e s' J R
 | ok fl=>
  cases fl with
  | ret u=>
   obtain⟨v,H',I3,rv,ev,q3⟩:=J.after R;subst ev;exact⟨rv,⟨V.ref (s.heap.objs.size+1),H',I3,rfl,q3⟩⟩
  | next=>assumption
  | brk=>assumption
  | cont=>assumption
theorem Xj(M:Mk X.K C f)(F:CT X.prog X.w X.K X.mg X.base CX k f fd ps sp)(B:FC (k+1) X.A)(G:Gl X x)(J:X.mg x=some (.ref C))(hb:Binds X.K fd ps L)(N:Bp O L)(P:Nx CX X E)
  (R:PA X (e :: es) t) (S:autoParam ((x==("__debug__" : Str))=false) yq1q) (T:autoParam (zSp X e es) yq0q) (U:autoParam ((Cu pos (AH es X.env)).any (·.1)=false) yq0q) :
  PE X (.Call (.Name x p) (e :: es) [] pos) (pL C sp O E t):=by
 intro Y s Z H Q I h;refine Eo (TN I G J ?_ S);refine L3 (h₀:=X.base) I.ok.mod.kin M.kp (thn (R pos Y s Z H _ I h) λus s1 ⟨vs,H1,l,r,q⟩=>⟨l.kIn,?_⟩) T U;exact bD M F B hb N P l r q
end
structure HY(N P:List Str)(sc:LV):Prop where
 kind:sc.kind=.function
 co:sc.isCoroutine=false
 gen:sc.isGenerator=false
 nd:N.Nodup
 pre:N.take P.length=P
 par:∀x∈P,sc.names.lookup x=some .local∨sc.names.lookup x=some .cell
 nofree:∀y∈sc.names,y.2≠.free
theorem SG{kindOf}{x}:∀{binds:List (Str×AD)} {m:Str->Option AD},(∀v,(x,v)∉binds)->Zd kindOf binds m x=m x
 | [],_,_=>rfl
 | (n,v) :: r,m,h=>by
  unfold Zd;rw[SG λw hw=>h w (AM _ hw)];split
  ·grind
  ·rfl
theorem SI{kindOf}{x}:∀{binds:List (Str×AD)} {m:Str->Option AD},(∀v,(x,v)∉binds)->Ze kindOf binds m x=m x
 | [],_,_=>rfl
 | (n,v) :: r,m,h=>by
  unfold Ze;rw[SI λw hw=>h w (AM _ hw)];split
  ·rfl
  grind
theorem SH{kindOf}{x}{v}:∀{P:List Str} {vs:List AD} {i:Nat} {m:Str->Option AD},P.Nodup->P[i]?=some x->vs[i]?=some v->kindOf x=some .local ->
  Zd kindOf (P.zip vs) m x=some v
 | [],_,_,_,_,h,_,_=>by simp at h
 | _ :: _,[],_,_,_,_,h,_=>by simp at h
 | p :: P,w :: vs,0,m,A,l,o,B=>by
  simp at l o;subst l;subst o;show Zd kindOf ((p,w) :: P.zip vs) m p=_;unfold Zd;rw[SG λv C=>(BJ.mp A).1 (KM C).1,qX B];simp
 | p :: P,w :: vs,i+1,m,A,l,o,B=>by
  show Zd kindOf ((p,w) :: P.zip vs) m x=_;unfold Zd;exact SH (i:=i) (BJ.mp A).2 (by simpa using l) (by simpa using o) B
theorem SJ{kindOf}{x}{v}:∀{P:List Str} {vs:List AD} {i:Nat} {m:Str->Option AD},P.Nodup->P[i]?=some x->vs[i]?=some v->kindOf x≠some .local ->
  Ze kindOf (P.zip vs) m x=some v
 | [],_,_,_,_,h,_,_=>by simp at h
 | _ :: _,[],_,_,_,_,h,_=>by simp at h
 | p :: P,w :: vs,0,m,A,l,o,B=>by
  simp at l o;subst l;subst o;show Ze kindOf ((p,w) :: P.zip vs) m p=_;unfold Ze;rw[SI λv C=>(BJ.mp A).1 (KM C).1,qY B];simp
 | p :: P,w :: vs,i+1,m,A,l,o,B=>by
  show Ze kindOf ((p,w) :: P.zip vs) m x=_;unfold Ze;exact SJ (i:=i) (BJ.mp A).2 (by simpa using l) (by simpa using o) B
noncomputable def start(N:List Str)(vs:List V):St:=vs.map some++Bk (N.length - vs.length) none
def Qa(CX:CXT)(P:Al)(w:A1)(K:AB)(mg:Str->Option AD)(base:BI)(N:List Str)(l:Str)(scope:LV)(f:AL)(m:AD)(A:BP)(outer:List Env)(s:AK)(H:Hp)(E:XK):Cx where
 prog:=P
 w:=w
 K:=K
 mg:=mg
 base:=base
 A:=A.deeper (HD l scope s.heap.objs.size f m)
 N:=N
 s₀:=s
 H₀:=H
 env:=HD l scope s.heap.objs.size f m
 outer:=outer
 stack:=HD l scope s.heap.objs.size f m :: outer
 ex:=[]
 calm:=true
 fn:=λG=>true
 pn:=[]
 xe:=λe B=>AZ (AY P w) (A.deeper (HD l scope s.heap.objs.size f m)) (leaving (HD l scope s.heap.objs.size f m) e) (λG o=>CX outer H s E e o) (λC o=>CX outer H s E C o) B
theorem VH{l:LV}{n:Nat}{x:Str}(h:l.names.lookup x=some .cell):∃c,(B8 n l.names []).lookup x=some c:=by
 have q:=SQ l.names n [] (.inl h);exact DF.mp q
theorem Y8{CX:CXT}{P:Al}{w:A1}{K:AB}{Q:Str->Option AD}{base:BI}{N B:List Str}{m:Str}{scope:LV}{f:AL}{J:AD}{A:BP}{l:List Env}{s s1:AK}{H:Hp}{E:XK}{us:List AD}{vs:List V}
  (S:HY N B scope) (X:A.handled=none) (o:Wx P w K Q base A l s H) (hl:vs.length=B.length) (r:Bp vs us)
  (x:InCallC s s.heap.objs.size (Zd (HD m scope s.heap.objs.size f J).kindOf (B.zip us) λM=>none) (B8 (s.heap.objs.size+1) scope.names []) (Ze (HD m scope s.heap.objs.size f J).kindOf (B.zip us) λM=>none) s1) :
  Inv (Qa CX P w K Q base N m scope f J A l s H E) [] (start N vs) H s1:=by
 have rm:B.length<=N.length:=by have:=congrArg Dg S.pre;rw[CV]at this;lia
 obtain⟨L,tk,rfl,T⟩:=x.done
 have R:∀b:AL,b∉(Qa CX P w K Q base N m scope f J A l s H E).ex:=λb z=>zX (show b∈([]:List AL)from z) ∅
 refine⟨⟨o.mod,S.kind,rfl,rfl,AN _,λy z c L C=>?_,λy G=>?_,λy c M h=>?_,λM=>X,BP.frames_deeper o.frames,.inr ⟨rfl,rfl⟩,λb z=>zX z (R b),o.bs,o.bsz,λb M M=>R b,λb z=>zX z (R b),o.funs,o.frf⟩,
  rfl,o.bare,Un.kept T,⟨_,x.toInCall.ns,λi y v L C h3=>?_⟩,λy c h=>⟨_,x.cell y c h⟩,o.hok.fresh (AN _),λy c h=>?_,λp I=>zX (show p∈([]:List (AL×Obj))from I) ∅,o.hok.kept T,?_⟩
 ·exact name_of_addr x.apart (DU L) (DU C)
 ·have G:scope.names.lookup y=some .cell∨scope.names.lookup y=some .free:=G
  rcases G with G | G
  ·exact VH G
  ·exact zX rfl (S.nofree _ (DU G))
 ·exact KJ (x.above y c (DU h))
 ·have O:i < vs.length:=by
   unfold start at C
   by_cases O:i < vs.length
   ·exact O
   ·rw[Bl (by simpa using O)]at C
    rw[Js]at C
    ext
  have Y:vs[i]?=some v:=by
   unfold start at C;rw[Br (by simpa using O),Ab]at C
   cases e:vs[i]? with
   | none=>ext
   | some a=>ext
  obtain⟨u,U,Z⟩:=r.get Y
  have I:B[i]?=some y:=by
   rw[<-S.pre,T0 (by ext)];exact L
  have ϩ:B.Nodup:=by rw[<-S.pre];exact S.nd.sublist (Zs _ _)
  refine⟨u,Z,?_⟩
  rcases S.par y (A2 I)with k | k
  ·exact .inl ⟨k,SH ϩ I U k⟩
  ·obtain⟨c,e⟩:=VH (n:=s.heap.objs.size+1) k
   refine .inr ⟨.inl k,c,e,?_⟩;have q:=x.cell y c e;rw[SJ ϩ I U (by show scope.names.lookup y≠_;ext)]at q;exact q
 ·exact o.hok.fresh (KJ (x.above y c (DU h)))
 ·unfold start
  show _=N.length;ext
theorem SA{CX}{P}{w}{K}{T}{base}{k}{f}{name m}{params}{B}{scope}{dV kV O pm G ct oc}{an od}
  {tK} {N U} {sp} (lk:K.lookup f=some ⟨oc,od,.func (HP name m params B scope dV kV O pm an G ct),tK⟩) (sP:PQ K G m=true) (S:HY N U scope)
  (len:∀vs H Q E,sp vs H Q E->vs.length=U.length)
  (sH:∀(A:BP) (l:List Env) (s:AK) (H:Hp) (vs:List V) (Q:VK) (E:XK),FC k (A.deeper (HD m scope s.heap.objs.size f G))->sp vs H Q E ->
   ∃t,PSs (Qa CX P w K T base N m scope f G A l s H E) B t/\t { nx:=λM H'=>Q .non H',rt:=Q } (start N vs) H) :
  CT P w K T base CX (k+1) f (HP name m params B scope dV kV O pm an G ct) U sp:=by
 refine⟨len,λA l s H args us vs Q E X R hb r wM=>?_⟩;have hl:=len _ _ _ _ wM
 have KX:K.In s.heap:=R.mod.kin.keeps λb o e=>(R.bs b o e).1
 have Y:s.heap.NoLimit:=R.mod.nolimit.keeps λb o e=>(R.bs b o e).1
 have xt:∀y∈U.zip us,scope.names.lookup y.1=some .local∨(scope.names.lookup y.1=some .cell/\((B8 (s.heap.objs.size+1) scope.names []).lookup y.1).isSome=true):=by
  rintro ⟨n,v⟩ hy
  rcases S.par n (KM hy).1 with q | q
  ·exact .inl q
  ·exact .inr ⟨q,SQ _ _ _ (.inl q)⟩
 refine codeAny_call_function X.depth (KX _ _ lk) rfl S.co S.gen rfl (PySem.W.codeRec_of KX sP) (hb _ _ _ _ ?_)
 refine wpAny_newFunctionEnv_cells S.kind xt λenv he s1 x=>?_
 subst he;refine⟨Y.keeps x.toInCall.keep,codeAny_func ?_⟩;obtain⟨t,ht,hq⟩:=sH A l s H vs Q E (X.deeper _) wM;have I:Inv (Qa CX P w K T base N m scope f G A l s H E) [] (start N vs) H s1:=Y8 S X.hd R hl r x
 refine DP (ht [] s1 (start N vs) H _ I hq) (λfl s' L=>?_) λe s' L=>L
 have fin:∀{C:St} {H':Hp} {v:V} {u:AD},Inv (Qa CX P w K T base N m scope f G A l s H E) [] C H' s'->RelV v u->Q v H'->CE l P w H s Q u s':=
  λ{C H' v u} J Z q=>⟨v,H',J.os,J.bare,J.base,J.hok,Z,q⟩
 cases fl with
 | ret u=>
  obtain⟨v,C,H',J,Z,q⟩:=L;exact fin J Z q
 | next=>
  obtain⟨C,H',J,q⟩:=L;exact fin (v:=V.non) (u:=C0) J rfl q
 | brk=>
  obtain⟨_,_,_,q⟩:=L
  ext
 | cont=>
  obtain⟨_,_,_,q⟩:=L
  ext
section
variable{X:Cx}{x:Str}{p pos:Pos}{e:Expr}{es:List Expr}{t:TA}{id T:String}{r:List V->Hp->VK->Prop}
def tCB(r:List V->Hp->VK->Prop)(t:TA):TE:=λl H Q=>t l H λvs m=>r vs m Q
theorem QA(o:G8 X (.builtin id) r)(w:Gl X x)(A:X.mg x=none)(B:EK x=some (.builtin id))(C:PA X (e :: es) t)(E:autoParam (x≠"__name__") yq1q) (G:autoParam ((x==("__debug__" : Str))=false) yq1q)
  (J:autoParam (zSp X e es) yq0q) (L:autoParam ((Cu pos (AH es X.env)).any (·.1)=false) yq0q):PE X (.Call (.Name x p) (e :: es) [] pos) (tCB r t):=by
 intro l s m H Q I h;refine Eo (Jj I w A B ?_ E G);exact Lh (thn (C pos l s m H _ I h) (by rintro N O ⟨vs,P,R,S,U⟩;exact o l O m P vs N Q R S U)) J L
theorem Yw(o:G8 X (.type T) r)(w:Gl X x)(A:X.mg x=none)(B:EK x=some (.type T))(C:PA X (e :: es) t)(E:autoParam (x≠"__name__") yq1q) (G:autoParam ((x==("__debug__" : Str))=false) yq1q)
  (J:autoParam (zSp X e es) yq0q) (L:autoParam ((Cu pos (AH es X.env)).any (·.1)=false) yq0q):PE X (.Call (.Name x p) (e :: es) [] pos) (tCB r t):=by
 intro l s m H Q I h;refine Eo (Jj I w A B ?_ E G);exact Cg (thn (C pos l s m H _ I h) λN O ⟨vs,P,R,S,U⟩=>o l O m P vs N Q R S U) J L
end
end L2
namespace HT
section
variable{prog:Al}{w:A1}{A:BP}{E:AD->AK->Prop}{s:AK}
theorem ig(O:eE s.heap t vs.toArray)(hb:eE s.heap b l.toArray)(P:vs≠[])
  (R:l=[]->Q (.ref t) s) (S:l≠[]->Q (.ref s.heap.objs.size) { s with heap:=s.heap.push { cls:=.type "tuple",data:=.seq (vs++l).toArray } })
  (hsz:vs.length+l.length<=sizeLine):AZ (AY prog w) A (EL .Add (.ref t) (.ref b)) Q E s:=by
 obtain⟨⟨cls,G,data,H⟩,C,I,n,J⟩:=id O;obtain⟨⟨L,o,data2,B⟩,m,hc2,N,hd2⟩:=id hb;simp only at I J hc2 hd2;subst I J hc2 hd2
 have e:vs.toArray++l.toArray=(vs++l).toArray:=by simp
 by_cases hw:l=[]
 ·exact Zq ⟨_,C,rfl⟩ ⟨_,m,rfl⟩ SN YI JQ Ix (IV _ _)
   (tuple_addW1 t b vs.toArray l.toArray n N G o H B (by simpa using P) (by simp[hw])) ⟨C,m,R hw⟩
 ·refine Zq ⟨_,C,rfl⟩ ⟨_,m,rfl⟩ SN YI JQ Ix (IV _ _)
   (tuple_addW2 t b vs.toArray l.toArray n N G o H B (by ext) (by ext) (by assumption)) ⟨C,m,?_⟩
  rw[e];exact S hw
noncomputable def sIx(n d:Nat):Option Int->Nat
 | none=>d
 | some v=>if v < 0 then(v+(n:Int)).toNat else min v.toNat n
theorem Ud(n d:Nat):sIx n d none=d:=rfl
theorem Xa(n d k:Nat):sIx n d (some (k:Int))=min k n:=by
 rfl
theorem lB(n d:Nat)(m:d<=n)(o:Option Int):sIx n d o<=n:=by
 cases o with
 | none=>exact m
 | some v=>
  show(if v < 0 then(v+(n:Int)).toNat else min v.toNat n)<=n
  by_cases l:v < 0
  ·rw[qX l];lia
  ·rw[qY l];exact Nat.min_le_right _ _
theorem YA(v:Int)(n d:Nat):(if v < 0 then max (v+(n:Int)) 0 else min v (n:Int))=((sIx n d (some v):Nat):Int):=by
 show(if v < 0 then max (v+(n:Int)) 0 else min v (n:Int))=(((if v < 0 then(v+(n:Int)).toNat else min v.toNat n):Nat):Int)
 by_cases l:v < 0
 ·ext
 ·simp only[qY l];grind
theorem Wt(lo hi:Option Int)(n:Nat):HG lo hi 1 (n:Int)=(((sIx n 0 lo:Nat):Int),((sIx n n hi:Nat):Int)):=by
 have l:¬((1:Int) < 0):=by decide
 unfold HG;simp only[l,if_false];refine RZ ?_ ?_
 ·cases lo with
  | none=>rfl
  | some v=>exact YA v n 0
 ·cases hi with
  | none=>rfl
  | some v=>exact YA v n n
theorem WM(i j:Nat):Eh (i:Int) (j:Int) 1=j - i:=by
 unfold Eh
 have l:(1:Int) > 0:=by decide
 simp only[l,if_true,Int.ediv_one]
 split <;> ext
theorem Pv(p:NP v o)(h:Q o s):AZ (AY prog w) A (oU v) Q E s:=by
 cases p with
 | none=>exact slicePart_none h
 | int i t=>exact slicePart_int h
theorem JE{C:AL}{l m:AD}{lo hi:Option Int}{n:Nat}{Q:Int×Int×Nat->AK->Prop}(hs:s.heap.IsSliceOf C l m .none)(pl:NP l lo)(G:NP m hi)
  (h:Q (((sIx n 0 lo:Nat):Int),1,sIx n n hi - sIx n 0 lo) s):AZ (AY prog w) A (Me (.ref C) (pure (n:Int))) Q E s:=by
 obtain⟨os,o,H,B⟩:=id hs;unfold Me oV;refine AA (AA (Gv o B (x:=l) rfl (AA (Gv o B (x:=m) rfl (AA (Gv o B (x:=.none) rfl (AC ?_)))))));refine AA (slicePart_none ?_);show AZ _ _ (if ((1:Int)==0)=true then _ else _) _ _ s;rw[qY (by decide)];refine AA (Pv pl (AA (Pv G (AA (AC ?_)))));show AZ _ _ (match HG lo hi 1 (n:Int)with | (lo,hi)=>pure (lo,(1:Int),Eh lo hi 1)) _ _ s;rw[Wt lo hi n];show AZ _ _ (pure (((sIx n 0 lo:Nat):Int),(1:Int),Eh ((sIx n 0 lo:Nat):Int) ((sIx n n hi:Nat):Int) 1)) _ _ s;rw[WM];exact AC h
theorem bX(xs:Array AD)(i k:Nat):((A0 k).filterMap λ(m:Nat)=>xs[((i:Int)+(m:Int) * 1).toNat]?).toArray=((xs.toList.drop i).take k).toArray:=by
 have e:(λ(m:Nat)=>xs[((i:Int)+(m:Int) * 1).toNat]?)=λm=>xs[i+m]?:=by
  funext m
  have:((i:Int)+(m:Int) * 1).toNat=i+m:=by lia
  rw[this]
 rw[e];have:=pick_run xs i k;rw[Zl]at this
 have l:((λx=>xs[x]?)∘λx=>i+x)=λm=>xs[i+m]?:=rfl
 ext
theorem M6{t C}{l}{G H}{lo hi}{Q}(o:eE s.heap t l)(hs:s.heap.IsSliceOf C G H .none)(pl:NP G lo)(I:NP H hi)
  (hw:¬(sIx l.size 0 lo=0/\sIx l.size l.size hi=l.size))
  (h:Q (.ref s.heap.objs.size) { s with heap:=s.heap.push { cls:=.type "tuple",data:=.seq ((l.toList.drop (sIx l.size 0 lo)).take (sIx l.size l.size hi - sIx l.size 0 lo)).toArray } })
  (hsz:l.size<=sizeLine):AZ (AY prog w) A (Iu (.ref t) (.ref C)) Q E s:=by
 have B:sizeOk (.seq ((l.toList.drop (sIx l.size 0 lo)).take (sIx l.size l.size hi - sIx l.size 0 lo)).toArray):=by
  show((l.toList.drop (sIx l.size 0 lo)).take (sIx l.size l.size hi - sIx l.size 0 lo)).toArray.size<=sizeLine;rw[BU,CV,FM,Ac];omega
 have P:sIx l.size l.size hi<=l.size:=lB _ _ (AN _) hi;obtain⟨os,J,L,R⟩:=id hs;have N:s.TypeIs (.ref C) "slice":=⟨os,J,L⟩;unfold Iu
 try with_reducible refine Cp ?_
 first | refine AA (AC ?_) | skip
 refine AA (nR o.typeIs (by rfl) ?_)
 refine AA (BM (name:=Str.ofString "__getitem__") o.typeIs CC
  (BL CC o.typeIs iq ?_ (jn _ _)))
 show AZ _ _ (G3 (.ref t) >>= _) _ _ s;refine AA (tupleItemsOf_ o ?_);refine AA (Iq N ?_);rw[qX (by rfl)];refine AA (JE hs pl I ?_)
 have O:¬((((sIx l.size 0 lo:Nat):Int)==0&&(1:Int)==1&&(sIx l.size l.size hi - sIx l.size 0 lo)==l.size)=true):=by
  intro q;rw[Di,Di]at q;have S:((sIx l.size 0 lo:Nat):Int)=0:=eq_of_beq q.1.1;have T:sIx l.size l.size hi - sIx l.size 0 lo=l.size:=eq_of_beq q.2;exact hw ⟨by ext,by ext⟩
 show AZ _ _ (if (((sIx l.size 0 lo:Nat):Int)==0&&(1:Int)==1&&(sIx l.size l.size hi - sIx l.size 0 lo)==l.size)=true then _ else _) _ _ s;rw[qY O,bX]
 first
  | exact AA (m:=Et _) (BD (AC ⟨_,rfl,AC h⟩) B)
  | exact AA (m:=Et _) (BD (AA (AC (AC ⟨_,rfl,AC h⟩))) B)
  | exact AA (AA (m:=Et _) (BD (AC (AC ⟨_,rfl,AC h⟩)) B))
  | exact AA (AA (m:=Et _) (BD (AC ⟨_,rfl,AC h⟩) B))
end
end HT
namespace L2
section
abbrev TO:=St->Hp->(Option Int->Hp->Prop)->Prop
def PO(X:Cx)(e:Option Expr)(t:TO):Prop:=
 ∀(m:List (AL×Obj)) (s:AK) (l:St) (H:Hp) (Q:Option Int->Hp->Prop),Inv X m l H s->t l H Q ->
  AZ (AY X.prog X.w) X.A (evalPart e X.env) (λu C=>∃o B,Inv X m l B C/\NP u o/\Q o B) X.xe s
def gG:TO:=λG H Q=>Q none H
def pG(t:TE):TO:=λl H Q=>t l H λx m=>∃i,x=.int i/\Q (some i) m
theorem intsAre_of:∀{us:List AD},Bp (ns.map V.int) us->Fq us ns:=by
 induction ns with
 | nil=>intro us r;rw[N6]at r;cases r;exact .nil
 | cons n ns l=>
  intro us r;rw[Ai]at r
  cases r with
  | cons m o=>
   obtain⟨t,e⟩:=m;subst e;exact .cons n t (l o)
section
variable{κ:Type}[DecidableEq κ]
noncomputable def JX(kvs:List (κ×V))(k:κ):Option V:=(kvs.find? λl=>decide (l.1=k)).map (·.2)
noncomputable def IE(kvs:List (κ×V))(k:κ)(v:V):List (κ×V):=
 if (kvs.any λl=>decide (l.1=k))=true then kvs.map (λl=>if l.1=k then(l.1,v)else l)else kvs++[(k,v)]
theorem KW{p:κ×V}{r:List (κ×V)}{k:κ}(e:p.1=k):JX (p :: r) k=some p.2:=by simp[JX,CP,e]
theorem KY{p:κ×V}{r:List (κ×V)}{k:κ}(e:¬p.1=k):JX (p :: r) k=JX r k:=by simp[JX,CP,e]
theorem Pj(k:κ):∀kvs:List (κ×V),(kvs.any λl=>decide (l.1=k))=(JX kvs k).isSome
 | []=>rfl
 | p :: r=>by
  rw[Md]
  by_cases e:p.1=k
  ·simp only[KW e,wX e,Bool.true_or,W2]
  ·rw[KY e,wY e,jw];exact Pj k r
theorem Ku(kvs:List (κ×V))(k:κ)(v:V):(IE kvs k v).length<=kvs.length+1:=by
 unfold IE;split
 ·rw[AF];ext
 ext
theorem JK.isSome_eq(r:JK o u):o.isSome=u.isSome:=by
 cases o with
 | none=>cases u with
  | none=>rfl
  | some _=>exact(show False from r).elim
 | some _=>cases u with
  | none=>exact(show False from r).elim
  | some _=>rfl
theorem JK.getD(r:JK o u)(rd:RelV d d'):RelV (o.getD d) (u.getD d'):=by
 cases o with
 | none=>cases u with
  | none=>exact rd
  | some _=>exact(show False from r).elim
 | some _=>cases u with
  | none=>exact(show False from r).elim
  | some _=>exact r
theorem KV.val{kvs:List (κ×V)}{vs:List (κ×AD)}(r:KV kvs vs)(k:κ):JK (JX kvs k) (Qz vs k):=by
 unfold KV at r
 induction r with
 | nil=>exact D8
 | @cons p q B l h t w=>
  obtain⟨o,A⟩:=h
  by_cases e:p.1=k
  ·have m:q.1=k:=o.symm.trans e
   have b:Qz (q :: l) k=some q.2:=by simp[Qz,CP,m]
   rw[KW e,b];exact A
  ·have m:¬q.1=k:=λz=>e (o.trans z)
   have b:Qz (q :: l) k=Qz l k:=by simp[Qz,CP,m]
   rw[KY e,b];exact w
theorem KV.any(r:KV kvs vs)(k:κ):(kvs.any λl=>decide (l.1=k))=vs.any λl=>decide (l.1=k):=by
 unfold KV at r
 induction r with
 | nil=>rfl
 | cons h t m=>ext
theorem KV.repl(r:KV kvs vs)(k:κ)(o:RelV y u) :
  KV (kvs.map λl=>if l.1=k then(l.1,y)else l) (vs.map λl=>if l.1=k then(l.1,u)else l):=by
 unfold KV at r ⊢
 induction r with
 | nil=>exact .nil
 | @cons p q w A h t m=>
  rw[Ai,Ai];refine .cons ?_ m
  lia
theorem KV.put(r:KV kvs vs)(k:κ)(l:RelV y u):KV (IE kvs k y) (stored vs k u):=by
 unfold IE stored;rw[r.any k]
 by_cases e:(vs.any λm=>decide (m.1=k))=true
 ·rw[qX e,qX e];exact r.repl k l
 ·rw[qY e,qY e];exact OU r ⟨rfl,l⟩
theorem KV.length(r:KV kvs vs):kvs.length=vs.length:=Cw r
end
theorem R8(r:RelV (kV k) u):(Dm P w).is k u=true:=by
 cases k with
 | inl i=>obtain⟨t,e⟩:=(show ∃t,u=Ft i t from r);subst e;exact U0 P w i t
 | inr x=>obtain⟨t,e⟩:=(show ∃t,u=OS x t from r);subst e;exact Uz P w x t
theorem R9:∀{ks:List Key} {us:List AD},Bp (ks.map kV) us->ItemsAre (Dm P w) ks us
 | [],_,r=>by rw[N6]at r;cases r;exact .nil
 | k :: ks,_,r=>by
  rw[Ai]at r
  cases r with
  | cons h t=>exact .cons (R8 h) (R9 t)
abbrev KT(H:Hp):List (List Key×V)->List (List Key×AL×AD)->Prop:=Er λp q=>p.1=q.1/\H q.2.1=some (.tup (p.1.map kV))/\RelV p.2 q.2.2
theorem KT.val{H:Hp}{kvs:List (List Key×V)}{xs:List (List Key×AL×AD)}(r:KT H kvs xs)(k:List Key):JK (JX kvs k) ((KA xs k).map (·.2)):=by
 induction r with
 | nil=>exact D8
 | @cons p q B l h t w=>
  obtain⟨o,_,A⟩:=h
  by_cases e:p.1=k
  ·have m:q.1=k:=o.symm.trans e
   have b:KA (q :: l) k=some q.2:=by simp[KA,CP,m]
   rw[KW e,b];exact A
  ·have m:¬q.1=k:=λz=>e (o.trans z)
   have b:KA (q :: l) k=KA l k:=by simp[KA,CP,m]
   rw[KY e,b];exact w
theorem KT.repl(r:KT H kvs xs)(k:List Key)(o:RelV y u) :
  KT H (kvs.map λl=>if l.1=k then(l.1,y)else l) (xs.map (Tu k u)):=by
 induction r with
 | nil=>exact .nil
 | @cons p q w A h t m=>
  rw[Ai,Ai];refine .cons ?_ m;obtain⟨B,C,E⟩:=h;unfold Tu
  lia
theorem KT.put(r:KT H kvs xs)(k:List Key)(hb:H b=some (.tup (k.map kV)))(l:RelV y u) :
  KT H (IE kvs k y) (N3 xs k b u):=by
 have e:(kvs.any λm=>decide (m.1=k))=(KA xs k).isSome:=by
  rw[Pj,(r.val k).isSome_eq,GN]
 unfold IE N3;rw[e]
 by_cases q:(KA xs k).isSome=true
 ·rw[qX q,qX q];exact r.repl k l
 ·rw[qY q,qY q];exact OU r ⟨rfl,hb,l⟩
theorem KT.keeps(r:KT H kvs xs)(m:∀b l,H b=some (.tup l)->H' b=some (.tup l)):KT H' kvs xs:=
 Er.mapP r λG G z=>⟨z.1,m _ _ z.2.1,z.2.2⟩
variable{X:Cx}{e:Expr}{lo hi:Option Expr}{pos p2:Pos}
theorem gf:PO X none gG:=by
 intro l s m H Q I h;rw[evalPart_none];exact AC ⟨none,H,I,.none,h⟩
theorem ge(h:PE X e l):PO X (some e) (pG l):=by
 intro m s o H Q I hw;rw[evalPart_some]
 refine thn (h m s o H _ I hw) ?_;rintro u E ⟨x,w,A,B,C⟩
 obtain⟨i,rfl,q⟩:=C;obtain⟨t,rfl⟩:=B;exact⟨some i,w,A,.int i t,q⟩
def SlR(X:Cx)(r:V->Option Int->Option Int->Hp->VK->Prop):Prop:=
 ∀(l:List (AL×Obj)) (s:AK) (m:St) (H:Hp) (x:V) (v o B:AD) (lo hi:Option Int) (C:AL) (Q:VK),Inv X l m H s->RelV x v->s.heap.IsSliceOf C o B .none->NP o lo->NP B hi->r x lo hi H Q ->
  ∃T id,typeLookup (.type T) "__getitem__" = pure (some (.builtin id))/\s.TypeIs v T/\AZ (AY X.prog X.w) X.A (Iu v (.ref C)) (EP X l m Q) X.xe s
theorem SlR.or(h:SlR X r)(h':SlR X J):SlR X (λx lo hi H Q=>r x lo hi H Q∨J x lo hi H Q):=by
 intro l s m H x v o w lo hi A Q I B C E G q
 rcases q with q | q
 ·exact h l s m H x v o w lo hi A Q I B C E G q
 ·exact h' l s m H x v o w lo hi A Q I B C E G q
def tSl(r:V->Option Int->Option Int->Hp->VK->Prop)(o:TE)(w A:TO):TE:=λm H Q=>o m H λx B=>w m B λl C=>A m C λu E=>r x l u E Q
theorem bZ(J:SlR X r)(L:PE X e N)(hl:PO X lo O)(P:PO X hi R):PE X (.Subscript e (.Slice lo hi none p2) pos) (tSl r N O R):=by
 intro o s B H Q I h;refine jo (thn (L o s B H _ I h) λv S ⟨x,U,Y,Z,q1⟩=>?_);refine wpAny_Slice (thn (hl o S B U _ Y q1) λC s2 ⟨l,H2,I2,pl,q2⟩=>thn (P o s2 B H2 _ I2 q2) λE m ⟨u,G,I3,pu,q3⟩=>?_);rw[evalPart_none];refine AC ?_
 have I4:Inv X o B G { m with heap:=m.heap.push { cls:=.type "slice",data:=.fields #[C,E,.none] } }:=I3.kept (t':=m.toks) λb ob q=>AG _ q
 obtain⟨T,id,hT,ht,hg⟩:=J o { m with heap:=m.heap.push { cls:=.type "slice",data:=.fields #[C,E,.none] } } B G x v C E l u m.heap.objs.size Q I4 Z (nv ..) pl pu q3;show AZ (AY X.prog X.w) X.A (YH e (.Slice lo hi none p2) v (.ref m.heap.objs.size)) (EP X o B Q) X.xe { m with heap:=m.heap.push { cls:=.type "slice",data:=.fields #[C,E,.none] } };exact tail_any (ops:=[.ref m.heap.objs.size,v]) ht hT hg (by rfl)
def ZL(xs:List V)(lo hi:Option Int):List V:=(xs.drop (HT.sIx xs.length 0 lo)).take (HT.sIx xs.length xs.length hi - HT.sIx xs.length 0 lo)
theorem VG(xs:List V)(lo hi:Option Int):(ZL xs lo hi).length<=xs.length:=by
 unfold ZL;rw[CV,FM]
 lia
def rSlT(K:AB):V->Option Int->Option Int->Hp->VK->Prop:=λx lo hi H Q=>∃a l,x=.ref a/\SqT K H a l /\
 ¬(HT.sIx l.length 0 lo=0/\HT.sIx l.length l.length hi=l.length)/\∀p,H p=none->Q (.ref p) (upd H p (.tup (ZL l lo hi)))
theorem k8:SlR X (rSlT X.K):=by
 intro N s O H x v P R lo hi S Q I A B C E h;obtain⟨a,m,rfl,G,hw,q⟩:=h;cases A;obtain⟨J,r,w,L⟩:=I.tuple G
 have l:J.toArray.size=m.length:=by rw[BU];exact r.length.symm
 refine⟨"tuple",_,CC.lookup,w.typeIs,?_⟩;refine HT.M6 w B C E (by rw[l];exact hw) ?_ (by ext);rw[l];refine⟨.ref s.heap.objs.size,_,I.laid (t':=s.toks) (o:=.tup (ZL m lo hi)) (λb ob q=>AG _ q) (AN _) ?_,rfl,q _ (I.hok.fresh (AN _))⟩;exact⟨⟨A7 (VG m lo hi) L,⟨_,AQ _ rfl,rfl⟩⟩,_,(r.drop (HT.sIx m.length 0 lo)).take (HT.sIx m.length m.length hi - HT.sIx m.length 0 lo),Zw _ _⟩
def p9(K:AB):R2:=λx y H Q=>∃a b m l,x=.ref a/\y=.ref b/\SqT K H a m/\SqT K H b l/\m≠[]/\m.length+l.length<=sizeLine /\
 (l=[]->Q (.ref a) H)/\(l≠[]->∀p,H p=none->Q (.ref p) (upd H p (.tup (m++l))))
theorem Bp.nil_iff(r:Bp xs us):us=[]↔xs=[]:=by
 cases r with
 | nil=>simp
 | cons _ _=>simp
theorem hJ:OpR X (EL .Add) (p9 X.K):=by
 intro R s S H x y v u Q I A B h;obtain⟨a,b,C,E,rfl,rfl,G,hb,J,L,N,O⟩:=h;cases A;cases B;obtain⟨T,m,P,_⟩:=I.tuple G;obtain⟨U,l,p2,_⟩:=I.tuple hb;refine HT.ig P p2 (λz=>J (m.nil_iff.mp z)) (λz=>⟨.ref a,H,I,rfl,N (l.nil_iff.mp z)⟩) (λz=>?_) (by rw[<-m.length,<-l.length];exact L);refine⟨.ref s.heap.objs.size,_,I.laid (t':=s.toks) (o:=.tup (C++E)) (λb ob q=>AG _ q) (AN _) ?_,rfl,O (λw=>z (l.nil_iff.mpr w)) _ (I.hok.fresh (AN _))⟩;exact⟨⟨by ext,⟨_,AQ _ rfl,rfl⟩⟩,_,m.append l,Zw _ _⟩
end
section
noncomputable def ixN(n:Nat)(i:Int):Option Nat:=if 0<=i then(if i < n then some i.toNat else none)else if -(n:Int)<=i then some (i+n).toNat else none
def atI{α:Type}(xs:List α)(i:Int):Option α:=(ixN xs.length i).bind λj=>xs[j]?
theorem Xw(h:ixN n i=some j):seqIndex? i n=some j/\j < n/\-(n:Int)<=i/\i < n:=by
 unfold ixN at h
 by_cases m:0<=i
 ·rw[qX m]at h
  by_cases l:i < n
  ·rw[qX l]at h
   have e:i.toNat=j:=B1 h;exact⟨by rw[dj m l,e],by lia,by lia,l⟩
  ext
 ·rw[qY m]at h
  by_cases l:-(n:Int)<=i
  ·rw[qX l]at h
   have e:(i+n).toNat=j:=B1 h;exact⟨by rw[seqIndex_neg (by ext) l,e],by lia,l,by lia⟩
  ext
theorem YC{l:Type}{xs:List l}{i:Int}{v:l}(h:atI xs i=some v):∃j,seqIndex? i xs.length=some j/\xs[j]?=some v/\j < xs.length/\-(xs.length:Int)<=i/\i < xs.length:=by
 unfold atI at h
 cases e:ixN xs.length i with
 | none=>ext
 | some j=>
  rw[e]at h;obtain⟨m,o,w,A⟩:=Xw e;exact⟨j,m,h,o,w,A⟩
def LQ(b:Expr):Prop:=∀o i,Ts b false o i=operate [o,i] (Iu o i)
def IxR(X:Cx)(r:R2):Prop:=
 ∀(value l:Expr) (m:List (AL×Obj)) (s:AK) (o:St) (H:Hp) (x y:V) (v u:AD) (Q:VK),Inv X m o H s->RelV x v->RelV y u->r x y H Q ->
  Ts l false v u=operate [v,u] (Iu v u)->AZ (AY X.prog X.w) X.A (YH value l v u) (EP X m o Q) X.xe s
def MtR(X:Cx)(id:String)(r:V->List V->Hp->VK->Prop):Prop:=
 ∀(l:List (AL×Obj)) (s:AK) (m:St) (H:Hp) (x:V) (o:List V) (v:AD) (B:List AD) (Q:VK),Inv X l m H s->RelV x v->Bp o B->r x o H Q ->
  AZ (AY X.prog X.w) X.A (call (.builtin id) (v :: B)) (EP X l m Q) X.xe s
section
variable{P:Al}{w:A1}{H:Hp}{h:BI}{a:AL}
theorem jN(ok:HOk P w H h)(e:Rd H a u):CS P w H h a u:=e.ok ok
theorem QZ(ok:HOk P w H h)(e:Rd H a (.dK kvs)):kvs.length<=sizeLine/\(a==B0)=false/\∃vs,KV kvs vs/\h.DictOf (Dm P w) a vs:=
 show CS P w H h a (.dK kvs)from jN ok e
theorem qj(ok:HOk P w H h)(e:H a=some (.dK kvs)):kvs.length<=sizeLine/\(a==B0)=false/\∃vs,KV kvs vs/\h.DictOf (Dm P w) a vs:=QZ ok (.inl e)
theorem No(ok:HOk P w H h)(e:H a=some (.tup (ks.map kV))):(N2 (Dm P w)).is h ks a:=by
 obtain⟨_,l,r,o,m,A,n,B⟩:=(show CS P w H h a (.tup (ks.map kV))from ok a _ e);exact⟨o,l.toArray,n,m,A,B,by simpa using R9 r⟩
theorem QY(ok:HOk P w H h)(e:Rd H a (.dT kvs)):kvs.length<=sizeLine/\(a==B0)=false /\
  ∃xs,KT H kvs xs/\h.DictOfH (N2 (Dm P w)) a xs:=by
 obtain⟨z,y,xs,r,o,B,C,E,G,I,J,L⟩:=(show CS P w H h a (.dT kvs)from jN ok e);refine⟨z,y,xs,r,o,B,C,E,G,I,J,λx A=>?_,L⟩
 have all:∀{l:List (List Key×V)} {m:List (List Key×AL×AD)},KT H l m->∀x∈m,(N2 (Dm P w)).is h x.1 x.2.1:=by
  intro l m q
  induction q with
  | nil=>ext
  | @cons p q O Q R t N=>
   intro x A
   rcases Aj.mp A with e | A
   ·subst e
    exact No ok (by ext)
   ·exact N x A
 exact all r x A
theorem qh(ok:HOk P w H h)(e:H a=some (.dT kvs)):kvs.length<=sizeLine/\(a==B0)=false /\
  ∃xs,KT H kvs xs/\h.DictOfH (N2 (Dm P w)) a xs:=QY ok (.inl e)
end
def K6(H:Hp)(a:AL)(y:V)(r:Option V):Prop:=
 (∃l k,Rd H a (.dK l)/\y=kV k/\r=JX l k)∨∃l k b,Rd H a (.dT l)/\y=.ref b/\H b=some (.tup (k.map kV))/\r=JX l k
def Tq(H:Hp)(a:AL)(y v:V)(H':Hp):Prop:=
 (∃l k,H a=some (.dK l)/\y=kV k/\l.length < sizeLine/\H'=upd H a (.dK (IE l k v))) ∨
 ∃l k b,H a=some (.dT l)/\y=.ref b/\H b=some (.tup (k.map kV))/\l.length < sizeLine/\H'=upd H a (.dT (IE l k v))
theorem K6.k{H}{a}{kvs}{k}(e:H a=some (.dK kvs)):K6 H a (kV k) (JX kvs k):=.inl ⟨kvs,k,.inl e,rfl,rfl⟩
theorem K6.t{H}{a b}{kvs}{k}(e:H a=some (.dT kvs))(eb:H b=some (.tup (k.map kV))):K6 H a (.ref b) (JX kvs k):=.inr ⟨kvs,k,b,.inl e,rfl,eb,rfl⟩
theorem Tq.k{H}{a}{kvs}{k}{v}(e:H a=some (.dK kvs))(hl:kvs.length < sizeLine):Tq H a (kV k) v (upd H a (.dK (IE kvs k v))):=.inl ⟨kvs,k,e,rfl,hl,rfl⟩
theorem Tq.t{H}{a b}{kvs}{k}{v}(e:H a=some (.dT kvs))(eb:H b=some (.tup (k.map kV)))(hl:kvs.length < sizeLine) :
  Tq H a (.ref b) v (upd H a (.dT (IE kvs k v))):=.inr ⟨kvs,k,b,e,rfl,eb,hl,rfl⟩
variable{X:Cx}{a b:Expr}{ta tb:TE}{pos:Pos}
theorem Uq(l:IxR X r)(m:PE X a ta)(hb:PE X b tb)(hs:LQ b):PE X (.Subscript a b pos) (tOp r ta tb):=by
 intro o s w H Q I h;exact jo (nH m hb I h λv u A x y B C E G q=>l a b o A w B x y v u Q C E G q (hs _ _))
def rIxL(K:AB):R2:=λx y H Q=>∃p l i v,x=.ref p/\y=.int i/\SqL K H p l/\atI l i=some v/\Q v H
def rIxT(K:AB):R2:=λx y H Q=>∃p l i v,x=.ref p/\y=.int i/\SqT K H p l/\atI l i=some v/\Q v H
theorem ix_list:IxR X (rIxL X.K):=by
 intro value m A s B H x y v u Q I G J h C;obtain⟨p,xs,i,z,rfl,rfl,L,N,q⟩:=h;cases G;obtain⟨t,rfl⟩:=J;obtain⟨O,r,o,hz⟩:=I.list L;obtain⟨j,l,P,h3,R,S⟩:=YC N;obtain⟨w,ew,T⟩:=r.get P;have U:=r.length;have hn:=Nk;have fin:EP X A B Q w s:=⟨z,H,I,T,q⟩
 by_cases E:0<=i
 ·have Y:i.toNat=j:=by
   rw[dj E S]at l;exact B1 l
  exact item_listR o.isList E ∅ (by ext) fin C
 ·have Y:(i+(O.toArray.size:Int)).toNat=j:=by
   rw[seqIndex_neg (by ext) R]at l;rw[BU,<-U];exact B1 l
  exact Zo (x:=w) o.isList.typeIs slot_list_getitem.lookup
   (wpAny_getItem_list_neg (Q:=λr Z=>r=w/\EP X A B Q r Z) o.isList ∅ ∅ (by grind) (by grind) ⟨rfl,fin⟩) C
theorem cR:IxR X (rIxT X.K):=by
 intro value l m s o H x y v u Q I B C h E;obtain⟨p,P,i,z,rfl,rfl,G,J,q⟩:=h;cases B;obtain⟨t,rfl⟩:=C;obtain⟨R,r,A,S⟩:=I.tuple G;obtain⟨j,T,L,U,Y,Z⟩:=YC J;obtain⟨w,ew,N⟩:=r.get L;have hl:=r.length;have hn:=Nk;have fin:EP X m o Q w s:=⟨z,H,I,N,q⟩
 exact Zo (x:=w) A.typeIs slot_tuple_getitem.lookup
  (getItem_tuple (j:=j) (Q:=λr O=>r=w/\EP X m o Q r O) A ∅ ∅ (by ext) (by grind) ⟨rfl,fin⟩) E
theorem WU(l:List AD)(n j:Nat)(u:AD):Ec (·.setIfInBounds j u) { cls:=.type "list",data:=.seq l.toArray n }={ cls:=.type "list",data:=.seq (l.set j u).toArray n }:=by
 simp[Ec]
theorem Inv.lst(I:Inv X m o H s)(h:H p=some (.lst xs)) :
  ∃(l:List AD) (n:Nat),Bp xs l/\s.heap.get? p=some { cls:=.type "list",data:=.seq l.toArray n }/\xs.length<=sizeLine:=by
 obtain⟨z,l,n,r,e⟩:=I.hok p _ h;exact⟨l,n,r,e,z⟩
theorem Inv.lstUpd{o:List (AL×Obj)}{w:St}{H:Hp}{s:AK}{p:AL}{xs l:List V}{A its':List AD}{n m:Nat}{f:Obj->Obj}(I:Inv X o w H s)(h:H p=some (.lst xs))
  (C:s.heap.get? p=some { cls:=.type "list",data:=.seq A.toArray n }) (B:f { cls:=.type "list",data:=.seq A.toArray n }={ cls:=.type "list",data:=.seq its'.toArray m }) (r:Bp l its') (E:l.length<=sizeLine) (t:Nat) :
  Inv X o w (upd H p (.lst l)) { s with heap:=s.heap.update p f,toks:=t }:=by
 have e:(s.heap.update p f).get? p=some { cls:=.type "list",data:=.seq its'.toArray m }:=by
  rw[Ch f C (by rw[B] <;> rfl),B]
 refine I.write (x:=p) (e:=p) (by rw[h];trivial) (.inl rfl) (λb u hb q=>(Dc _ _ (CO hb)).trans q) ⟨_,e⟩ ?_;exact⟨E,its',m,r,e⟩
def pr:V->V->V->Hp->(Hp->Prop)->Prop:=λo i v H Q=>∃p l k j,o=.ref p/\i=.int k/\H p=some (.lst l)/\ixN l.length k=some j/\Q (upd H p (.lst (l.set j v)))
theorem a8:qu X pr:=by
 intro G s J H o i v Y Z u Q I L N O h;obtain⟨p,P,k,j,rfl,rfl,A,R,q⟩:=h;cases L;obtain⟨t,rfl⟩:=N;obtain⟨B,n,r,m,hz⟩:=I.lst A;obtain⟨l,h2,S,T⟩:=Xw R;have U:=r.length;have hn:=Nk
 have C:Inv X G J (upd H p (.lst (P.set j v))) { s with heap:=s.heap.update p (Ec (·.setIfInBounds j u)) }:=
  I.lstUpd A m (WU B n j u) (r.set O j) ∅ s.toks
 by_cases E:0<=k
 ·have w:k.toNat=j:=by
   rw[dj E T]at l;exact B1 l
  exact PySem.W.ki_setAt m E ∅ ∅ (by rw[w];exact⟨_,C,q⟩)
 ·have w:(k+(B.toArray.size:Int)).toNat=j:=by
   rw[seqIndex_neg (by ext) S]at l;rw[BU,<-U];exact B1 l
  exact PySem.W.ki_setBack m ∅ ∅ (by grind) (by rw[w];exact⟨_,C,q⟩)
theorem Jn:G8 X (.builtin "len") (λxs H Q=>∃p l,xs=[.ref p]/\(SqL X.K H p l∨SqT X.K H p l)/\Q (.int l.length) H):=by
 intro G s J H xs L Q I r h;obtain⟨p,l,rfl,m,q⟩:=h;obtain⟨u,rfl,B⟩:=vals1 r;cases B;have N:=Nk
 rcases m with m | m
 ·obtain⟨C,w,A,E⟩:=I.list m
  have o:=w.length;exact Calls.call_len_list A.isList (by simp only[BU] <;> lia) ⟨.int l.length,H,I.tok _,⟨s.toks+1,by ext⟩,q⟩
 ·obtain⟨C,w,A,E⟩:=I.tuple m
  have o:=w.length;exact len_tuple A (by simp only[BU] <;> lia) ⟨.int l.length,H,I.tok _,⟨s.toks+1,by grind⟩,q⟩
theorem M8:G8 X (.type "list") (λxs H Q=>∃p B,xs=[.ref p]/\(SqL X.K H p B∨SqT X.K H p B)/\∀l,H l=none->Q (.ref l) (upd H l (.lst B))):=by
 intro T s U H xs Z Q I r h;obtain⟨p,B,rfl,G,q⟩:=h;obtain⟨u,rfl,Y⟩:=vals1 r;cases Y
 have fin:∀(A:List AD),Bp B A->B.length<=sizeLine->∀(m:BI) (C:Nat),(∀b S,s.heap.get? b=some S->m.get? b=some S) ->
   m.get? s.heap.objs.size=some { cls:=.type "list",dict:=none,data:=.seq A.toArray C,slots:=#[] }->EP X T U Q (.ref s.heap.objs.size) { s with heap:=m }:=λA E J m C kp e=>
  ⟨.ref s.heap.objs.size,_,I.laid (t':=s.toks) kp (AN _) (show CS X.prog X.w _ m _ (.lst B)from⟨J,A,C,E,e⟩),rfl,q _ (I.hok.fresh (AN _))⟩
 rcases G with G | G
 ·obtain⟨A,E,N,J⟩:=I.list G
  have L:=E.length;obtain⟨o,O,P,n,R⟩:=N.isList;exact call_list_seq p (.inl rfl) O P R (λm C kp e=>fin A E J m C kp e) ∅
 ·obtain⟨A,E,N,J⟩:=I.tuple G
  have L:=E.length;obtain⟨o,O,P,n,R⟩:=N;exact call_list_seq p (.inr rfl) O P R (λm C kp e=>fin A E J m C kp e) ∅
theorem RP:G8 X (.type "tuple") (λxs H Q=>∃p m,xs=[.ref p]/\((SqL X.K H p m/\∀l,H l=none->Q (.ref l) (upd H l (.tup m)))∨(SqT X.K H p m/\Q (.ref p) H))):=by
 intro J s L H xs T Q I r h;obtain⟨p,m,rfl,h⟩:=h;obtain⟨u,rfl,R⟩:=vals1 r;cases R
 rcases h with⟨B,q⟩ | ⟨B,q⟩
 ·obtain⟨C,E,G,N⟩:=I.list B
  have O:=E.length;refine call_tuple_list G.isList (λA kp=>?_) ∅;have P:Inv X J L H { s with heap:=A }:=I.kept (t':=s.toks) kp
  have S:Inv X J L (upd H A.objs.size (.tup m)) { s with heap:=A.push { cls:=.type "tuple",data:=.seq C.toArray } }:=
   P.laid (t':=s.toks) (λb o e=>AG _ e) (AN _) (show CS X.prog X.w _ _ _ (.tup m)from⟨⟨N,⟨_,AQ _ rfl,rfl⟩⟩,C,E,Zw _ _⟩)
  exact⟨.ref A.objs.size,_,S,rfl,q _ (P.hok.fresh (AN _))⟩
 ·obtain⟨C,E,G,N⟩:=I.tuple B
  exact call_tuple_same G ⟨.ref p,H,I,rfl,q⟩
def tyV(K:AB)(T:String)(x:V)(H:Hp):Prop:=match x with
 | .str _=>T = "str"
 | .int _=>T = "int"
 | .ref p=>(T = "list"/\∃m,SqL K H p m)∨(T = "tuple"/\∃o,K.lookup p=some o/\o.cls=.type "tuple"/\o.dict=none) ∨
   (T = "dict"/\((∃l,H p=some (.dK l))∨∃l,H p=some (.dT l)))∨(T = "set"/\∃S n,H p=some (.set S n))
 | _=>False
theorem ak(I:Inv X J L H s)(r:RelV x v)(ty:tyV X.K T x H) :
  s.TypeIs v T/\∀a,v=.ref a->∃ob,s.heap.get? a=some ob/\ob.dict=none:=by
 cases x with
 | str z=>
  obtain⟨t,rfl⟩:=r;cases(show T = "str" from ty);exact⟨typeIs_str s z t,λM e=>nomatch e⟩
 | int i=>
  obtain⟨t,rfl⟩:=r;cases(show T = "int" from ty);exact⟨typeIs_int s i t,λM e=>nomatch e⟩
 | ref p=>
  cases r
  rcases ty with⟨rfl,N,E⟩ | ⟨rfl,o,l,G,w⟩ | ⟨rfl,l⟩ | ⟨rfl,S,n,l⟩
  ·obtain⟨O,_,C,_⟩:=I.list E
   refine⟨C.isList.typeIs,λa e=>?_⟩;cases e;obtain⟨o,n,e,c,w,_⟩:=C;exact⟨o,e,w⟩
  ·refine⟨⟨o,I.kIn p o l,G⟩,λa e=>?_⟩
   cases e;exact⟨o,I.kIn _ o l,w⟩
  ·have z:∃o,s.heap.get? p=some o/\o.ExactDict:=by
    rcases l with⟨A,l⟩ | ⟨A,l⟩
    ·obtain⟨_,_,_,_,o,_,_,e,m,_⟩:=I.hok p _ l
     ext
    ·obtain⟨_,_,_,_,o,_,_,e,m,_⟩:=I.hok p _ l
     ext
   obtain⟨o,e,m⟩:=z;refine⟨⟨o,e,m.1⟩,λa B=>?_⟩;cases B;exact⟨o,e,m.2.1⟩
  ·obtain⟨o,_,_,_,e,m,_⟩:=I.hok p _ l
   refine⟨⟨o,e,m.1⟩,λa B=>?_⟩;cases B;exact⟨o,e,m.2.1⟩
 | _=>exact Q9 ty
def tBM0(K:AB)(T:String)(r:V->List V->Hp->VK->Prop)(to:TE):TE:=λm H Q=>to m H λx l=>tyV K T x l/\r x [] l Q
def tBM(K:AB)(T:String)(r:V->List V->Hp->VK->Prop)(to:TE)(t:TA):TE:=λl H Q=>to l H λx m=>tyV K T x m/\t l m λo w=>r x o w Q
variable{o e:Expr}{es:List Expr}{to:TE}{t:TA}{name:Str}{apos cpos:Pos}{T id:String}{r:V->List V->Hp->VK->Prop}
theorem lh(pa:PlainAttrs T)(slot:Slot T name id)(B:typeOf (.builtin id)=pure (.type "method_descriptor")) (C:MtR X id r) (E:PE X o to)
  (G:autoParam (Bi o name X.env (A6 o X.env)=A6 o X.env) yq0q) (J:autoParam ((apos.endLine==cpos.line)=true) yq0q):PE X (.Call (.Attribute o name apos) [] [] cpos) (tBM0 X.K T r to):=by
 intro l s m H Q I h;refine wpAny_Call_method0_late G J (thn (E l s m H _ I h) ?_);rintro v L ⟨x,N,w,A,ty,O⟩;obtain⟨P,R⟩:=ak w A ty;exact⟨T,id,pa,slot,B,P,R,Jz rfl (PySem.evalArgs_none (C l L m N x [] v [] Q w A .nil O))⟩
theorem bi(pa:PlainAttrs T)(slot:Slot T name id)(C:typeOf (.builtin id)=pure (.type "method_descriptor")) (E:MtR X id r) (G:PE X o to) (J:PA X (e :: es) t)
  (L:autoParam (Bi o name X.env (A6 o X.env)=A6 o X.env) yq0q)
  (N:autoParam (((Cu cpos (AH (e :: es) X.env)).all (λx=>!x.1)&&(NI cpos (IB [] X.env)).all (λx=>x.1.isSome)
    &&decide ((e :: es).length+([]:List KD).length+(if ([]:List KD).isEmpty then 0 else 1) < 30))=true) yq0q)
  (O:autoParam ((apos.endLine==cpos.line)=true) yq0q) (hs:autoParam (zSp X e es) yq0q) (sM:autoParam ((Cu cpos (AH es X.env)).any (·.1)=false) yq0q) :
  PE X (.Call (.Attribute o name apos) (e :: es) [] cpos) (tBM X.K T r to t):=by
 intro l s m H Q I h;refine wpAny_Call_method_late L N O rfl (thn (G l s m H _ I h) λv P ⟨x,R,w,A,ty,S⟩=>?_);obtain⟨U,Y⟩:=ak w A ty;refine⟨T,id,pa,slot,C,U,Y,?_⟩;have B:=J cpos l P m R _ w S;rw[hs]at B ⊢;refine Jz (by assumption) (Vt ?_)
 exact thn B λZ s2 ⟨vs,H2,I2,r2,q2⟩=>E l s2 m H2 x vs v Z Q I2 A r2 q2
end
section
def MtM(X:Cx)(id:String)(r:V->List V->Hp->VK->Prop):Prop:=
 ∀(l:List (AL×Obj)) (s:AK) (m:St) (H:Hp) (x:V) (o:List V) (v:AD) (B:List AD) (Q:VK),Inv X l m H s->RelV x v->Bp o B->r x o H Q ->
  AZ (AY X.prog X.w) X.A (call (.builtin id) (v :: B)) (EP X l m Q) X.xe s
theorem Bp.one:∀{x:V} {us:List AD},Bp [x] us->∃u,us=[u]/\RelV x u
 | _,_,.cons r .nil=>⟨_,rfl,r⟩
section
variable{X:Cx}{ζ:List (AL×Obj)}{σ:St}{H:Hp}{s:AK}{a:AL}{y v:V}{u r:AD}{o:Option V}{A:BP}{E:AD->AK->Prop}
theorem Inv.big(I:Inv X ζ σ H s):B0 < s.heap.objs.size:=by
 have h:A9 < s.heap.objs.size:=(I.mod.glob.keeps I.bk).lt;exact OV ∅ h
theorem ZK(N:A.units+1 < Bd)(I:Inv X ζ σ H s)(g:K6 H a y (some v))(L:RelV y u)(h:∀m s',Inv X ζ σ H s'->RelV v m->Q m s') :
  AZ (AY X.prog X.w) A (Iu (.ref a) u) Q E s:=by
 rcases g with⟨B,k,e,C,l⟩ | ⟨B,k,b,e,C,O,l⟩
 ·subst C
  obtain⟨z,P,vs,rel,G⟩:=QZ I.hok e;obtain⟨m,hw,J⟩:=JK.some_of (v:=v) (o:=Qz vs k) (by rw[l];exact rel.val k);exact wpAny_getItem_of (R8 L) G.mapOf hw (h m _ (I.tok _) J)
 ·subst C
  cases(show u=AV b from L);obtain⟨z,P,R,rel,G⟩:=QY I.hok e;obtain⟨m,hw,J⟩:=JK.some_of (v:=v) (o:=(KA R k).map (·.2)) (by rw[l];exact rel.val k);obtain⟨p,S,T⟩:=GM.mp hw;refine jh (Ge N) (No I.hok O) G S ?_;rw[T];exact h m _ (I.tok _) J
theorem d_in(L:A.units+1 < Bd)(I:Inv X ζ σ H s)(g:K6 H a y o)(J:RelV y u)(h:∀s',Inv X ζ σ H s'->Q (.bool o.isSome) s') :
  AZ (AY X.prog X.w) A (Bo .In u (.ref a)) Q E s:=by
 rcases g with⟨m,k,e,B,l⟩ | ⟨m,k,b,e,B,N,l⟩
 ·subst B
  obtain⟨z,C,vs,rel,G⟩:=QZ I.hok e;refine wpAny_in_of (R8 J) C G.mapOf ?_;rw[<-(rel.val k).isSome_eq,<-l];exact h _ (I.tok _)
 ·subst B
  cases(show u=AV b from J);obtain⟨z,C,O,rel,G⟩:=QY I.hok e;refine wpAny_in_heap (Ge L) (No I.hok N) C G ?_;have q:=(rel.val k).isSome_eq;rw[GN]at q;rw[<-q,<-l];exact h _ (I.tok _)
theorem iZ(L:A.units+1 < Bd)(I:Inv X ζ σ H s)(g:K6 H a y o)(J:RelV y u)(h:∀s',Inv X ζ σ H s'->Q (.bool (!o.isSome)) s') :
  AZ (AY X.prog X.w) A (Bo .NotIn u (.ref a)) Q E s:=by
 rcases g with⟨m,k,e,B,l⟩ | ⟨m,k,b,e,B,N,l⟩
 ·subst B
  obtain⟨z,C,vs,rel,G⟩:=QZ I.hok e;refine wpAny_notIn_of (R8 J) C G.mapOf ?_;rw[<-(rel.val k).isSome_eq,<-l];exact h _ (I.tok _)
 ·subst B
  cases(show u=AV b from J);obtain⟨z,C,O,rel,G⟩:=QY I.hok e;refine wpAny_notIn_heap (Ge L) (No I.hok N) C G ?_;have q:=(rel.val k).isSome_eq;rw[GN]at q;rw[<-q,<-l];exact h _ (I.tok _)
theorem Td(I:Inv X ζ σ H s)(l:Mut (H a))(hs:DM a s.heap h')(m:∃q,h'.get? a=some q)(new:CS X.prog X.w (upd H a ob) h' a ob) :
  Inv X ζ σ (upd H a ob) { s with heap:=h',toks:=t' }:=
 I.write (x:=a) (e:=a) l (.inl rfl) (λb q hb z=>(hs.2 b hb).trans z) m new
theorem m8(z:kvs.length<=sizeLine)(l:(a==B0)=false)(rel:KV kvs vs)(m:h'.DictOf (Dm P w) a vs) :
  CS P w H' h' a (.dK kvs):=⟨z,l,vs,rel,m⟩
theorem ZJ(hu:A.units+1 < Bd)(I:Inv X ζ σ H s)(g:Tq H a y v H')(S:RelV y u)(T:RelV v r)(h:∀s',Inv X ζ σ H' s'->Q () s') :
  AZ (AY X.prog X.w) A (Zp (.ref a) u r) Q E s:=by
 rcases g with⟨m,k,e,G,l,J⟩ | ⟨m,k,b,e,G,U,l,J⟩
 ·subst G J
  obtain⟨z,L,vs,rel,N⟩:=qj I.hok e
  have O:vs.length<=sizeLine:=by rw[<-rel.length];exact z
  have P:(IE m k v).length<=sizeLine:=by have:=Ku m k v;lia
  refine wpAny_setItem_pairs (hsz:=O) (R8 S) N λY B R=>h _ ?_
  have he:∃q,Y.get? a=some q:=let ⟨q,_,_,C,_⟩:=B;⟨q,C⟩
  exact Td I (by rw[e];exact D8) R he (m8 P L (rel.put k T) B)
 ·subst G J
  cases(show u=AV b from S);obtain⟨z,L,xs,rel,N⟩:=qh I.hok e
  have O:xs.length<=sizeLine:=by rw[<-Cw rel];exact z
  have P:(IE m k v).length<=sizeLine:=by have:=Ku m k v;lia
  refine je (hsz:=O) (Ge hu) (No I.hok U) N λY B R=>h _ ?_
  obtain⟨q,es,ep,C,h2,h3,h4,_,h5⟩:=B;refine Td I (by rw[e];exact D8) R ⟨q,C⟩ ⟨P,L,_,(rel.put k U T).keeps λc ys Z=>?_,q,es,ep,C,h2,h3,h4,h5⟩;rw[AO (jT Z e (λz=>nomatch z))];exact Z
variable{X:Cx}{ζ:List (AL×Obj)}{σ:St}{H:Hp}{s:AK}{l:AL}{xs ys:List V}
theorem Inv.lset{m its':List AD}{n:Nat}{f:Array AD->Array AD}{t':Nat}(I:Inv X ζ σ H s)(w:H l=some (.lst xs))
  (e:s.heap.get? l=some { cls:=.type "list",data:=.seq m.toArray n }) (B:f m.toArray=its'.toArray) (C:Bp ys its') (G:ys.length<=sizeLine) :
  Inv X ζ σ (upd H l (.lst ys)) { s with heap:=s.heap.update l (Ec f),toks:=t' }:=by
 have q:=PySem.IsL.update e f;rw[B]at q;refine I.write (x:=l) (e:=l) (by rw[w];exact trivial) (.inl rfl) (λL u hb J=>(Dc s.heap (Ec f) (CO hb)).trans J) ⟨_,q⟩ ?_;exact⟨G,its',_,C,q⟩
theorem Inv.lnew(I:Inv X ζ σ H s)(w:Bp ys m)(B:ys.length<=sizeLine) :
  Inv X ζ σ (upd H s.heap.objs.size (.lst ys)) { s with heap:=s.heap.push { cls:=.type "list",data:=.seq m.toArray },toks:=t' }:=
 I.laid (λG G q=>AG _ q) (AN _) ⟨B,m,0,w,AQ _ rfl⟩
theorem Inv.fresh(I:Inv X ζ σ H s):H s.heap.objs.size=none:=I.hok.fresh (AN _)
theorem Inv.lstM(I:Inv X ζ σ H s)(w:H l=some (.lst xs)):xs.length<=sizeLine/\∃(m:List AD) (n:Nat),Bp xs m/\xs.length=m.length/\s.heap.get? l=some { cls:=.type "list",data:=.seq m.toArray n }:=by
 obtain⟨z,m,n,r,e⟩:=I.hok l _ w;exact⟨z,m,n,r,r.length,e⟩
theorem b9(h:n<=sizeLine):Ha n=false:=by
 unfold Ha;ext
end
def ZY(i:Expr):Prop:=∀l m,Ts i false l m=operate [l,m] (Iu l m)
theorem XW{prog}{w}{A}{E}{s}{G}{value l}{pos}{T id}{Q}
  (hl:typeLookup (.type T) "__getitem__" = pure (some (.builtin id))) (hs:ZY l)
  (h:AZ (AY prog w) A (A6 value G) (λo B=>AZ (AY prog w) A (A6 l G) (λi s₂=>s₂.TypeIs o T/\AZ (AY prog w) A (Iu o i) Q E s₂) E B) E s) :
  AZ (AY prog w) A (A6 (.Subscript value l pos) G) Q E s:=by
 refine jo (DP h (λo B H=>DP H (λi s₂ m=>?_) λM M x=>x) λM M x=>x);obtain⟨J,m⟩:=m;unfold YH;refine AA ?_;rw[getitemInPython_of_ne J.not_modules];refine AA (E4 J hl ?_)
 have fin:AZ (AY prog w) A (Ts l false o i) (λr C=>AZ (AY prog w) A (letTemporaryGo value o r >>= λM=>pure r) Q E C) E s₂:=by
  rw[hs o i];exact wpAny_operating (DP m (λr C I=>AA (wpAny_letTemporaryGo (AC I))) λM M x=>x)
 first
  | exact AC (AA fin)
  | exact AA (AC (AA fin))
  | exact AA fin
theorem VD(I:Inv X w A H s)(g:K6 H a y o):s.TypeIs (.ref a) "dict":=by
 rcases g with⟨l,k,e,_,_⟩ | ⟨l,k,b,e,_,_,_⟩
 ·obtain⟨_,_,vs,_,m⟩:=QZ I.hok e
  exact m.typeIs
 ·obtain⟨_,_,B,_,m⟩:=QY I.hok e
  exact m.typeIs
def pO(o ty:TE):TE:=λl H Q=>o l H λx w=>ty l w λy m=>∃a v,x=.ref a/\K6 m a y (some v)/\Q v m
def tDIn(ty w:TE):TE:=λl H Q=>ty l H λy A=>w l A λx m=>∃a o,x=.ref a/\K6 m a y o/\Q (.bl o.isSome) m
def gH(ty w:TE):TE:=λl H Q=>ty l H λy A=>w l A λx m=>∃a o,x=.ref a/\K6 m a y o/\Q (.bl (!o.isSome)) m
def pZ(o ty w:TE):TS:=λD l H=>w l H λv A=>o l A λx B=>ty l B λy C=>∃a m,x=.ref a/\Tq C a y v m/\D.nx l m
variable{X:Cx}
def gW:V->List V->Hp->VK->Prop:=λx vs H Q=>∃l m y,x=.ref l/\vs=[y]/\H l=some (.lst m)/\m.length < sizeLine/\Q .non (upd H l (.lst (m++[y])))
theorem Nj:MtM X "list.append" gW:=by
 intro C s E H x vs v G Q I w A h;obtain⟨l,J,y,rfl,rfl,m,L,q⟩:=h;cases w;obtain⟨u,rfl,B⟩:=A.one;obtain⟨z,o,n,r,N,e⟩:=I.lstM m;refine call_meets F.slot_list_append ⟨_,e,rfl⟩ F.entry_list_append (F.args_list_append_2 _ _) (PySem.list_append l o.toArray n u ∅) ⟨e,?_⟩;refine⟨.non,_,I.lset (its':=o++[u]) m e ∅ (r.append (.cons B .nil)) ?_,rfl,q⟩;rw[AS,Ap]
 trivial
def gV:V->List V->Hp->VK->Prop:=λx vs H Q=>∃l b m o,x=.ref l/\vs=[.ref b]/\H l=some (.lst m)/\H b=some (.lst o)/\m.length+o.length<=sizeLine/\Q .non (upd H l (.lst (m++o)))
theorem Y0:MtM X "list.extend" gV:=by
 intro P s R H x vs v S Q I B C h;obtain⟨l,b,T,U,rfl,rfl,A,E,Y,q⟩:=h;cases B;obtain⟨u,rfl,G⟩:=C.one;cases G;obtain⟨z,m,n,r,Z,e⟩:=I.lstM A;obtain⟨z2,o,J,L,yA,N⟩:=I.lstM E
 have w:m.toArray.size+o.toArray.size<=sizeLine:=by rw[BU,BU];ext
 have O:¬(!m.toArray.isEmpty&&Ha (m.toArray.size+o.toArray.size))=true:=by
  rw[b9 w,i8];exact Av
 refine call_meets F.slot_list_extend ⟨_,e,rfl⟩ F.entry_list_extend (F.args_list_extend_2 _ _)
  (AutoSeq1.list_extend_list_list_0 l m.toArray n b o.toArray J O (by rw[BU];ext) ∅) ⟨e,N,?_⟩
 refine⟨.non,_,I.lset (its':=m++o) A e ∅ (r.append L) ?_,rfl,q⟩;ext
def rCat:R2:=λx y H Q=>∃l b m o,x=.ref l/\y=.ref b/\H l=some (.lst m)/\H b=some (.lst o)/\m.length+o.length<=sizeLine/\∀p,H p=none->Q (.ref p) (upd H p (.lst (m++o)))
theorem l5:OpR X (EL .Add) rCat:=by
 intro L s N H x y v u Q I w A h;obtain⟨l,b,O,R,rfl,rfl,B,C,S,q⟩:=h;cases w;cases A;obtain⟨z,m,n,r,T,e⟩:=I.lstM B;obtain⟨U,o,Y,E,Z,G⟩:=I.lstM C;refine PySem.P.add_list e G ?_ ∅
 have J:m.toArray++o.toArray=(m++o).toArray:=by simp
 rw[J];exact⟨.ref _,_,I.lnew (t':=s.toks) (r.append E) ∅,rfl,q _ I.fresh⟩
section
variable{X:Cx}{o i value:Expr}{pos pos':Pos}{td ty tv:TE}
theorem Xk(B:X.A.units+1 < Bd)(C:PE X o td)(hi:PE X i ty)(hs:ZY i):PE X (.Subscript o i pos) (pO td ty):=by
 intro l s m H Q I h;refine XW Qt.lookup hs (thn (C l s m H _ I h) λu E ⟨x,G,J,L,N⟩=>thn (hi l E m G _ J N) ?_);rintro Y Z ⟨y,O,w,P,a,v,R,g,S⟩;subst R;obtain rfl:u=AV a:=L;exact⟨VD w g,ZK B w g P λw' s3 T U=>⟨v,O,T,U,S⟩⟩
theorem lq(w:X.A.units+1 < Bd)(hi:PE X i ty)(B:PE X o td):PC X .In i o (tDIn ty td):=by
 intro l s m H Q I h
 refine thn (hi l s m H _ I h) λY C ⟨y,E,G,J,L⟩=>thn (B l C m E _ G L) ?_;rintro u Z ⟨x,N,O,P,a,R,S,g,T⟩
 subst S;obtain rfl:u=AV a:=P
 exact d_in w O g J λs3 U=>⟨.bl R.isSome,N,U,rfl,T⟩
theorem Ry(w:X.A.units+1 < Bd)(hi:PE X i ty)(B:PE X o td):PC X .NotIn i o (gH ty td):=by
 intro l s m H Q I h
 refine thn (hi l s m H _ I h) λY C ⟨y,E,G,J,L⟩=>thn (B l C m E _ G L) ?_;rintro u Z ⟨x,N,O,P,a,R,S,g,T⟩
 subst S;obtain rfl:u=AV a:=P
 exact iZ w O g J λs3 U=>⟨.bl (!R.isSome),N,U,rfl,T⟩
theorem TB(w:X.A.units+1 < Bd)(B:PE X o td)(hi:PE X i ty)(C:PE X value tv)(hs:Bb value (some (.Subscript o i pos')) pos.line X.env=pure false) :
  PS X (.Assign [.Subscript o i pos'] value pos) (pZ td ty tv):=by
 intro m s l H D I h;refine Zn (thn (C m s l H _ I h) λr E ⟨v,G,J,L,N⟩=>thn (B m E l G _ J N) λu O ⟨x,P,Q,R,S⟩=>thn (hi m O l P _ Q S) ?_) hs;rintro iv s3 ⟨y,H3,T,U,a,Y,Z,g,q3⟩;subst Z;obtain rfl:u=AV a:=R
 exact ZJ w T g U L λs4 I4=>⟨l,Y,I4,q3⟩
end
theorem dB(h:BI)(hb:B0 < h.objs.size):CS P w H (h.push { cls:=.type "dict",data:=.dict #[] }) h.objs.size (.dK []):=
 ⟨Bc _,beq_eq_false_iff_ne.mpr (CO (Ao hb)),[],.nil,BI.DictOf.new h⟩
theorem dA(h:BI)(hb:B0 < h.objs.size):CS P w H (h.push { cls:=.type "dict",data:=.dict #[] }) h.objs.size (.dT []):=
 ⟨Bc _,beq_eq_false_iff_ne.mpr (CO (Ao hb)),[],.nil,_,#[],0,AQ _ rfl,⟨rfl,rfl,rfl⟩,rfl,rfl,GV⟩
def kj:TE:=λG H Q=>∀p,H p=none->Q (.ref p) (upd H p (.dK []))
def kg:TE:=λG H Q=>∀p,H p=none->Q (.ref p) (upd H p (.dT []))
variable{prog:Al}{w:A1}{A:BP}{E:AD->AK->Prop}{s:AK}
section
variable{X:Cx}{pos:Pos}
theorem Us:PE X (.Dict [] [] pos) kj:=λl s m H Q I h=>
 SL ⟨.ref s.heap.objs.size,_,I.laid (a:=s.heap.objs.size) (o:=.dK []) (t':=s.toks) (λG G q=>AG _ q) (AN _) (dB s.heap I.big),rfl,h _ (I.hok.fresh (AN _))⟩
theorem be:PE X (.Dict [] [] pos) kg:=λl s m H Q I h=>
 SL ⟨.ref s.heap.objs.size,_,I.laid (a:=s.heap.objs.size) (o:=.dT []) (t':=s.toks) (λG G q=>AG _ q) (AN _) (dA s.heap I.big),rfl,h _ (I.hok.fresh (AN _))⟩
end
structure M2(X:Cx)(o:Expr)(m:Str)(apos:Pos)(e f:Expr)(cpos:Pos):Prop where
 base:Bi o m X.env (A6 o X.env)=A6 o X.env
 few:((Cu cpos (AH [e,f] X.env)).all (λx=>!x.1)&&(NI cpos (IB [] X.env)).all (λx=>x.1.isSome)
   &&decide (([e,f]:List Expr).length+([]:List KD).length+(if ([]:List KD).isEmpty then 0 else 1) < 30))=true
 line:(apos.endLine==cpos.line)=true
 trees:Cu cpos (AH [e,f] X.env)=[(false,A6 e X.env),(false,A6 f X.env)]
def IsD(H:Hp)(a:AL):Prop:=(∃l,Rd H a (.dK l))∨∃l,Rd H a (.dT l)
theorem mU(I:Inv X G J H s)(d:IsD H a) :
  s.TypeIs (.ref a) "dict"/\(∀b,AV a=.ref b->∃ob,s.heap.get? b=some ob/\ob.dict=none)/\(a==B0)=false:=by
 rcases d with⟨m,e⟩ | ⟨m,e⟩
 ·obtain⟨_,o,vs,_,l⟩:=QZ I.hok e
  refine⟨l.typeIs,λb q=>?_,o⟩;cases q;obtain⟨ob,_,_,B,C,_⟩:=l;exact⟨ob,B,C.2.1⟩
 ·obtain⟨_,o,L,_,l⟩:=QY I.hok e
  refine⟨l.typeIs,λb q=>?_,o⟩;cases q;obtain⟨ob,_,_,B,C,_⟩:=l;exact⟨ob,B,C.2.1⟩
section
variable{X:Cx}{ζ:List (AL×Obj)}{σ:St}{H:Hp}{s:AK}{a:AL}{y d:V}{u r:AD}{o:Option V}{A:BP}{E:AD->AK->Prop}
theorem nB(N:A.units+1 < Bd)(I:Inv X ζ σ H s)(g:K6 H a y o)(J:RelV y u)(rd:RelV d r)(h:∀L s',Inv X ζ σ H s'->RelV (o.getD d) L->Q L s') :
  AZ (AY X.prog X.w) A (call (.builtin "dict.get") [.ref a,u,r]) Q E s:=by
 rcases g with⟨B,k,e,C,l⟩ | ⟨B,k,b,e,C,O,l⟩
 ·subst C
  obtain⟨z,G,vs,rel,m⟩:=QZ I.hok e;refine Zr Jy m.typeIs SS (RY _ _ _) (meets_dict_get_default (Dm X.prog X.w) a (R8 J) G r) ⟨_,m.mapOf,h _ _ (I.tok _) ?_⟩;rw[l];exact(rel.val k).getD rd
 ·subst C
  cases(show u=AV b from J);obtain⟨z,G,P,rel,m⟩:=QY I.hok e;refine Zr Jy m.typeIs SS (RY _ _ _) (meetsH_dict_get_default (N2 (Dm X.prog X.w)) a b G r) ⟨Ge N,k,P,No I.hok O,m,h _ _ (I.tok _) ?_⟩;rw[l];exact(rel.val k).getD rd
end
def km(C ty G:TE):TE:=λl H Q=>C l H λx m=>∃a,x=.ref a/\IsD m a/\ty l m λy I=>G l I λz B=>∃o,K6 B a y o/\Q (o.getD z) B
section
variable{X:Cx}{o e f:Expr}{apos cpos:Pos}{td ty tx:TE}
theorem bg(G:X.A.units+1 < Bd)(J:PE X o td)(L:PE X e ty)(N:PE X f tx)(m:M2 X o "get" apos e f cpos):PE X (.Call (.Attribute o "get" apos) [e,f] [] cpos) (km td ty tx):=by
 intro l s B H Q I h;refine wpAny_Call_method m.base m.few m.line PySem.F.plainAttrs_dict Jy PySem.F.type_dict_get (thn (J l s B H _ I h) ?_);rintro u O ⟨x,P,C,R,a,S,d,T⟩;subst S;obtain rfl:u=AV a:=R;obtain⟨U,Y,_⟩:=mU C d;refine⟨U,Y,?_⟩;rw[m.trees]
 refine Jz rfl (Vt (ID (thn (L l O B P _ C T) λiv Z ⟨y,H2,I2,ry,q2⟩=>
  ID (thn (N l Z B H2 _ I2 q2) λfv s3 ⟨z,H3,I3,rz,ov,g,q3⟩=>NQ ?_))))
 exact nB G I3 g ry rz λw' s4 I4 t7=>⟨_,H3,I4,t7,q3⟩
end
end
end L2
namespace Att
open PySem.W PySem.Calls
theorem Oc:∀(ns:ZLi) (vs:List AD),WellAll P h vs (ns.map rC)->Fq vs ns:=by
 intro ns
 induction ns with
 | nil=>
  intro vs w;rw[N6]at w;cases w;exact .nil
 | cons n ns l=>
  intro vs w;rw[Ai]at w
  cases w with
  | cons a b=>
   cases a;exact .cons _ _ (l _ b)
theorem Yo{l:OpenLaw}{n:Nat}(H:l.most=some n){P:Params}{h:BI}{args:List WData}{o:List AD}
  (C:l.row.toRowW.claim.pre args=true) (I:WellAll P h o args) :
  ∃a vs m,o=[AV a]/\args=[WData.list (m.map rC)]/\h.get? a=some { cls:=.type "list",data:=.seq vs.toArray }/\Fq vs m/\m.length<=n:=by
 have B:WShape.hasAll [] args [.list .int]=true:=(pre_splitW C).1;have E:l.pre.holds [] { args:=args }=true:=(pre_splitW C).2;obtain⟨d,r,rfl,J,L⟩:=hasAllW_cons B;obtain rfl:=hasAllW_nil L;obtain⟨T,rfl,N⟩:=hasW_list J;obtain⟨m,rfl⟩:=items_int N
 have w:m.length<=n:=by
  unfold OpenLaw.pre at E
  have A:(WTm.not (.lt (.lit (.int (n:Int))) (.len (.arg 0)))).holds [] { args:=[.list (m.map .int)] }=true:=by
   have A:=(holds_andW E).1;rw[H]at A;exact A
  have G:=condW_of A (w_not (w_lt w_lit (w_len_list (w_arg rfl))));rw[AF]at G
  refine dy λq=>?_
  have U:(n:Int) < ((m.length:Nat):Int):=by ext
  first
   | ext
   | (simp at G;omega)
 cases I with
 | cons O Q=>
  cases Q
  cases O with
  | list R S=>exact⟨_,_,m,rfl,rfl,R,Oc m _ S,w⟩
theorem Yr(l:OpenLaw)(args:List WData):l.row.toRowW.claim.post args (.bool true) args=true:=
 postW_of (r:=l.row.toRowW) (X:=(true==true))
  (show WShape.has [] (.bool true) .bool=true by rfl)
  (show(WTm.eq .res (.lit (.bool true))).value [] { args:=args,res:=some (.bool true),after:=args }=some (.bool (true==true))from w_eq_bool (w_res rfl) w_lit) rfl
theorem VJ{l:OpenLaw}{n:Nat}{q:Al}{A:List Str}{Q:(Str->Option AD)->BI->Prop}{R:A1->BI->Prop}{d:DefRec}
  (Z:l.most=some n) (xx:d.params.defaults=[])
  (call:∀(w:A1) (B m:AK) (J O:Str->Option AD) (H:AL) (o:Obj) (P L C:AD) (a:AL) (vs:List AD) (N:ZLi),
   Ground q A [] Q w B J O m.heap->R w m.heap ->
   m.heap.get? H=some o->o.data=.func (docDef d.name d.params d.body d.scope P L C)->m.heap.CodeRec L d.name->J d.name=some (.ref H) ->
   m.heap.get? a=some { cls:=.type "list",data:=.seq vs.toArray }->Fq vs N->N.length<=n->m.gens = #[] ->
   HE (AY l.prog w) Q3 (.call (.ref H) ⟨[.ref a],[]⟩) (λr s'=>r=.ok (.ret (.bool true))/\OldK m.heap s'.heap/\s'.os=m.os/\JA s'.gens) m) :
  WalkO q A Q R l.row.toRowW d [] (λf vs=>YL f vs):=by
 intro w B m J O G Y H o P L C dV kV ho hd sP S vQ hg T U as t8 X hrd zq vg;obtain rfl:dV=.none:=Dflts.none S xx;obtain rfl:kV=.none:=Dflts.noKw S;obtain⟨a,vs,N,rfl,rfl,vR,E,I⟩:=Yo Z t8 zq;refine enter_call (Ep (call w B m J O H o P L C a vs N G Y ho (fd_plain hd) sP vQ vR E I hg) λr s' hq=>?_);obtain⟨rfl,h2,h3,h4⟩:=hq;exact⟨.inl ⟨.bool true,.bool true,[],rfl,λM=>rfl,.bool true,Yr l _,λM=>⟨Rc,λM hm=>(nomatch hm)⟩⟩,h2,h3,h4⟩
end Att
namespace L2
theorem Rf:∀{vs:List AD} {l:ZLi},Fq vs l->Bp (l.map V.int) vs
 | _,_,.nil=>.nil
 | _,_,.cons n t h=>.cons ⟨t,rfl⟩ (Rf h)
def io(H:Hp):Prop:=∀b,H b=none∨∃o l,H b=some (.frz o (.lst l))
theorem cF{P}{w}{K}{A L}{CX}{k}{N a}{fd}{x}{sp}{s₁}{vs}{B}
  (T:K.In s₁.heap) (U:s₁.heap.Ns A9 A) (hb:s₁.heap.Ns Vk L) (O:∀x:Str,x≠"__name__"->L x=EK x) (zr:s₁.heap.NoLimit) (hg:s₁.gens = #[])
  (Q:s₁.heap.get? a=some { cls:=.type "list",data:=.seq vs.toArray }) (hi:Fq vs B) (hl:B.length<=sizeLine) (hr:FC k Q3)
  (F:∀base:BI,K.In base->base.Ns A9 A->CT P w K A base CX k N fd [x] sp) (xy:∀(s:AK) (u:AD),Vc s fd ⟨[u],[]⟩ [(x,u)])
  (wM:∀H:Hp,io H->SqL K H a (B.map V.int)->sp [.ref a] H (λv M=>v=.bl true) λM M M=>False)
  (zu:∀H e s',CX [] H s₁ (λM M M=>False) e s'->False) :
  HE (AY P w) Q3 (.call (.ref N) ⟨[.ref a],[]⟩) (λr s'=>r=.ok (.ret (.bool true))/\OldK s₁.heap s'.heap/\s'.os=s₁.os/\JA s'.gens) s₁:=by
 have rv:=Rf hi;have X:=hi.length
 have l:∀H:Hp,io H->SqL K H a (B.map V.int)->HOk P w H s₁.heap->(∀b,H b≠none->b=a)->(H a≠none->K.lookup a=none) ->
   HE (AY P w) Q3 (.call (.ref N) ⟨[.ref a],[]⟩) (λr s'=>r=.ok (.ret (.bool true))/\OldK s₁.heap s'.heap/\s'.os=s₁.os/\JA s'.gens) s₁:=by
  intro H Y hS C hA hK
  have Z:∀{b:AL} {o:Obj},s₁.heap.get? b=some o->H b=none->(Ta s₁.heap H).get? b=some o:=λe n=>ca e n
  have xr:∀{b:AL} {o:Obj} {G:Array LZ} {I:Nat},s₁.heap.get? b=some o->o.data=.dict G I->H b=none:=λ{b o G I} e d=>by
   grind
  have J:∀{b:AL} {m:Str->Option AD},s₁.heap.Ns b m->(Ta s₁.heap H).Ns b m:=λ{b m} ⟨o,G,I,e,d,r⟩=>⟨o,G,I,Z e (xr e d),d,r⟩
  have Ϫ:K.In (Ta s₁.heap H):=λb o e=>Z (T b o e) (by
   grind)
  have hM:Mod K A (Ta s₁.heap H):=⟨Ϫ,J U,⟨L,J hb,O⟩,let ⟨mc,h1,h2⟩:=zr;⟨mc,J h1,h2⟩⟩;have e0:Wx P w K A (Ta s₁.heap H) Q3 [] s₁ H:=⟨rfl,hM,λb o e=>hX e,oO (ZA _ _),trivial,λb hb=>zX (show b∈([]:List AL)from hb) ∅,C,.of_eq hg⟩
  refine Ep ((F _ Ϫ (J U)).run Q3 [] s₁ H ⟨[.ref a],[]⟩ [.ref a] [.ref a] _ _ hr e0 (xy s₁ (.ref a)) (.cons rfl .nil) (wM H Y hS)) λr s' h=>?_
  cases r with
  | error e=>exact(zu H e s' h).elim
  | ok fl=>
   cases fl with
   | next=>exact Q9 h
   | brk=>exact Q9 h
   | cont=>exact Q9 h
   | ret u=>
    obtain⟨v,H',os,E,un,zw,r',q⟩:=h;have q':v=.bl true:=q;subst q';obtain rfl:u=MX true:=r';refine⟨rfl,OldK.of_keep λb o e=>?_,os,E⟩
    cases q:H b with
    | none=>exact un.keep b o e q (by intro z;exact zX (show b∈([]:List AL)from z) ∅) ∅
    | some u=>
     rcases Y b with z | ⟨ob,xs,z⟩
     ·ext
     ·have z2:=un.frzs b ob _ z
      obtain⟨e1,_⟩:=C b _ z;obtain⟨e2,_⟩:=zw b _ z2
      ext
 cases R:K.lookup a with
 | some o=>
  have e:=T a o R;rw[Q]at e;cases e
  refine l (λM=>none) (λM=>.inl rfl) (.inr ⟨_,vs.toArray,_,R,rfl,rfl,rfl,by ext,by ext⟩) (λb u z=>by trivial) (λb z=>zX rfl z) λz=>zX rfl z
 | none=>
  refine l (λb=>if b=a then some (.frz { cls:=.type "list",data:=.seq vs.toArray } (.lst (B.map V.int)))else none) (λb=>?_) (.inl (.inr ⟨{ cls:=.type "list",data:=.seq vs.toArray },qX rfl⟩)) (λb u z=>?_) (λb z=>?_) λM=>R
  ·by_cases hb:b=a
   ·exact .inr ⟨_,_,qX hb⟩
   ·exact .inl (qY hb)
  ·by_cases hb:b=a
   ·have S:=(qX hb).symm.trans z
    cases S;subst hb;exact⟨Q,by rw[AF];exact hl,vs,_,rv,Q⟩
   ·have S:=(qY hb).symm.trans z
    cases S
  ext
theorem e8{l:PySem.W.OpenLaw}{n k:Nat}{q:Al}{A:List Str}{P:(Str->Option AD)->BI->Prop}{L:A1->BI->Prop}{d:DefRec}{K:Params->AB}{CX:A1->CXT}{sp:A1->Sp}{x:Str}
  (Q:l.most=some n) (R:n<=sizeLine) (S:d.params.defaults=[]) (U:FC k Q3)
  (X:∀(w:A1) (h:BI),L w h->(K w.params).In h)
  (F:∀(w:A1) (C:Str->Option AD) (I:AL) (h:BI),(K w.params).In h->h.Ns A9 C->C d.name=some (.ref I) ->
   ∃fd:D1,(∀(s:AK) (u:AD),Vc s fd ⟨[u],[]⟩ [(x,u)]) /\
    ∀base:BI,(K w.params).In base->base.Ns A9 C->CT l.prog w (K w.params) C base (CX w) k I fd [x] (sp w))
  (Z:∀(w:A1) (H:Hp) (a:AL) (J:ZLi),J.length<=n->io H->SqL (K w.params) H a (J.map V.int)->sp w [.ref a] H (λv M=>v=.bl true) λM M M=>False)
  (zu:∀(w:A1) (H:Hp) (s:AK) (e:AD) (s':AK),CX w [] H s (λM M M=>False) e s'->False) :
  PySem.W.WalkO q A P L l.row.toRowW d [] (λf vs=>YL f vs):=by
 refine Att.VJ Q S λw N E C mb I o pm cd doc a vs J G Y ho hd sP vQ vR B m hg=>?_
 have O:=X w _ Y;obtain⟨fd,hb,hF⟩:=F w C I _ O G.T.g vQ
 exact cF O G.T.g G.T.b G.T.builtins G.T.nolimit hg vR B (A7 m R) U hF hb (λH hO hS=>Z w H a J m hO hS) λH e s'=>zu w H E e s'
noncomputable def Jk(s:B6)(j:Nat):B6:=match s with
 | .ClassDef _ _ _ l _ _ _ _ _ _ _=>l.getD j (.Pass ⟨0,0,0,0⟩)
 | _=>.Pass ⟨0,0,0,0⟩
noncomputable def Jl(s:B6):Arguments:=match s with
 | .FunctionDef _ a _ _ _ _ _ _ _ _=>a
 | _=>{ posonlyargs:=[],args:=[],vararg:=none,kwonlyargs:=[],kw_defaults:=[],kwarg:=none,defaults:=[] }
def FB(s:B6):List B6:=match s with
 | .FunctionDef _ _ b _ _ _ _ _ _ _=>b
 | _=>[]
noncomputable def Bw(s:B6):LV:=match s with
 | .FunctionDef _ _ _ _ _ _ l _ _ _=>l
 | _=>{ kind:=.function,names:=[],isGenerator:=false,isCoroutine:=false }
structure Fun(K:AB)(x qual:Str)(st:B6)(f:AL)(fd:D1):Prop where
 ex:∃(oc:AD) (od:Option AL) (kV doc pm:AD) (an:Option AL) (r0 ct:AD) (tK:Array (Option AD)),
  fd=HP x qual (Jl st) (FB st) (Bw st) .none kV doc pm an r0 ct/\K.lookup f=some ⟨oc,od,.func fd,tK⟩/\PQ K r0 qual=true
 kp:F5 K (.ref f)=true
section
variable{K:AB}
theorem Fun.binds{x l}{st}{f}{fd}{o}(F:Fun K x l st f fd)
  (h:∀(kV m w:AD) (A:Option AL) (B ct:AD) (us:List AD),us.length=o.length->du (HP x l (Jl st) (FB st) (Bw st) .none kV m w A B ct) ⟨us,[]⟩=pure (o.zip us)):Binds K fd o []:=by
 obtain⟨C,E,kV,m,w,A,B,ct,G,rfl,H,I⟩:=F.ex;exact .all (h kV m w A B ct)
theorem ci{x m}{st}{f}{C}{E A}{G}{kV o B w ct}(l:K.lookup f=some ⟨C,E,.func (HP x m (Jl st) (FB st) (Bw st) .none kV o B A w ct),G⟩)
  (c:PQ K w m=true) (k:F5 K (.ref f)=true):Fun K x m st f (HP x m (Jl st) (FB st) (Bw st) .none kV o B A w ct):=⟨⟨C,E,kV,o,B,A,w,ct,G,rfl,l,c⟩,k⟩
end
section
variable{X:Cx}
theorem pv(i:Nat)(l:autoParam (X.N[i]?=some x) yq0q)(m:autoParam (Vis X.env.scope x) yq13q)(o:autoParam ((x==("__debug__" : Str))=false) yq1q)
  (w:autoParam ((x==("__classdict__" : Str))=false) yq1q):PE X (.Name x pos) (DX i):=lX l m o w
end
set_option genInjectivity true in
inductive D where
 | non | bl (b:Bool) | int (i:Int) | str (x:Str) | tup (ds:List D) | fro (ds:List D) | ref (n:Nat) | exc (C:AL)
def VQ(K:AB)(H:Hp)(a:AL)(vs:List V):Prop:=
 (∃o,H a=some (.frz o (.lst vs))) ∨
  ∃(o:Obj) (l:Array AD) (n:Nat),K.lookup a=some o/\o.cls=.type "list"/\o.dict=none/\o.data=.seq l n/\l.size<=sizeLine/\Bp vs l.toList
theorem VQ.sq{K}{H}{a}{vs}(h:VQ K H a vs):SqL K H a vs:=by
 rcases h with h | h
 ·exact .inl (.inr h)
 ·exact .inr h
def ExcO(o:Obj)(C:AL):Prop:=o.cls=.ref C/\o.dict=none/\∃vs,o.data=.fields vs
set_option genInjectivity true in
mutual
inductive DL(K:AB)(ρ:List AL)(H:Hp):D->V->Prop where
 | non:DL K ρ H .non .non
 | bl (b:Bool):DL K ρ H (.bl b) (.bl b)
 | int (i:Int):DL K ρ H (.int i) (.int i)
 | str (x:Str):DL K ρ H (.str x) (.str x)
 | tup {ds:List D} {a:AL} {vs:List V}:H a=some (.tup vs)->A8 K ρ H ds vs->DL K ρ H (.tup ds) (.ref a)
 | fro {ds:List D} {a:AL} {vs:List V}:VQ K H a vs->A8 K ρ H ds vs->DL K ρ H (.fro ds) (.ref a)
 | ref {n:Nat} {a:AL}:ρ[n]?=some a->DL K ρ H (.ref n) (.ref a)
 | exc {C a:AL} {o:Obj} {u:HO}:H a=some (.frz o u)->ExcO o C->DL K ρ H (.exc C) (.ref a)
inductive A8(K:AB)(ρ:List AL)(H:Hp):List D->List V->Prop where
 | nil:A8 K ρ H [] []
 | cons {d:D} {v:V} {ds:List D} {vs:List V}:DL K ρ H d v->A8 K ρ H ds vs->A8 K ρ H (d :: ds) (v :: vs)
end
structure Le(K:AB)(ρ:List AL)(H:Hp)(ρ':List AL)(H':Hp):Prop where
 pre:∀(n:Nat) a,ρ[n]?=some a->ρ'[n]?=some a
 tup:∀a xs,H a=some (.tup xs)->H' a=some (.tup xs)
 frz:∀a o u,H a=some (.frz o u)->H' a=some (.frz o u)
 oth:∀a o,H a=some o->(∀n:Nat,ρ[n]?≠some a)->H' a=some o/\∀n:Nat,ρ'[n]?≠some a
theorem VQ.mono{K}{H H'}{a}{xs}(l:∀a o u,H a=some (.frz o u)->H' a=some (.frz o u))(h:VQ K H a xs):VQ K H' a xs:=by
 rcases h with⟨o,h⟩ | h
 ·exact .inl ⟨o,l _ _ _ h⟩
 ·exact .inr h
section
variable{K:AB}{ρ:List AL}{H H':Hp}
theorem Le.refl:Le K ρ H ρ H:=⟨λG G h=>h,λG G h=>h,λG G G h=>h,λG G h n=>⟨h,n⟩⟩
mutual
theorem DL.keep(m:∀a xs,H a=some (.tup xs)->H' a=some (.tup xs))(l:∀a o u,H a=some (.frz o u)->H' a=some (.frz o u)):∀{d:D} {v:V},DL K ρ H d v->DL K ρ H' d v
 | _,_,.non=>.non
 | _,_,.bl b=>.bl b
 | _,_,.int i=>.int i
 | _,_,.str x=>.str x
 | _,_,.tup h r=>.tup (m _ _ h) (A8.keep m l r)
 | _,_,.fro h r=>.fro (h.mono l) (A8.keep m l r)
 | _,_,.ref h=>.ref h
 | _,_,.exc h e=>.exc (l _ _ _ h) e
theorem A8.keep(l:∀a xs,H a=some (.tup xs)->H' a=some (.tup xs))(m:∀a o u,H a=some (.frz o u)->H' a=some (.frz o u)):∀{w:List D} {vs:List V},A8 K ρ H w vs->A8 K ρ H' w vs
 | _,_,.nil=>.nil
 | _,_,.cons r t=>.cons (DL.keep l m r) (A8.keep l m t)
end
theorem A8.length:∀{l:List D} {vs:List V},A8 K ρ H l vs->l.length=vs.length
 | _,_,.nil=>rfl
 | _,_,.cons _ t=>by rw[Am,Am,A8.length t]
theorem A8.get:∀{l:List D} {vs:List V} {i:Nat} {d:D},A8 K ρ H l vs->l[i]?=some d->∃v,vs[i]?=some v/\DL K ρ H d v
 | _,_,_,_,.nil,e=>by simp at e
 | _,_,0,_,.cons r _,e=>by ext
 | _,_,i+1,d,.cons _ t,e=>by
  obtain⟨v,m,o⟩:=A8.get t (by simpa using e);ext
theorem A8.get':∀{l:List D} {vs:List V} {i:Nat} {v:V},A8 K ρ H l vs->vs[i]?=some v->∃d,l[i]?=some d/\DL K ρ H d v
 | _,_,_,_,.nil,e=>by simp at e
 | _,_,0,_,.cons r _,e=>by ext
 | _,_,i+1,d,.cons _ t,e=>by
  obtain⟨v,m,o⟩:=A8.get' t (by simpa using e);ext
theorem A8.append:∀{l es:List D} {vs us:List V},A8 K ρ H l vs->A8 K ρ H es us->A8 K ρ H (l++es) (vs++us)
 | _,_,_,_,.nil,s=>s
 | _,_,_,_,.cons r t,s=>.cons r (A8.append t s)
theorem A8.take:∀{l:List D} {vs:List V} (n:Nat),A8 K ρ H l vs->A8 K ρ H (l.take n) (vs.take n)
 | _,_,0,_=>.nil
 | _,_,_+1,.nil=>.nil
 | _,_,n+1,.cons r t=>.cons r (A8.take n t)
theorem A8.drop:∀{l:List D} {vs:List V} (n:Nat),A8 K ρ H l vs->A8 K ρ H (l.drop n) (vs.drop n)
 | _,_,0,r=>r
 | _,_,_+1,.nil=>.nil
 | _,_,n+1,.cons _ t=>A8.drop n t
theorem A8.set(r:DL K ρ H d v):∀{l:List D} {vs:List V} (i:Nat),A8 K ρ H l vs->A8 K ρ H (l.set i d) (vs.set i v)
 | _,_,_,.nil=>.nil
 | _,_,0,.cons _ t=>.cons r t
 | _,_,i+1,.cons q t=>.cons q (A8.set r i t)
theorem A8.reverse(h:A8 K ρ H l vs):A8 K ρ H l.reverse vs.reverse:=by
 induction l generalizing vs with
 | nil=>cases h;exact .nil
 | cons d l m=>
  cases h with
  | cons r t=>rw[Zt,Zt];exact(m t).append (.cons r .nil)
theorem A8.of_ints:∀(l:ZLi),A8 K ρ H (l.map D.int) (l.map V.int)
 | []=>.nil
 | n :: l=>.cons (.int n) (A8.of_ints l)
theorem A8.ints:∀{l:ZLi} {vs:List V},A8 K ρ H (l.map D.int) vs->vs=l.map V.int
 | [],_,.nil=>rfl
 | n :: l,_,.cons r t=>by
  cases r;rw[A8.ints t];rfl
end
set_option genInjectivity true in
inductive Ob where
 | lst (ds:List D)
 | dK (kvs:List (Key×D))
 | dT (kvs:List (List Key×D))
 | ins (C:AL) (fs:List (Str×D))
 | fK (kvs:List (Key×D))
 | fT (kvs:List (List Key×D))
 | mem (L:Key->Int)
abbrev Sto:=List Ob
noncomputable def memU:List Key:=(A0 1000).map λ(i:Nat)=>Dq (i:Int)
abbrev KVR{l:Type}(K:AB)(ρ:List AL)(H:Hp):List (l×D)->List (l×V)->Prop:=Er λ(p:l×D) (q:l×V)=>p.1=q.1/\DL K ρ H p.2 q.2
def OR(K:AB)(ρ:List AL)(H:Hp)(a:AL):Ob->Prop
 | .lst w=>∃vs,H a=some (.lst vs)/\A8 K ρ H w vs
 | .dK l=>∃m,H a=some (.dK m)/\KVR K ρ H l m
 | .dT l=>∃m,H a=some (.dT m)/\KVR K ρ H l m
 | .ins C fs=>∃A o,H a=some (.ins C A o)/\KVR K ρ H fs o
 | .fK l=>∃ob m,H a=some (.frz ob (.dK m))/\KVR K ρ H l m
 | .fT l=>∃ob m,H a=some (.frz ob (.dT m))/\KVR K ρ H l m
 | .mem L=>∃m,H a=some (.dK m)/\(m.map (·.1)).Nodup/\∀x∈m,x.1∈memU/\x.2=V.int (L x.1)
structure Og(K:AB)(ρ:List AL)(S:Sto)(H:Hp):Prop where
 len:ρ.length=S.length
 nd:∀(i j:Nat) a,ρ[i]?=some a->ρ[j]?=some a->i=j
 ob:∀(n:Nat) o a,S[n]?=some o->ρ[n]?=some a->OR K ρ H a o
section
variable{K:AB}{ρ:List AL}{H H':Hp}{S:Sto}{a:AL}{o:Ob}
theorem OR.has(h:OR K ρ H a o):H a≠none:=by
 cases o with
 | lst l=>obtain⟨_,e,_⟩:=h;ext
 | dK l=>obtain⟨_,e,_⟩:=h;ext
 | dT l=>obtain⟨_,e,_⟩:=h;ext
 | ins C fs=>obtain⟨_,_,e,_⟩:=h;ext
 | fK l=>obtain⟨_,_,e,_⟩:=h;ext
 | fT l=>obtain⟨_,_,e,_⟩:=h;ext
 | mem L=>obtain⟨_,e,_⟩:=h;lia
theorem OR.keep(w:∀a xs,H a=some (.tup xs)->H' a=some (.tup xs))(A:∀a o u,H a=some (.frz o u)->H' a=some (.frz o u))(e:H' a=H a)(h:OR K ρ H a o):OR K ρ H' a o:=by
 cases o with
 | lst E=>obtain⟨vs,l,m⟩:=h;exact⟨vs,e.trans l,m.keep w A⟩
 | dK E=>obtain⟨vs,l,m⟩:=h;exact⟨vs,e.trans l,Er.mapP m λG G z=>⟨z.1,z.2.keep w A⟩⟩
 | dT E=>obtain⟨vs,l,m⟩:=h;exact⟨vs,e.trans l,Er.mapP m λG G z=>⟨z.1,z.2.keep w A⟩⟩
 | ins C fs=>obtain⟨B,vs,l,m⟩:=h;exact⟨B,vs,e.trans l,Er.mapP m λG G z=>⟨z.1,z.2.keep w A⟩⟩
 | fK E=>obtain⟨B,vs,l,m⟩:=h;exact⟨B,vs,e.trans l,Er.mapP m λG G z=>⟨z.1,z.2.keep w A⟩⟩
 | fT E=>obtain⟨B,vs,l,m⟩:=h;exact⟨B,vs,e.trans l,Er.mapP m λG G z=>⟨z.1,z.2.keep w A⟩⟩
 | mem L=>obtain⟨vs,l,m⟩:=h;exact⟨vs,e.trans l,m⟩
theorem Og.there(h:Og K ρ S H){m:Nat}(e:ρ[m]?=some a):∃o,S[m]?=some o/\OR K ρ H a o:=by
 have l:m < S.length:=by rw[<-h.len];exact(AJ.mp e).1
 exact⟨S[m],by simp[l],h.ob m _ a (by simp[l]) e⟩
end
set_option genInjectivity true in
inductive Res(α:Type) where
 | ok (a:α) (S:Sto) | err (c:AL) (S:Sto) | bad
abbrev Lo:=List (Option D)
structure nM(K:AB)(ρ:List AL)(H:Hp)(e:Lo)(σ:St):Prop where
 len:e.length=σ.length
 at':∀(i:Nat) d,e[i]?=some (some d)->∃v,σ[i]?=some (some v)/\DL K ρ H d v
section
variable{K:AB}{ρ:List AL}{H:Hp}{e:Lo}{σ:St}
theorem nM.set(h:nM K ρ H e σ)(r:DL K ρ H d v)(i:Nat):nM K ρ H (e.set i (some d)) (σ.set i (some v)):=by
 refine⟨by simp[h.len],λj o q=>?_⟩
 by_cases l:i=j
 ·subst l
  have m:i < e.length:=by
   have:=(AJ.mp q).1;simpa using this
  rw[EY m]at q;cases q;exact⟨v,by rw[EY (by rw[<-h.len];exact m)],r⟩
 ·rw[Cr l]at q ⊢
  exact h.at' j o q
end
abbrev EW:=AL->St->Hp->Prop
abbrev EH:=AL->Hp->Prop
abbrev noE:EW:=λG G G=>False
def qy{o:Type}(K:AB)(E:EH)(ρ:List AL)(H:Hp)(r:Res o)(k:o->Sto->Prop):Prop:=match r with
 | .ok a S=>k a S
 | .err c S=>∀l m,Le K ρ H l m->Og K l S m->E c m
 | .bad=>False
theorem PE.imp(h:PE X e t)(i:∀l H Q,t' l H Q->t l H Q):PE X e t':=λm s l H Q I q=>h m s l H Q I (i l H Q q)
theorem PT.imp(h:PT X e t)(i:∀l H Q,t' l H Q->t l H Q):PT X e t':=λm s l H Q I q=>h m s l H Q I (i l H Q q)
theorem PS.imp(h:PS X e t)(i:∀D l H,t' D l H->t D l H):PS X e t':=λm s l H D I q=>h m s l H D I (i D l H q)
theorem PSs.imp(h:PSs X e t)(i:∀D l H,t' D l H->t D l H):PSs X e t':=λm s l H D I q=>h m s l H D I (i D l H q)
theorem PI.imp(h:PI X tg e t)(i:∀l H R,t' l H R->t l H R):PI X tg e t':=λm s l H R I q=>h m s l H R I (i l H R q)
section
variable{e a:Expr}
def rD(K:AB)(f:D->D->Sto->Res D):R2:=λu v H Q=>∃m S x y d w,Og K m S H/\DL K m H x u/\DL K m H y v/\f x y S=.ok d w /\
 ∀l o z,Le K m H l o->Og K l w o->DL K l o d z->Q z o
variable{es:List Expr}
noncomputable def gR(d:D)(S:Sto):Option (List D):=match d with
 | .tup l=>some l
 | .fro l=>some l
 | .ref n=>match S[n]? with
  | some (.lst l)=>some l
  | _=>none
 | _=>none
theorem XZ{K}{ρ}{H}{S}{d}{x}{w}(hs:Og K ρ S H)(r:DL K ρ H d x)(h:gR d S=some w):∃p xs,x=.ref p/\A8 K ρ H w xs/\(SqL K H p xs∨SqT K H p xs):=by
 cases r with
 | tup l m=>cases h;exact⟨_,_,rfl,m,.inr (.inl (.inl l))⟩
 | fro l m=>cases h;exact⟨_,_,rfl,m,.inl l.sq⟩
 | @ref n a A=>
  obtain⟨o,B,C⟩:=hs.there A;unfold gR at h;simp only[B]at h
  cases o with
  | lst es=>cases h;obtain⟨vs,e,E⟩:=C;exact⟨_,_,rfl,E,.inl (.inl (.inl e))⟩
  | _=>cases h
 | _=>cases h
end
def spM(K:AB)(n:Nat)(f:List D->Sto->Res D):Sp:=λvs H Q E=>∃o w S,w.length=n/\A8 K o H w vs/\Og K o S H/\qy K (λc m=>E (.ref c) none m) o H (f w S) λd A=>
 ∀l m x,Le K o H l m->Og K l A m->DL K l m d x->Q x m
theorem spM.len{K}{n}{f}{vs}{H}{Q}{E}(h:spM K n f vs H Q E):vs.length=n:=by
 obtain⟨o,w,S,l,m,_⟩:=h;rw[<-m.length];exact l
def j5(E:EW)(l:St):XK:=λv o H=>o=none/\∃c,v=.ref c/\E c l H
theorem KVR.lookup{K}{ρ}{H}(f:Str):∀{x:List (Str×D)} {y:List (Str×V)} {d:D},KVR K ρ H x y->x.lookup f=some d->∃v,y.lookup f=some v/\DL K ρ H d v
 | _,_,_,.nil,h=>by simp at h
 | (g,a) :: x,(o,b) :: y,d,.cons r t,h=>by
  obtain⟨l,w⟩:=r;subst l;rw[CA]at h ⊢
  cases m:(f==g)with
  | true=>ext
  | false=>rw[m]at h;exact KVR.lookup f t h
noncomputable def bN(f:Str)(v:D):List (Str×D)->List (Str×D)
 | []=>[(f,v)]
 | (g,x) :: r=>if g=f then(g,v) :: r else(g,x) :: bN f v r
theorem KVR.putF{K}{ρ}{H}(f:Str){d}{v}(rd:DL K ρ H d v):∀{x:List (Str×D)} {y:List (Str×V)},KVR K ρ H x y->KVR K ρ H (bN f d x) (putF f v y)
 | _,_,.nil=>.cons ⟨rfl,rd⟩ .nil
 | (g,a) :: x,(w,b) :: y,.cons r t=>by
  obtain⟨m,o⟩:=r;subst m;unfold bN L2.putF
  by_cases l:g=f
  ·rw[qX l,qX l];exact .cons ⟨rfl,rd⟩ t
  ·rw[qY l,qY l];exact .cons ⟨rfl,o⟩ (KVR.putF f rd t)
theorem KVR.length{l:Type}{K:AB}{ρ:List AL}{H:Hp}{x:List (l×D)}{y:List (l×V)}(h:KVR K ρ H x y):x.length=y.length:=Cw h
section
variable{X:Cx}
instance(i j:Int):Decidable (nP i j):=inferInstanceAs (Decidable (_/\_))
instance(i j:Int):Decidable (nO i j):=inferInstanceAs (Decidable (_/\_/\_))
instance(i j:Int):Decidable (dR i j):=inferInstanceAs (Decidable (_∨_))
def qA(K:AB):R2:=λx y H Q=>∃a b l m,x=.ref a/\y=.ref b/\H a=some (.tup l)/\H b=some (.tup m)/\l.length+m.length<=sizeLine /\
 (l=[]->Q (.ref b) H)/\(m=[]->Q (.ref a) H)/\(∀p,H p=none->Q (.ref p) (upd H p (.tup (l++m))))
theorem hV:OpR X (EL .Add) (qA X.K):=by
 intro L s N H x y v u Q I O P h;obtain⟨a,b,A,R,rfl,rfl,B,hb,S,T,U,Y⟩:=h;cases O;cases P;obtain⟨Z,r1,p1,_⟩:=I.tuple (.inl (.inl B));obtain⟨si,r2,p2,_⟩:=I.tuple (.inl (.inl hb))
 by_cases m:A=[]
 ·obtain⟨⟨cls,dd,data,sl⟩,C,E,n,G⟩:=id p1
  obtain⟨⟨J,o,data2,w⟩,l,hc2,n2,hd2⟩:=id p2;simp only at E G hc2 hd2;subst E G hc2 hd2;have hi:=r1.nil_iff.mpr m
  exact Zq ⟨_,C,rfl⟩ ⟨_,l,rfl⟩ SN YI JQ Ix (IV _ _)
   (tuple_addW0 a b Z.toArray si.toArray n n2 dd o sl w (by simp[hi])) ⟨C,l,⟨.ref b,H,I,rfl,T m⟩⟩
 ·exact hJ L s N H (.ref a) (.ref b) _ _ Q I rfl rfl ⟨a,b,A,R,rfl,rfl,.inl (.inl B),.inl (.inl hb),m,S,U,λM p hp=>Y p hp⟩
theorem PH{K}{ρ}{H}{l}{vs}{i}{d}(r:A8 K ρ H l vs)(h:atI l i=some d):∃v,atI vs i=some v/\DL K ρ H d v:=by
 unfold atI at h ⊢;rw[<-r.length]
 cases m:ixN l.length i with
 | none=>ext
 | some j=>
  rw[m]at h;exact r.get h
end
noncomputable def C3(X:Cx)(scope:LV)(N':List Str)(o:List (Str×AL))(C:AL)(l:AK)(m:Hp)(ex:List AL)(pn:List (AL×Obj)):Cx where
 prog:=X.prog
 w:=X.w
 K:=X.K
 mg:=X.mg
 base:=X.base
 A:=X.A
 N:=N'
 s₀:=l
 H₀:=m
 env:=compEnvC scope o C X.env
 outer:=X.stack
 stack:=X.stack
 ex:=ex
 fn:=λx=>scope.names.lookup x==some .cell
 calm:=X.calm
 pn:=pn
 xe:=λG G=>False
theorem Tf:∀(names:List (Str×NO)) (l:List (Str×AL)),(∀y∈names,y.2=.free->∃c,w.cells.lookup y.1=some c)->(∀n c,l.lookup n=some c->w.cells.lookup n=some c) ->
  ∃A,(forIn names l (λ(x:Str×NO) (I:List (Str×AL))=>match x with | (name,kind)=>if (kind==FL)=true then do let a <-cellOf w name;pure (G1 ((name,a) :: I))else pure (G1 I)):Sem (List (Str×AL)))=pure A /\
   (∀n c,A.lookup n=some c->w.cells.lookup n=some c)/\(∀n c,l.lookup n=some c->∃L,A.lookup n=some L)/\∀y∈names,y.2=.free->∃c,A.lookup y.1=some c
 | [],l,_,B=>⟨l,rfl,B,λn c h=>⟨c,h⟩,λM h=>nomatch h⟩
 | (n,k) :: r,l,h,B=>by
  rw[D0]
  by_cases J:k=.free
  ·subst J
   obtain⟨c,N⟩:=h (n,.free) AW rfl
   obtain⟨A,e,C,E,G⟩:=Tf r ((n,c) :: l) (λy o=>h y (AM _ o)) (λm d O=>by
    grind)
   have P:cellOf w n=pure c:=by unfold cellOf;rw[N]
   refine⟨A,?_,C,λm d O=>E m (if m==n then c else d) ?_,λy o H=>?_⟩
   ·simp only[beq_self_eq_true,if_true,P,pure_bind]
    exact e
   ·grind
   ·rcases Aj.mp o with rfl | o
    ·ext
    ·exact G y o H
  ·have hb:(k==FL)=false:=by simpa using J
   obtain⟨A,e,C,E,G⟩:=Tf r l (λy o=>h y (AM _ o)) B;refine⟨A,?_,C,E,λy o H=>?_⟩
   ·simp only[hb,A5,if_false,pure_bind]
    exact e
   ·rcases Aj.mp o with rfl | o
    ·trivial
    ·exact G y o H
theorem X8(h:∀y∈scope.names,y.2=.free->∃c,l.cells.lookup y.1=some c):∃m,closureFor scope l=pure m /\
  (∀n c,m.lookup n=some c->l.cells.lookup n=some c)/\∀y∈scope.names,y.2=.free->∃c,m.lookup y.1=some c:=by
 obtain⟨m,e,o,_,w⟩:=Tf scope.names [] h (λn c z=>by simp at z);refine⟨m,?_,o,w⟩;unfold closureFor;exact(congrArg (λz=>z >>= λA=>pure A) e).trans (by rfl)
def Wv(X:Cx)(l:List Expr)(t:TT):Prop:=
 ∀(o:List (AL×Obj)) (s:AK) (m:St) (H:Hp) (Q:Bool->Hp->Prop),Inv X o m H s->t m H Q ->
  AZ (AY X.prog X.w) X.A (forIn l true λc r=>if r=true then do let ok <-KG c X.env (A6 c X.env);pure (G1 ok)else pure (G1 r)) (TP X o m Q) X.xe s
theorem Um:Wv X [] (λG H Q=>Q true H):=λl s m H Q I h=>wpAny_tests_nil ⟨H,I,h⟩
theorem bW(h:PT X c t):Wv X [c] t:=λl s m H Q I q=>wpAny_tests_one (h l s m H Q I q)
structure K7(X:Cx)(scope:LV)(own N':List Str):Prop where
 kind:scope.kind=.function
 names:∀y∈scope.names,y.2=.local->scope.names.lookup y.1=some .local
 free:∀y∈scope.names,y.2=.free->X.env.kindOf y.1=some .cell∨X.env.kindOf y.1=some .free
 len:N'.length=own.length+X.N.length
 up:∀i x,N'[own.length+i]?=some x->Vis (Is scope X.env) x->(X.N[i]?=some x/\Vis X.env.scope x/\((Is scope X.env).names.lookup x=some .cell∨(Is scope X.env).names.lookup x=some .free)/\X.env.kindOf x≠some .local)/\(x,DB)∉scope.names/\(x,FL)∈scope.names
 vis:∀x,((Is scope X.env).names.lookup x=some .cell∨(Is scope X.env).names.lookup x=some .free)->(x,FL)∈scope.names∨(x,DB)∈scope.names
set_option tactic.hygienic true in
theorem E9:∀(names:List (Str×NO)) (n:Nat) (l:List (Str×AL)) (x:Str) (c:AL),(B8 n names l).lookup x=some c ->
  ((x,DB)∈names/\n<=c)∨l.lookup x=some c
 | [],_,_,_,_,h=>.inr h
 | (y,k) :: r,n,l,x,c,h=>by
  unfold B8 at h;split at h
  ·rename_i o
   have o:k=.cell:=by simpa using o
   subst o
   rcases E9 r (n+1) _ x c h with⟨m,w⟩ | m
   ·exact .inl ⟨AM _ m,OW w⟩
   grind
  ·rcases E9 r n l x c h with⟨m,w⟩ | m
   ·ext
   ·exact .inr m
theorem DJ:∀(names:List (Str×NO)) (n:Nat) (l:List (Str×AL)) (x:Str),(∃c,l.lookup x=some c)->∃c,(B8 n names l).lookup x=some c
 | [],_,_,_,h=>h
 | (y,k) :: r,n,l,x,h=>by
  unfold B8;split
  ·refine DJ r (n+1) _ x ?_
   grind
  ·exact DJ r n l x h
theorem Dv:∀(names:List (Str×NO)) (n:Nat) (l:List (Str×AL)) (x:Str),(x,DB)∈names->∃c,(B8 n names l).lookup x=some c/\n<=c
 | (y,k) :: r,n,l,x,h=>by
  unfold B8
  by_cases o:(x,DB)∈r
  ·split
   ·obtain⟨c,m,A⟩:=Dv r (n+1) ((y,n) :: l) x o
    exact⟨c,m,OW A⟩
   ·exact Dv r n l x o
  ·rcases Aj.mp h with e | e
   ·cases e
    rw[qX (show(DB==DB)=true from rfl)];obtain⟨c,w⟩:=DJ r (n+1) ((y,n) :: l) y ⟨n,by rw[CA,beq_self_eq_true]⟩
    rcases E9 r (n+1) _ y c w with⟨m,_⟩ | m
    ·exact(o m).elim
    ·rw[CA,beq_self_eq_true]at m
     cases m;exact⟨n,w,AN _⟩
   trivial
theorem Lc(o:(x,DB)∉names)(h:l.lookup x=some c):(B8 n names l).lookup x=some c:=by
 obtain⟨w,A⟩:=DJ names n l x ⟨c,h⟩
 rcases E9 names n l x w A with⟨m,_⟩ | m
 ·exact(o m).elim
 ext
theorem Io:∀(names:List (Str×NO)) (n:Nat) (l:List (Str×AL)),(∀x c,l.lookup x=some c->c < n)->(∀x y c,l.lookup x=some c->l.lookup y=some c->x=y) ->
  ∀x y c,(B8 n names l).lookup x=some c->(B8 n names l).lookup y=some c->x=y
 | [],_,_,_,h=>h
 | (z,k) :: r,n,l,o,h=>by
  unfold B8;split
  ·have m:∀x c,((z,n) :: l).lookup x=some c->(x=z/\c=n)∨l.lookup x=some c:=λx c q=>by
    rw[CA]at q
    cases hb:x==z with
    | true=>rw[hb]at q;cases q;exact .inl ⟨beq_iff_eq.mp hb,rfl⟩
    | false=>rw[hb]at q;exact .inr q
   refine Io r (n+1) _ (λx c q=>?_) λx y c w A=>?_
   ·rcases m x c q with⟨_,rfl⟩ | e
    ·exact FP _
    ·exact D6 (o x c e)
   grind
  ·exact Io r n l o h
set_option tactic.hygienic true in
theorem Im:∀(names:List (Str×NO)) (h:BI) (m:List (Str×AL)) (x:Str) (c:AL),(B8 h.objs.size names m).lookup x=some c->m.lookup x=some c∨((Fm h names).IsCell c none/\h.objs.size<=c)
 | [],_,_,_,_,q=>.inl q
 | (y,k) :: r,h,m,x,c,q=>by
  unfold B8 at q;unfold Fm;split at q
  ·rename_i o
   rw[qX o];have:=Im r (h.push { cls:=.type "cell",data:=.cell none }) ((y,h.objs.size) :: m) x c ∅
   rcases this with e | ⟨e,l⟩
   ·rw[CA]at e
    cases hb:x==y with
    | true=>
     rw[hb]at e;cases e;exact .inr ⟨⟨_,T5 _ _ _ _ (AQ _ rfl),rfl⟩,AN _⟩
    | false=>ext
   ·exact .inr ⟨e,by rw[C2]at l;exact OW l⟩
  ·rename_i o
   rw[qY o];exact Im r h m x c q
theorem Vu
  (h:Q (newEnv scope s.heap.objs.size globals (B8 (s.heap.push { cls:=.type "dict",data:=.dict #[] }).objs.size scope.names C) m none .none (some l) Vk) { s with heap:=Fm (s.heap.push { cls:=.type "dict",data:=.dict #[] }) scope.names }) :
  AZ M A (Vi scope globals C [] m none .none (some l)) Q E s:=by
 simp only[Vi,W2,if_true];refine AA (wpAny_alloc ?_);refine AA (wpAny_layCells _ (λw B o=>by rfl) _ _ _ _ ?_);rw[GW];exact AA (AC (AC h))
section
theorem Wj(L:K7 X scope own N')(I:Inv X ζ P N E)(G:∀b∈fp,MM X ζ N b)(uD:∀b∈fp,b < E.heap.objs.size)
  (l:∀n c,B.lookup n=some c->X.env.cells.lookup n=some c) (c2:∀y∈scope.names,y.2=.free->∃c,B.lookup y.1=some c)
  (Q:E.heap.objs.size<=n) (R:∀x c,(B8 n scope.names B).lookup x=some c->B.lookup x=some c∨(s.heap.IsCell c none/\n<=c)) (zy:∀c,n<=c->H c=none)
  (S:E.heap.objs.size<=C) (hn:s.heap.Ns C m) (vf:s.os=E.os) (hg:JA s.gens)
  (u:Un (frs X.stack) fp N H E.heap s.heap) (T:HOk X.prog X.w H s.heap) (wQ:H C=none) :
  Inv (C3 X scope N' (B8 n scope.names B) C E N fp (X.pn++ζ)) [] (Bk own.length none++P) H s:=by
 have A:∀x c v,B.lookup x=some c->E.heap.IsCell c v->s.heap.IsCell c v:=by
  rintro x c v e ⟨o,U,hd⟩
  obtain⟨sl,q⟩:=u.any U (I.freeC x c (l x c e)) λz=>(G c z).2.2.2.2.1 x c (l x c e) rfl
  exact⟨_,q,hd⟩
 have Y:∀x c,B.lookup x=some c->c < n:=λx c e=>by
  obtain⟨v,z⟩:=I.cell x c (l x c e);exact Aa z.lt Q
 have Z:(C3 X scope N' (B8 n scope.names B) C E N fp (X.pn++ζ)).Ok:=by
  refine⟨I.ok.mod,L.kind,I.ok.glob,I.ok.blt,S,Io _ _ _ Y λx y c h1 h2=>I.ok.inj x y c (l x c h1) (l y c h2),λx hx=>?_,λx c z q=>?_,I.ok.hd,I.ok.frames,.inl rfl,λb hb=>?_,I.bs,A7 I.ok.bsz I.sz,λb o e hb=>?_,λb hb hb'=>?_,I.stack,I.stkFree⟩
  ·rcases L.vis x hx with h | h
   ·exact DJ _ _ _ _ (c2 _ h rfl)
   ·obtain⟨c,hc,_⟩:=Dv scope.names n B x h
    exact⟨c,hc⟩
  ·have z:=z
   obtain⟨c',J,hl⟩:=Dv scope.names n B x (DU (beq_iff_eq.mp z));have q:(B8 n scope.names B).lookup x=some c:=q;rw[J]at q;cases q;exact A7 Q hl
  ·refine⟨Ao (Aa (uD b hb) S),λx c e=>?_⟩
   rcases R x c e with e | ⟨_,e⟩
   ·exact(G b hb).2.2.2.2.1 x c (l x c e)
   ·exact Ed (Aa (uD b hb) (A7 Q e))
  ·obtain⟨_,_,_,z,_⟩:=G b hb
   rcases z with z | z
   ·exact I.ok.noex b o e z
   ·exact zX (Aa (AX (I.ok.bs b o e).1) z) (Em _)
  ·obtain⟨_,z1,z2,_⟩:=G b hb
   rcases Aj.mp (I.stkSub b hb')with e | e
   ·exact z1 e
   ·exact z2 e
 refine⟨Z,vf,hg,u,⟨m,hn,λi x v e1 O e3=>?_⟩,λx c e=>?_,wQ,λx c e=>?_,λp hp=>?_,T,?_⟩
 ·have hi:own.length<=i:=by
   apply dy
   intro rk;rw[Br (by simpa using rk),Js,qX rk]at O;cases O
  obtain⟨j,rfl⟩:∃j,i=own.length+j:=⟨i - own.length,by ext⟩
  rw[Bl ∅]at O
  have e2':P[j]?=some (some v):=by simpa using O
  obtain⟨⟨n1,n2,n3,n4⟩,n5,n6⟩:=L.up j x e1 e3;obtain⟨m0,zz,hl⟩:=I.loc;obtain⟨w',r,lk⟩:=hl j x v n1 e2' n2;refine⟨w',r,.inr ⟨n3,?_⟩⟩
  rcases lk with⟨k,_⟩ | ⟨_,c,hc,sG⟩
  ·trivial
  ·obtain⟨c',J⟩:=c2 _ n6 rfl
   have e:=l x c' J;rw[hc]at e;cases e;exact⟨c,Lc n5 J,A x c _ J sG⟩
 ·rcases R x c e with e | ⟨e,_⟩
  ·obtain⟨v,z⟩:=I.cell x c (l x c e)
   exact⟨v,A x c v e z⟩
  grind
 ·rcases R x c e with e | ⟨_,e⟩
  ·obtain⟨v,o,U,hd⟩:=I.cell x c (l x c e)
   exact u.free c o U (I.freeC x c (l x c e)) λz=>(G c z).2.2.2.2.1 x c (l x c e) rfl
  ext
 ·have ϫ:p∈X.pn++ζ:=by
   have hp:=hp;rwa [BO]at hp
  obtain⟨e,n,ne,nf,d⟩:=I.pin p ϫ
  have Ϭ:p.1∉frs X.stack:=λz=>(Aj.mp (I.stkSub _ z)).elim ne nf
  have ϭ:p.1∉fp:=λz=>(G _ z).2.2.2.2.2 p ϫ rfl
  exact⟨u.keep p.1 p.2 e n Ϭ ϭ,u.free p.1 p.2 e n ϭ,Ao (Aa (AX e) S),Ϭ,d⟩
 ·show(Bk own.length none++P).length=N'.length
  rw[AS,K9,I.len,L.len]
def XV(k:Nat)(N:TI)(g:TG)(tc:TT)(O:TE):TE:=λC H Q=>N C H λJ E=>∀p,E p=none->∃W:Nat->Nat->St->Hp->List V->Prop,(∃m,W 0 m (Bk k none++C) (upd E p (.lst [])) []) /\
 ∀i m A w o,W i m A w o->w p=some (.lst o)/\((J.stop i w/\Q (.ref p) w)∨(J.go i w/\o.length < sizeLine/\∀x G,J.yld i w x G->g x A G λl P=>tc l P λb I=>
  if b=true then O l I λy L=>L p=some (.lst o)/\∃B,B < m/\W (i+1) B l (upd L p (.lst (o++[y]))) (o++[y])else ∃B,B < m/\W (i+1) B l I o))
theorem ZM{X':Cx}{Y ϖ iter:Expr}{Z:List Expr}{pos:Pos}{J:It}{it p:AL}{tn:Nat->BI->Prop}{g:TG}{tc:TT}{te:TE}{R:jp->AK->Prop}{Q:Hp->Prop}
  (hc:X'.calm=true) (hx:X'.xe=λM M=>False) (T:RU X'.prog X'.w X'.K ϖ J O it tn) (hg:PG X' ϖ g) (vS:Wv X' Z tc) (he:PE X' Y te)
  (W:Nat->Nat->St->Hp->List V->Prop) (turn:∀i m l H' xs,W i m l H' xs->H' p=some (.lst xs)/\((J.stop i H'/\Q H')∨(J.go i H'/\xs.length < sizeLine/\∀x tZ,J.yld i H' x tZ->g x l tZ λG H2=>tc G H2 λb H3=>
   if b=true then te G H3 λy H4=>H4 p=some (.lst xs)/\∃C,C < m/\W (i+1) C G (upd H4 p (.lst (xs++[y]))) (xs++[y])else ∃C,C < m/\W (i+1) C G H3 xs)))
  (fin:∀l H' s',Inv X' [] l H' s'->Q H'->R (.ok .next) s')
  {m0:Nat} {I:St} {H0:Hp} {s0:AK} (I0:Inv X' [] I H0 s0) (st0:tn 0 s0.heap) (f0:∀b∈O,MM X' [] H0 b) (w0:W 0 m0 I H0 []) :
  HE (AY X'.prog X'.w) X'.A (.compLoop (.ListComp Y [⟨ϖ,iter,Z,0⟩] scope pos) 0 (.ref it) (.ref p) X'.env) R s0:=by
 have tX:∀{H':Hp},(∀b∈O,H' b=none)->∀b∈O,MM X' [] H' b:=λhn b hb=>⟨hn b hb,(f0 b hb).2⟩
 refine codeAny_loop rfl (λn s'=>∃i l H' xs,Inv X' [] l H' s'/\tn i s'.heap/\(∀b∈O,H' b=none)/\W i n l H' xs) (λn s1 hI=>?_) m0 ⟨0,I,H0,[],I0,st0,λb hb=>(f0 b hb).1,w0⟩;obtain⟨i,B,H1,xs,I1,sg,Ϯ,w1⟩:=hI;refine wpAny_noted ?_;rw[compTurn_list]
 have L:∀{α:Type} {t:Sem α} {P:α->AK->Prop} {E:AD->AK->Prop} {s:AK},AZ (AY X'.prog X'.w) X'.A t P X'.xe s->AZ (AY X'.prog X'.w) X'.A t P E s:=λh=>DP h (λM M z=>z) λM M z=>by ext
 obtain⟨hp,xA⟩:=turn i n B H1 xs w1;refine AA (wpAny_standAt (AA ?_))
 rcases xA with⟨stop,q⟩ | ⟨go,hz,step⟩
 ·refine L (thn (T.done X' rfl rfl rfl hc i [] s1 B H1 X'.xe I1 (tX Ϯ) sg stop) ?_);rintro r s4 ⟨hr,I4⟩
  subst hr;exact AC (fin B H1 s4 I4 q)
 ·refine L (thn (T.item X' rfl rfl rfl hc i [] s1 B H1 X'.xe I1 (tX Ϯ) sg go) ?_);rintro r s4 ⟨u,hr,h4⟩
  subst hr;refine AA (L (thn h4 ?_));rintro _ s5 ⟨x,H5,I5,r5,y5,uV,fr5⟩;have zi:=I5.pinned (tX fr5) (T.obj _ _ uV);refine AA (L (thn (hg _ s5 B H5 x u _ zi r5 (step x H5 y5)) ?_));rintro _ s6 ⟨N,H6,I6,q6⟩
  have again:∀{S:AK} {H:St} {U:Hp} {ys:List V},Inv X' ([]++P8 O s5.heap) H U S->(∃C,C < n/\W (i+1) C H U ys)->∃m,m < n/\∃i l H' xs,Inv X' [] l H' S/\tn i S.heap/\(∀b∈O,H' b=none)/\W i m l H' xs:=λ{S H U ys} X ⟨C,hm,w7⟩=>by
   refine⟨C,hm,i+1,H,U,ys,X.unpinned,T.keep _ _ _ uV λb hb o e=>(X.pin (b,o) (BV _ (BV _ (Jh hb e)))).1,λb hb=>?_,w7⟩;obtain⟨o,e,d⟩:=T.obj _ _ uV b hb;exact(X.pin (b,o) (BV _ (BV _ (Jh hb e)))).2.1
  refine AA (L (thn (vS _ s6 N H6 _ I6 q6) ?_));rintro ok S ⟨U,X,q7⟩
  cases ok with
  | false=>
   rw[qY Av]at q7;exact AC ⟨rfl,again X q7⟩
  | true=>
   rw[qX rfl]at q7;refine AA (AA (L (thn (he _ S N U _ X q7) ?_)));rintro yv s8 ⟨y,H8,I8,r8,hp8,q8⟩;refine AA (L (thn (Nj _ s8 N H8 (.ref p) [y] (.ref p) [yv] (λv H9=>v=.non/\H9=upd H8 p (.lst (xs++[y]))) I8 rfl (.cons r8 .nil) ⟨p,xs,y,rfl,rfl,hp8,hz,rfl,rfl⟩) ?_));rintro v9 s9 ⟨v,H9,I9,r9,e9,e10⟩;subst e10;exact AC (AC ⟨rfl,again I9 q8⟩)
end
section
theorem SF(L:Inv X E N G A)(J:Inv (C3 X scope N' cl C A G I (X.pn++E)) [] O H' s')(P:A.heap.objs.size<=C)(Q:∀b∈I,MM X E G b)
  (B:DM C s'.heap h'):Inv X E N H' { s' with heap:=h' }:=by
 have ne:∀b o,A.heap.get? b=some o->b≠C:=λb o e=>Ao (Aa (AX e) P)
 have l:=J.base
 have u:Un (frs X.stack) I G H' A.heap h':=by
  refine⟨λb o e n hb m=>(B.2 b (ne b o e)).trans (l.keep b o e n hb m),λb o e n hb m=>?_,l.free,λb o e m=>?_,l.tups,l.frzs,l.tbls⟩
  ·obtain⟨R,q⟩:=l.slot b o e n hb m
   exact⟨R,(B.2 b (ne b o e)).trans q⟩
  ·obtain⟨S,q⟩:=l.there b o e m
   exact⟨S,(B.2 b (ne b o e)).trans q⟩
 have wQ:H' C=none:=J.free
 have H:HOk X.prog X.w H' h':=λa o e=>(J.hok a o e).stay (λb u hb q=>(B.2 b λz=>by
  ext).trans q) (λM q=>q) λM M q=>q
 exact L.call' (s':={ s' with heap:=h' }) J.os u H J.bare λb hb=>by
  obtain⟨_,T,z2,U,Y,Z⟩:=Q b hb;exact⟨U,T,Y,Z⟩
theorem Qh{σ:St}{E:AD->AK->Prop}{Qf:AL->Hp->Prop}{RR:AD->AL->jp->AK->Prop}{it:AL}{J:It}{tn:Nat->BI->Prop}(hc:X.calm=true)(Sc:K7 X scope own N')
  (hg:∀I C B G Z pn,PG (C3 X scope N' I C B G Z pn) ϖ g) (vS:∀I C B G Z pn,Wv (C3 X scope N' I C B G Z pn) ifs tc) (he:∀I C B G Z pn,PE (C3 X scope N' I C B G Z pn) elt te)
  (c1:∀n c,I.lookup n=some c->X.env.cells.lookup n=some c) (c2:∀y∈scope.names,y.2=.free->∃c,I.lookup y.1=some c)
  (U:Inv X ζ σ L s2) (T:RU X.prog X.w X.K ϖ J Y it tn) (mi:tn 0 s2.heap) (f2:∀b∈Y,MM X ζ L b)
  (q2:∀p,L p=none->∃W:Nat->Nat->St->Hp->List V->Prop,(∃m,W 0 m (Bk own.length none++σ) (upd L p (.lst [])) []) /\
   ∀i m N H' xs,W i m N H' xs->H' p=some (.lst xs)/\((J.stop i H'/\Qf p H')∨(J.go i H'/\xs.length < sizeLine/\∀x tZ,J.yld i H' x tZ->g x N tZ λO L=>tc O L λb H=>
    if b=true then te O H λy l=>l p=some (.lst xs)/\∃m',m' < m/\W (i+1) m' O (upd l p (.lst (xs++[y]))) (xs++[y])else ∃m',m' < m/\W (i+1) m' O H xs)))
  (hRR:∀D C I N H' s',s2.heap.objs.size<=C->Inv (C3 X scope N' I C s2 L Y (X.pn++ζ)) [] N H' s'->Qf D H'->RR (.ref D) C (.ok .next) s') :
  AZ (AY X.prog X.w) X.A (newList []) (λacc s₃=>AZ (AY X.prog X.w) X.A (Vi scope X.env.globals I [] X.env.qual none .none (some X.env)) (λxB s₄=>
   HE (AY X.prog X.w) X.A (.compStart (.ListComp elt [⟨ϖ,iter,ifs,0⟩] scope pos) 0 (.ref it) acc { xB with scope:=Is scope X.env }) (RR acc xB.locals) s₄) E s₃) E s2:=by
 have uD:∀b∈Y,b < s2.heap.objs.size:=λb hb=>by
  obtain⟨o,e,_⟩:=T.obj _ _ mi b hb;exact AX e
 refine BD (Vu ?_);generalize R:s2.heap.push { cls:=.type "list",dict:=none,data:=.seq ([]:List AD).toArray }=H;generalize S:H.push { cls:=.type "dict",data:=.dict #[] }=l
 have hC:H.objs.size=s2.heap.objs.size+1:=by rw[<-R,C2]
 have hC4:l.objs.size=H.objs.size+1:=by rw[<-S,C2]
 have hDC:s2.heap.objs.size≠H.objs.size:=by rw[hC];exact Ao (FP _)
 have vh:s2.heap.objs.size<=H.objs.size:=by rw[hC];exact Qv _
 have xC:s2.heap.objs.size<=l.objs.size:=by rw[hC4];exact Nat.le_succ_of_le vh
 have xD:∀b o,H.get? b=some o->(Fm l scope.names).get? b=some o:=λb o e=>T5 _ _ _ _ (S▸AG _ e)
 have P:∀b o,s2.heap.get? b=some o->(Fm l scope.names).get? b=some o:=λb o e=>xD b o (R▸AG _ e)
 have sW:=xD _ _ (R▸AQ _ rfl)
 have zA:(Fm l scope.names).Ns H.objs.size λM=>none:=by
  have:=(BI.Ns.new H (.type "dict")).keeps (T5 scope.names (H.push { cls:=.type "dict",data:=.dict #[] }));rw[S]at this;exact this
 have hD:=U.hok.fresh (AN _);have u:Un (frs X.stack) Y L (upd L s2.heap.objs.size (.lst [])) s2.heap (Fm l scope.names):=Un.laid P (AN _) hD;have hok:HOk X.prog X.w (upd L s2.heap.objs.size (.lst [])) (Fm l scope.names):=U.hok.laid P (AN _) ⟨Bc _,[],0,.nil,sW⟩
 have zy:∀c,s2.heap.objs.size < c->upd L s2.heap.objs.size (.lst []) c=none:=λc h=>by rw[AO (Ed h)];exact U.hok.fresh (KJ h)
 have wQ:upd L s2.heap.objs.size (.lst []) H.objs.size=none:=zy _ (by ext)
 have tS:∀x c,(B8 l.objs.size scope.names I).lookup x=some c->I.lookup x=some c∨((Fm l scope.names).IsCell c none/\l.objs.size<=c):=λx c e=>Im scope.names l I x c e
 obtain⟨W,⟨m0,w0⟩,turn⟩:=q2 s2.heap.objs.size hD
 have Q:∀s₃:AK,s₃={ s2 with heap:=Fm l scope.names } ->
   HE (AY X.prog X.w) X.A (.compLoop (.ListComp elt [⟨ϖ,iter,ifs,0⟩] scope pos) 0 (.ref it) (.ref s2.heap.objs.size) (compEnvC scope (B8 l.objs.size scope.names I) H.objs.size X.env))
    (RR (.ref s2.heap.objs.size) H.objs.size) s₃:=by
  rintro s₃ rfl
  have J0:Inv (C3 X scope N' (B8 l.objs.size scope.names I) H.objs.size s2 L Y (X.pn++ζ)) [] (Bk own.length none++σ) (upd L s2.heap.objs.size (.lst [])) { s2 with heap:=Fm l scope.names }:=
   Wj Sc U f2 uD c1 c2 xC tS (λc h=>zy c ∅) vh zA rfl U.bare u hok wQ
  refine ZM (X':=C3 X scope N' (B8 l.objs.size scope.names I) H.objs.size s2 L Y (X.pn++ζ)) hc rfl T (hg _ _ _ _ _ _) (vS _ _ _ _ _ _) (he _ _ _ _ _ _) W turn (λN H' s' J q=>hRR _ _ _ N H' s' vh J q) J0 (T.keep _ _ _ mi λb M o e=>P b o e) (λb hb=>?_) w0;obtain⟨z0,z1,z2,z3,z4,z5⟩:=f2 b hb;refine⟨by rw[AO (Ao (uD b hb))];exact z0,Ao (Aa (uD b hb) vh),λz=>?_,.inl hb,λx c e=>?_,λp hp=>?_⟩
  ·exact(Aj.mp (U.stkSub _ z)).elim z1 z2
  ·rcases tS x c e with e | ⟨_,e⟩
   ·exact z4 x c (c1 x c e)
   ·exact Ed (Aa (uD b hb) (A7 xC e))
  ·have hp:=hp
   rw[BO]at hp;exact z5 p hp
 exact codeAny_compStart_list (Q _ rfl) (T.self X.A 0 _ _ _ (T.keep _ _ _ mi λb M o e=>P b o e) (Q _ rfl))
theorem gu(P:X.calm=true)(B:K7 X scope own N')(hi:PI X L iter R)
  (S:∀w C l o A pn,PG (C3 X scope N' w C l o A pn) L g) (U:∀w C l o A pn,Wv (C3 X scope N' w C l o A pn) E tc) (Y:∀w C l o A pn,PE (C3 X scope N' w C l o A pn) G Z)
  (hs:autoParam (∀x,B5 iter X.env x=pure x) yq2q):PE X (.ListComp G [⟨L,iter,E,0⟩] scope pos) (XV own.length R g tc Z):=by
 intro ζ s σ H Q I h;rw[eval_ListComp];obtain⟨w,uI,c1,c2⟩:=X8 (λy hy hf=>I.ok.has y.1 (B.free y hy hf));refine YG rfl hs uI B.kind B.names (thn (hi ζ s σ H _ I h) λv s1 h1=>thn h1 λitv s2 h2=>?_);obtain⟨it,fp,tn,J,H2,rfl,N,T,mi,O,q2⟩:=h2
 refine Qh P B S U Y c1 c2 N T mi O q2 λD C cl' σ' H' s' hC J q=>?_
 obtain⟨m,hn,_⟩:=J.loc;exact⟨m,hn,λh' sb=>⟨.ref D,H',SF N J hC O sb,rfl,q⟩⟩
theorem Xh{i:Nat}{y:Str}{py t9:Pos}(hc:X.calm=true)(um:Bb (.ListComp G [⟨Q,iter,L,0⟩] scope pos) (some (.Name y py)) t9.line X.env=pure true)
  (hN:X.N.Nodup) (R:X.N[i]?=some y) (zC:Loc X.env.scope y) (P:K7 X scope own N') (hi:PI X Q iter wi)
  (hg:∀B C l w O pn,PG (C3 X scope N' B C l w O pn) Q g) (vS:∀B C l w O pn,Wv (C3 X scope N' B C l w O pn) L tc) (he:∀B C l w O pn,PE (C3 X scope N' B C l w O pn) G te)
  (hs:autoParam (∀x,B5 iter X.env x=pure x) yq2q) (S:autoParam (X.fn y=true∨X.env.scope.names.lookup y=some .local) yq3q) :
  PS X (.Assign [.Name y py] (.ListComp G [⟨Q,iter,L,0⟩] scope pos) t9) (gJ (XV own.length wi g tc te) (IT i)):=by
 intro ζ s σ H D I h;rw[exec_Assign_Name_used _ _ _ _ um];refine AA (wpAny_standAt (AA ?_));obtain⟨B,uI,c1,c2⟩:=X8 (λy R S=>I.ok.has y.1 (P.free y R S))
 refine AA (DP (YG rfl hs uI P.kind P.names
  (thn (hi ζ s σ H _ I h) λv s1 h1=>thn h1 λitv s2 h2=>?_)) (λM s' hq=>AC (AC hq)) λM M e=>e)
 obtain⟨it,fp,tn,J,H2,rfl,E,T,mi,f2,q2⟩:=h2
 refine Qh hc P hg vS he c1 c2 E T mi f2 q2 λA C cl' σ' H' s' U J q=>?_
 obtain⟨m,hn,_⟩:=J.loc;have I3:=SF E J U f2 (SY ..);have wQ:=J.free
 have sG:∀x c,X.env.cells.lookup x=some c->c≠C:=λx c e z=>by
  obtain⟨v,q⟩:=E.cell x c e;exact zX (Aa q.lt (by ext)) (Em _)
 have xE:=Ed (Aa E.lt U);refine nS (Rm (v:=.ref A) I3 hN R zC rfl (λs4 I4 ⟨a,sb,ha⟩=>?_) S)
 have Y:C≠a:=by
  rcases ha with e | e
  ·ext
  ·exact CO (sG _ _ e)
 refine⟨m,hn.sameBut sb Y,λh' Z=>⟨_,H',?_,q⟩⟩
 refine I4.turned (t':=s4.toks) (λb o hb e=>(Z.2 b hb).trans e) wQ xE (.inr (A7 E.sz U)) sG λp hp z=>?_
 exact zX (Aa (AX (E.pin p hp).1) (by ext)) (Em _)
end
end L2
namespace L2
open PySem.SeqAt
noncomputable def Kz:D->D->Option Bool
 | .non,.non=>some true
 | .bl a,.bl b=>some (a==b)
 | .int a,.int b=>some (a==b)
 | .str a,.str b=>some (a==b)
 | .non,.int _=>some false
 | .non,.str _=>some false
 | .non,.bl _=>some false
 | .non,.tup _=>some false
 | .int _,.non=>some false
 | .str _,.non=>some false
 | .bl _,.non=>some false
 | .tup _,.non=>some false
 | .int _,.tup _=>some false
 | .tup _,.int _=>some false
 | _,_=>none
noncomputable def eqL(f:D->D->Option Bool):List D->List D->Option Bool
 | [],[]=>some true
 | [],_ :: _=>some false
 | _ :: _,[]=>some false
 | x :: l,y :: m=>match f x y,eqL f l m with
  | some a,some b=>some (a&&b)
  | _,_=>none
def eqP:Nat->D->D->Option Bool
 | 0,x,y=>Kz x y
 | n+1,x,y=>match x,y with
  | .tup l,.tup m=>eqL (eqP n) l m
  | x,y=>Kz x y
theorem Ky(h:eqL f (x :: xs) (y :: l)=some b):∃a c,f x y=some a/\eqL f xs l=some c/\b=(a&&c):=by
 unfold eqL at h;split at h
 ·ext
 ·cases h
theorem X5:∀{xs l:List D} {b:Bool},eqL f xs l=some b->(∀(j:Nat) x y,xs[j]?=some x->l[j]?=some y->∃c,f x y=some c) /\
  b=((A0 (min xs.length l.length)).all (λj=>match xs[j]?,l[j]? with | some x,some y=>(f x y).getD false | _,_=>false)&&xs.length==l.length)
 | [],[],b,h=>by cases h;simp
 | [],y :: l,b,h=>by cases h;ext
 | x :: xs,[],b,h=>by cases h;simp
 | x :: xs,y :: l,b,h=>by
  obtain⟨a,c,m,o,rfl⟩:=Ky h;obtain⟨w,A⟩:=X5 o;refine⟨λj B C E G=>?_,?_⟩
  ·cases j with
   | zero=>ext
   | succ j=>exact w j B C (by simpa using E) (by simpa using G)
  ·rw[A,Am,Am,show min (xs.length+1) (l.length+1)=min xs.length l.length+1 by ext,VX,ju,nq]
   simp only[UA,m,Zh,Function.comp_def,List.getElem?_cons_succ]
   lia
section
variable{K:AB}{ρ:List AL}{H:Hp}
theorem X3(n k:Nat)(y:D):eqP n (.ref k) y=none:=by cases n <;> cases y <;> rfl
theorem X4(n:Nat)(l:List D)(y:D):eqP n (.fro l) y=none:=by cases n <;> cases y <;> rfl
theorem iW(n:Nat)(c:AL)(y:D):eqP n (.exc c) y=none:=by cases n <;> cases y <;> rfl
theorem My(B:DL K ρ H x v)(l:DL K ρ H m v):x=m∨(∃o w vs,x=.tup o/\m=.tup w/\A8 K ρ H o vs/\A8 K ρ H w vs)∨(∀n y,eqP n x y=none)∨∀n y,eqP n m y=none:=by
 cases B with
 | non=>cases l;exact .inl rfl
 | bl b=>cases l;exact .inl rfl
 | int b=>cases l;exact .inl rfl
 | str b=>cases l;exact .inl rfl
 | fro _ _=>exact .inr (.inr (.inl λn y=>X4 n _ y))
 | ref _=>exact .inr (.inr (.inl λn y=>X3 n _ y))
 | exc _ _=>exact .inr (.inr (.inl λn y=>iW n _ y))
 | tup C E=>
  cases l with
  | fro _ _=>exact .inr (.inr (.inr λn y=>X4 n _ y))
  | ref _=>exact .inr (.inr (.inr λn y=>X3 n _ y))
  | exc _ _=>ext
  | tup A G=>
   rw[C]at A;cases A;exact .inr (.inl ⟨_,_,_,rfl,rfl,E,G⟩)
theorem iV:∀(n:Nat) {x B y:D} {v:V} {b b':Bool},DL K ρ H x v->DL K ρ H B v->eqP n x y=some b->eqP n B y=some b'->b=b':=by
 intro n
 induction n with
 | zero=>
  intro x B y v b b' I J h l
  rcases My I J with rfl | ⟨C,L,vs,rfl,rfl,_,_⟩ | q | q
  ·rw[h]at l;cases l;rfl
  ·have:eqP 0 (.tup C) y=eqP 0 (.tup L) y:=by cases y <;> rfl
   rw[<-this,h]at l;cases l;rfl
  ·rw[q]at h;cases h
  ext
 | succ n O=>
  intro x B y v b b' I J h l
  have lists:∀{E:List D} {vs:List V} {G m:List D} {b b':Bool},A8 K ρ H E vs->A8 K ρ H G vs->eqL (eqP n) E m=some b->eqL (eqP n) G m=some b'->b=b':=by
   intro E
   induction E with
   | nil=>
    intro vs G m b b' o w g A;cases o;cases w;rw[g]at A;cases A;rfl
   | cons d C N=>
    intro vs G m b b' o w g A
    cases o with
    | cons P Q=>
     cases w with
     | cons R S=>
      cases m with
      | nil=>cases g;cases A;rfl
      | cons y m=>
       obtain⟨p,q,T,U,rfl⟩:=Ky g;obtain⟨Z,q',X,Y,rfl⟩:=Ky A;rw[O P R T X,N Q S U Y]
  rcases My I J with rfl | ⟨C,L,vs,rfl,rfl,o,w⟩ | q | q
  ·rw[h]at l;cases l;rfl
  ·by_cases c:∃m,y=.tup m
   ·obtain⟨m,rfl⟩:=c
    exact lists o w h l
   ·have:eqP (n+1) (.tup C) y=eqP (n+1) (.tup L) y:=by
     cases y <;> first | rfl | exact(c ⟨_,rfl⟩).elim
    rw[<-this,h]at l;cases l;rfl
  ·rw[q]at h;cases h
  ext
theorem EO(h:Kz x x=some b):b=true:=by
 cases x <;> first | (cases h;done) | (cases h;simp)
theorem QU:∀(n:Nat) {x:D} {b:Bool},eqP n x x=some b->b=true
 | 0,_,_,h=>EO h
 | n+1,x,b,h=>by
  have lists:∀{l:List D} {b:Bool},eqL (eqP n) l l=some b->b=true:=by
   intro l
   induction l with
   | nil=>intro b g;cases g;rfl
   | cons d A m=>
    intro b g;obtain⟨p,q,o,w,rfl⟩:=Ky g;rw[QU n o,m w];rfl
  cases x with
  | tup l=>exact lists h
  | non=>exact EO (x:=.non) h
  | bl c=>exact EO (x:=.bl c) h
  | int c=>exact EO (x:=.int c) h
  | str c=>exact EO (x:=.str c) h
  | ref c=>exact EO (x:=.ref c) h
  | fro c=>exact EO (x:=.fro c) h
  | exc c=>exact EO (x:=.exc c) h
theorem LL(l:(∃f,y=.fro f)∨(∃r,y=.ref r)∨∃c,y=.exc c)(n:Nat):eqP n x y=none:=by
 rcases l with⟨f,rfl⟩ | ⟨r,rfl⟩ | ⟨c,rfl⟩ <;> (cases n <;> cases x <;> rfl)
theorem cw(n:Nat)(C:DL K ρ H x v)(o:DL K ρ H y v)(h:eqP n x y=some b):b=true:=by
 induction n generalizing x y v b with
 | zero=>
  rcases My C o with rfl | ⟨E,G,vs,rfl,rfl,_,_⟩ | q | q
  ·exact QU 0 h
  ·cases h
  ·ext
  ·cases o with
   | fro _ _=>rw[LL (.inl ⟨_,rfl⟩)]at h;cases h
   | ref _=>rw[LL (.inr (.inl ⟨_,rfl⟩))]at h;cases h
   | exc _ _=>rw[LL (.inr (.inr ⟨_,rfl⟩))]at h;cases h
   | non=>cases(q 0 .non)
   | bl b=>cases(q 0 (.bl b))
   | int b=>cases(q 0 (.int b))
   | str b=>cases(q 0 (.str b))
   | tup _ _=>cases(q 0 .non)
 | succ n I=>
  have lists:∀{w A:List D} {vs:List V} {b:Bool},A8 K ρ H w vs->A8 K ρ H A vs->eqL (eqP n) w A=some b->b=true:=by
   intro w
   induction w with
   | nil=>intro A vs b l m g;cases l;cases m;cases g;rfl
   | cons d E B=>
    intro A vs b l m g
    cases l with
    | cons J L=>
     cases m with
     | cons N O=>
      obtain⟨p,q,P,Q,rfl⟩:=Ky g;rw[I J N P,B L O Q];rfl
  rcases My C o with rfl | ⟨E,G,vs,rfl,rfl,l,m⟩ | q | q
  ·exact QU (n+1) h
  ·exact lists l m h
  ·ext
  ·cases o with
   | fro _ _=>rw[LL (.inl ⟨_,rfl⟩)]at h;cases h
   | ref _=>rw[LL (.inr (.inl ⟨_,rfl⟩))]at h;cases h
   | exc _ _=>rw[LL (.inr (.inr ⟨_,rfl⟩))]at h;cases h
   | non=>cases(q 0 .non)
   | bl b=>cases(q 0 (.bl b))
   | int b=>cases(q 0 (.int b))
   | str b=>cases(q 0 (.str b))
   | tup _ _=>cases(q 0 .non)
end
section
variable{X:Cx}{ζ:List (AL×Obj)}{σ:St}{H:Hp}{s:AK}{ρ:List AL}
theorem Fj(A:BP):A.in1.units=A.units+1:=rfl
theorem Bp.at_(r:Bp vs l)(h:j < l.toArray.size):∃v,vs[j]?=some v/\RelV v l.toArray[j]:=by
 have m:j < l.length:=by simpa using h
 have o:j < vs.length:=by rw[r.length];exact m
 obtain⟨u,w,A⟩:=r.get (i:=j) (x:=vs[j]) (by simp[o])
 ext
theorem S3(N:∀(x y:D) (b:Bool) (m o:V) (u v:AD),eqP n x y=some b->DL X.K ρ H x m->DL X.K ρ H y o->RelV m u->RelV o v->EqAt A s u v b)
  (h:eqL (eqP n) xs B=some b) (C:A8 X.K ρ H xs vs) (E:A8 X.K ρ H B O) (G:Bp vs us) (I:Bp O l) :
  ∃e:Nat->Bool,(∀j (J:j < us.toArray.size) (L:j < l.toArray.size),EqAt A s us.toArray[j] l.toArray[j] (e j))/\b=((A0 (min us.toArray.size l.toArray.size)).all e&&us.toArray.size==l.toArray.size):=by
 obtain⟨P,Q⟩:=X5 h;refine⟨λj=>match xs[j]?,B[j]? with | some x,some y=>(eqP n x y).getD false | _,_=>false,λj J L=>?_,?_⟩
 ·obtain⟨v,R,S⟩:=Bp.at_ G J
  obtain⟨w,T,U⟩:=Bp.at_ I L;obtain⟨x,Y,Z⟩:=C.get' R;obtain⟨y,e4,ry⟩:=E.get' T;obtain⟨c,hc⟩:=P j x y Y e4;have:=N x y c v w _ _ hc Z ry S U;ext
 ·rw[Q,C.length,E.length,G.length,I.length]
  simp
theorem Np(I:Inv X ζ σ H s)(m:A.units < Bd)(h:Kz x y=some b)(J:DL X.K ρ H x L)(o:DL X.K ρ H y N)(w:RelV L u)(l:RelV N v) :
  EqAt A s u v b/\RcAt A s u v b/\RcNeAt A s u v (!b):=by
 cases J with
 | non=>
  cases w
  cases o with
  | non=>cases l;cases h;exact⟨EqAt.same _,RcAt.none_none,RcNeAt.none_none⟩
  | bl c=>cases l;cases h;exact⟨EqAt.none_bool _,RcAt.none_bool _,RcNeAt.none_bool _⟩
  | int i=>obtain⟨t,rfl⟩:=l;cases h;exact⟨EqAt.none_int _ _,RcAt.none_int _ _,RcNeAt.none_int _ _⟩
  | str z=>obtain⟨t,rfl⟩:=l;cases h;exact⟨EqAt.none_str _ _,RcAt.none_str _ _,RcNeAt.none_str _ _⟩
  | tup B C=>
   cases l;cases h;obtain⟨E,_,p,_⟩:=I.tuple (.inl (.inl B));exact⟨EqAt.none_tuple p m,RcAt.none_tuple p m,RcNeAt.none_tuple p m⟩
  | _=>cases h
 | bl a=>
  cases w
  cases o with
  | non=>cases l;cases h;exact⟨EqAt.bool_none _,RcAt.bool_none _,RcNeAt.bool_none _⟩
  | bl c=>cases l;cases h;exact⟨EqAt.bool_bool _ _,RcAt.bool_bool _ _,RcNeAt.bool_bool _ _⟩
  | _=>cases h
 | int a=>
  obtain⟨t,rfl⟩:=w
  cases o with
  | non=>cases l;cases h;exact⟨EqAt.int_none _ _,RcAt.int_none _ _,RcNeAt.int_none _ _⟩
  | int i=>obtain⟨G,rfl⟩:=l;cases h;exact⟨EqAt.int_int _ _ _ _,RcAt.int_int _ _ _ _,RcNeAt.int_int _ _ _ _⟩
  | tup B C=>
   cases l;cases h;obtain⟨E,_,p,_⟩:=I.tuple (.inl (.inl B));exact⟨EqAt.int_tuple _ _ p m,RcAt.int_tuple _ _ p m,RcNeAt.int_tuple _ _ p m⟩
  | _=>cases h
 | str a=>
  obtain⟨t,rfl⟩:=w
  cases o with
  | non=>cases l;cases h;exact⟨EqAt.str_none _ _,RcAt.str_none _ _,RcNeAt.str_none _ _⟩
  | str i=>obtain⟨G,rfl⟩:=l;cases h;exact⟨EqAt.str_str _ _ _ _,RcAt.str_str _ _ _ _,RcNeAt.str_str _ _ _ _⟩
  | _=>cases h
 | tup B C=>
  cases w;obtain⟨E,_,p,_⟩:=I.tuple (.inl (.inl B))
  cases o with
  | non=>cases l;cases h;exact⟨EqAt.tuple_none p m,RcAt.tuple_none p m,RcNeAt.tuple_none p m⟩
  | int i=>obtain⟨G,rfl⟩:=l;cases h;exact⟨EqAt.tuple_int _ _ p m,RcAt.tuple_int _ _ p m,RcNeAt.tuple_int _ _ p m⟩
  | _=>cases h
 | _=>cases h
theorem Wi(I:Inv X ζ σ H s):∀(n:Nat) (A:BP) (x y:D) (b:Bool) (l m:V) (u v:AD),A.units+n < Bd->eqP n x y=some b->DL X.K ρ H x l->DL X.K ρ H y m->RelV l u->RelV m v->EqAt A s u v b:=by
 intro n
 induction n with
 | zero=>exact λA x y b l m u v O h w B C E=>(Np I (by omega) h w B C E).1
 | succ n P=>
  intro A x y b l m u v O h w B C E
  by_cases Q:∃G J,x=.tup G/\y=.tup J
  ·obtain⟨G,J,rfl,rfl⟩:=Q
   cases w with
   | @tup _ a vs L N=>
    cases B with
    | @tup _ c ws b1 b2=>
     cases C;cases E
     by_cases o:a=c
     ·subst o
      rw[cw (n+1) (.tup L N) (.tup b1 b2) h];exact EqAt.same _
     ·obtain⟨mh,R,p,_⟩:=I.tuple (.inl (.inl L))
      obtain⟨si,S,T,_⟩:=I.tuple (.inl (.inl b1));obtain⟨e,U,rfl⟩:=S3 (λx y b l m u v Y Z g3 g4 g5=>P A.in1 x y b l m u v (by rw[Fj];lia) Y Z g3 g4 g5) h N b2 R S;exact EqAt.of_refs o (oI p T ∅ U)
  ·have hf:Kz x y=some b:=by
    cases x <;> cases y <;> first | exact h | ext
   exact(Np I ∅ hf w B C E).1
noncomputable def WX(d:D)(S:Sto):Option (List D):=match d with
 | .fro l=>some l
 | .ref n=>match S[n]? with
  | some (.lst l)=>some l
  | _=>none
 | _=>none
def eqB(x y:D)(S:Sto):Option Bool:=match WX x S,WX y S with
 | some l,some m=>if l.length=m.length then eqL (eqP 8) l m else some false
 | none,none=>eqP 8 x y
 | some _,none=>match y with
  | .tup _=>some false
  | .non=>some false
  | _=>none
 | none,some _=>match x with
  | .tup _=>some false
  | .non=>some false
  | _=>none
def eqD(neg:Bool)(x y:D)(S:Sto):Res D:=match eqB x y S with
 | some b=>.ok (.bl (if neg then !b else b)) S
 | none=>.bad
theorem O6{K}{S}{d}{x}{l}(hs:Og K ρ S H)(r:DL K ρ H d x)(h:WX d S=some l):∃p xs,x=.ref p/\A8 K ρ H l xs/\SqL K H p xs:=by
 cases r with
 | fro m w=>cases h;exact⟨_,_,rfl,w,m.sq⟩
 | @ref n a A=>
  obtain⟨o,B,C⟩:=hs.there A;unfold WX at h;simp only[B]at h
  cases o with
  | lst G=>cases h;obtain⟨vs,e,E⟩:=C;exact⟨_,_,rfl,E,.inl (.inl e)⟩
  | _=>cases h
 | _=>cases h
set_option tactic.hygienic true in
theorem Tb{S}{x y}{b}{G J}{u v}(I:Inv X ζ σ H s)(hu:X.A.units+64 < Bd)(hs:Og X.K ρ S H)(L:DL X.K ρ H x G)(N:DL X.K ρ H y J)(O:RelV G u)(P:RelV J v)(h:eqB x y S=some b) :
  RcAt X.A s u v b/\RcNeAt X.A s u v (!b):=by
 unfold eqB at h;split at h
 ·rename_i Q ys U Y
  obtain⟨p,vs,rfl,R,sq⟩:=O6 hs L U;obtain⟨p',xF,rfl,zD,sq'⟩:=O6 hs N Y;cases O;cases P;obtain⟨w,C,l,_⟩:=I.list sq;obtain⟨E,zE,Z,_⟩:=I.list sq';split at h
  ·rename_i o
   obtain⟨e,T,rfl⟩:=S3 (λx y b G J u v g1 g2 g3 g4 g5=>Wi I 8 X.A.in1 x y b G J u v (by rw[Fj];lia) g1 g2 g3 g4 g5) h R zD C zE
   have m:w.toArray.size=E.toArray.size:=by
    simp only[BU];rw[<-C.length,<-zE.length,<-R.length,<-zD.length];exact o
   have e1:((A0 (min w.toArray.size E.toArray.size)).all e&&w.toArray.size==E.toArray.size)=(A0 w.toArray.size).all e:=by
    rw[<-m,Nat.min_self,beq_self_eq_true,Bool.and_true]
   rw[e1];exact⟨RcAt.lists l.isList Z.isList m ∅ T,RcNeAt.lists l.isList Z.isList m ∅ T⟩
  ·rename_i o
   cases h
   have m:(w.toArray.size != E.toArray.size)=true:=by
    simp only[BU];rw[<-C.length,<-zE.length,<-R.length,<-zD.length];simpa using o
   exact⟨RcAt.lists_lengths l.isList Z.isList m ∅,RcNeAt.lists_lengths l.isList Z.isList m ∅⟩
 ·by_cases ht:∃Q ys,x=.tup Q/\y=.tup ys
  ·obtain⟨Q,ys,rfl,rfl⟩:=ht
   cases L with
   | tup a1 a2=>
    cases N with
    | tup b1 b2=>
     cases O;cases P;obtain⟨w,C,p,_⟩:=I.tuple (.inl (.inl a1));obtain⟨E,t7,B,_⟩:=I.tuple (.inl (.inl b1));obtain⟨e,T,rfl⟩:=S3 (λx y b G J u v g1 g2 g3 g4 g5=>Wi I 7 X.A.in1 x y b G J u v (by rw[Fj];lia) g1 g2 g3 g4 g5) h a2 b2 C t7;exact⟨oI p B ∅ T,RcNeAt.tuples p B ∅ T⟩
  ·have hf:Kz x y=some b:=by
    cases x <;> cases y <;> first | exact h | ext
   exact(Np I ∅ hf L N O P).2
 ·rename_i Q U Y
  obtain⟨p,vs,rfl,R,sq⟩:=O6 hs L U;cases O;obtain⟨w,C,l,_⟩:=I.list sq;split at h
  ·cases h
   cases N with
   | tup b1 b2=>
    cases P;obtain⟨E,t7,B,_⟩:=I.tuple (.inl (.inl b1));exact⟨RcAt.list_tuple l.isList B ∅,RcNeAt.list_tuple l.isList B ∅⟩
  ·cases h
   cases N;cases P;exact⟨RcAt.list_none l.isList ∅,RcNeAt.list_none l.isList ∅⟩
  ·cases h
 ·rename_i Q U Y
  obtain⟨p,vs,rfl,R,sq⟩:=O6 hs N Y;cases P;obtain⟨w,C,l,_⟩:=I.list sq;split at h
  ·cases h
   cases L with
   | tup b1 b2=>
    cases O;obtain⟨E,t7,B,_⟩:=I.tuple (.inl (.inl b1));exact⟨RcAt.tuple_list B l.isList ∅,RcNeAt.tuple_list B l.isList ∅⟩
  ·cases h
   cases L;cases O;exact⟨RcAt.none_list l.isList ∅,RcNeAt.none_list l.isList ∅⟩
  ·cases h
set_option tactic.hygienic true in
theorem jS(o:X.A.units+64 < Bd):OpR X (Bo .Eq) (rD X.K (eqD false)):=by
 intro ζ s σ H x y v u Q I w B h;obtain⟨ρ,S,a,b,d,J,m,C,E,l,k⟩:=h;unfold eqD at l;split at l
 ·rename_i c G
  cases l;exact(Tb I o m C E w B G).1 _ _ _ _ ⟨.bl c,H,I,rfl,k ρ H _ .refl m (.bl _)⟩
 ·cases l
set_option tactic.hygienic true in
theorem qI(o:X.A.units+64 < Bd):OpR X (Bo .NotEq) (rD X.K (eqD true)):=by
 intro ζ s σ H x y v u Q I w B h;obtain⟨ρ,S,a,b,d,J,m,C,E,l,k⟩:=h;unfold eqD at l;split at l
 ·rename_i c G
  cases l;exact(Tb I o m C E w B G).2 _ _ _ _ ⟨.bl (!c),H,I,rfl,k ρ H _ .refl m (.bl _)⟩
 ·cases l
def K5(x:D):List D->Option Bool
 | []=>some false
 | d :: l=>match eqP 8 d x,K5 x l with
  | some a,some b=>some (a||b)
  | _,_=>none
def inD(neg:Bool)(x y:D)(S:Sto):Res D:=match gR y S with
 | some l=>match K5 x l with
  | some b=>.ok (.bl (if neg then !b else b)) S
  | none=>.bad
 | none=>.bad
theorem Wq(h:K5 x (d :: l)=some b):∃a c,eqP 8 d x=some a/\K5 x l=some c/\b=(a||c):=by
 unfold K5 at h;split at h
 ·ext
 ·cases h
open Classical in
theorem K4(I:Inv X ζ σ H s)(R:A.units+8 < Bd)(S:DL X.K ρ H x T)(U:RelV T v):∀{l:List D} {vs:List V} {us:List AD} {b:Bool},A8 X.K ρ H l vs->Bp vs us->K5 x l=some b ->
  ∃e:AD->Bool,(∀y∈us,EqAt A s y v (e y))/\b=us.any e:=by
 intro l vs us b r q h
 let e:AD->Bool:=λy=>decide (∃d w,d∈l/\DL X.K ρ H d w/\RelV w y/\eqP 8 d x=some true)
 have all:∀{m:List D} {B:List V} {o:List AD} {C:Bool},(∀d∈m,d∈l)->A8 X.K ρ H m B->Bp B o->K5 x m=some C->(∀y∈o,EqAt A s y v (e y))/\C=o.any e:=by
  intro m
  induction m with
  | nil=>intro B o C _ r q h;cases r;cases q;cases h;ext
  | cons d m Y=>
   intro B o C O r q h
   cases r with
   | cons J Z=>
    cases q with
    | @cons w y _ _ L q2=>
     obtain⟨a,c,N,h2,rfl⟩:=Wq h;obtain⟨i1,i2⟩:=Y (λz E=>O z (AM _ E)) Z q2 h2
     have P:e y=a:=by
      by_cases G:∃d w,d∈l/\DL X.K ρ H d w/\RelV w y/\eqP 8 d x=some true
      ·obtain⟨d',w',_,Q,g2,g3⟩:=id G
       rw[RelV.inj g2 L]at Q;have:=iV 8 Q J g3 N;rw[<-this];exact wX G
      ·have:a=false:=by
        cases a with
        | false=>rfl
        | true=>exact(G ⟨d,_,O d AW,J,L,N⟩).elim
       rw[this];exact wY G
     refine⟨λz E=>?_,by rw[Md,P,<-i2]⟩
     rcases Aj.mp E with rfl | E
     ·rw[P]
      exact Wi I 8 A d x a _ _ _ _ R N J S L U
     ext
 obtain⟨e1,e2⟩:=all (λM h=>h) r q h;exact⟨e,e1,e2⟩
set_option tactic.hygienic true in
theorem jR(T:X.A.units+64 < Bd):OpR X (Bo .In) (rD X.K (inD false)):=by
 intro ζ s σ H x y v u Q I E N h;obtain⟨ρ,S,a,b,d,U,m,G,O,l,k⟩:=h;unfold inD at l;split at l
 ·rename_i Y P
  split at l
  ·rename_i c J
   cases l;obtain⟨p,Z,rfl,L,sq⟩:=XZ m O P;cases N
   rcases sq with sq | sq
   ·obtain⟨o,w,B,_⟩:=I.list sq
    obtain⟨e,C,rfl⟩:=K4 I (A:=X.A.in1) (by rw[Fj];lia) G E L w J;exact in_listAt e B.isList (λz R=>C z (by ext)) ⟨.bl (o.toArray.any e),H,I,rfl,by rw[Jt];exact k ρ H _ .refl m (.bl _)⟩
   ·obtain⟨o,w,B,_⟩:=I.tuple sq
    obtain⟨e,C,rfl⟩:=K4 I (A:=X.A.in1) (by rw[Fj];lia) G E L w J;exact in_tupleAt e B (λz R=>C z (by grind)) ⟨.bl (o.toArray.any e),H,I,rfl,by rw[Jt];exact k ρ H _ .refl m (.bl _)⟩
  ·cases l
 ·cases l
set_option tactic.hygienic true in
theorem bv(T:X.A.units+64 < Bd):OpR X (Bo .NotIn) (rD X.K (inD true)):=by
 intro ζ s σ H x y v u Q I E N h;obtain⟨ρ,S,a,b,d,U,m,G,O,l,k⟩:=h;unfold inD at l;split at l
 ·rename_i Y P
  split at l
  ·rename_i c J
   cases l;obtain⟨p,Z,rfl,L,sq⟩:=XZ m O P;cases N
   rcases sq with sq | sq
   ·obtain⟨o,w,B,_⟩:=I.list sq
    obtain⟨e,C,rfl⟩:=K4 I (A:=X.A.in1) (by rw[Fj];lia) G E L w J;exact notIn_listAt e B.isList (λz R=>C z (by ext)) ⟨.bl (!o.toArray.any e),H,I,rfl,by rw[Jt];exact k ρ H _ .refl m (.bl _)⟩
   ·obtain⟨o,w,B,_⟩:=I.tuple sq
    obtain⟨e,C,rfl⟩:=K4 I (A:=X.A.in1) (by rw[Fj];lia) G E L w J;exact notIn_tupleAt e B (λz R=>C z (by grind)) ⟨.bl (!o.toArray.any e),H,I,rfl,by rw[Jt];exact k ρ H _ .refl m (.bl _)⟩
  ·cases l
 ·cases l
end
noncomputable def AT{l β:Type}[DecidableEq l](kvs:List (l×β))(k:l):Option β:=(kvs.find? λm=>decide (m.1=k)).map (·.2)
noncomputable def Cm{m o:Type}[DecidableEq m](kvs:List (m×o))(k:m)(v:o):List (m×o):=
 if (kvs.any λl=>decide (l.1=k))=true then kvs.map (λl=>if l.1=k then(l.1,v)else l)else kvs++[(k,v)]
section
variable{κ:Type}[DecidableEq κ]{K:AB}{ρ:List AL}{H:Hp}
theorem KVR.val(k:κ):∀{x:List (κ×D)} {y:List (κ×V)},KVR K ρ H x y->(AT x k=none->JX y k=none)/\∀d,AT x k=some d->∃v,JX y k=some v/\DL K ρ H d v
 | _,_,.nil=>⟨λG=>rfl,λd h=>by cases h⟩
 | (g,a) :: x,(m,b) :: y,.cons r t=>by
  obtain⟨l,o⟩:=r;subst l;unfold AT JX;rw[CP,CP]
  by_cases e:g=k
  ·ext
  ·simp only[e,decide_false]
   exact KVR.val k t
theorem KVR.any(k:κ):∀{x:List (κ×D)} {y:List (κ×V)},KVR K ρ H x y->(x.any λl=>decide (l.1=k))=y.any λl=>decide (l.1=k)
 | _,_,.nil=>rfl
 | (g,a) :: x,(m,b) :: y,.cons r t=>by
  rw[Md,Md,KVR.any k t,show g=m from r.1]
theorem KVR.repl(k:κ)(rd:DL K ρ H d v):∀{x:List (κ×D)} {y:List (κ×V)},KVR K ρ H x y->KVR K ρ H (x.map λl=>if l.1=k then(l.1,d)else l) (y.map λl=>if l.1=k then(l.1,v)else l)
 | _,_,.nil=>.nil
 | (g,a) :: x,(o,b) :: y,.cons r t=>by
  obtain⟨m,w⟩:=r;subst m;rw[Ai,Ai];refine .cons ?_ (KVR.repl k rd t)
  grind
theorem KVR.put(k:κ)(rd:DL K ρ H d v)(h:KVR K ρ H x y):KVR K ρ H (Cm x k d) (IE y k v):=by
 unfold Cm IE;rw[KVR.any k h];split
 ·exact KVR.repl k rd h
 ·exact OU h ⟨rfl,rd⟩
end
def Od{α:Type}(xs:List α)(lo hi:Option Int):List α:=(xs.drop (HT.sIx xs.length 0 lo)).take (HT.sIx xs.length xs.length hi - HT.sIx xs.length 0 lo)
section
variable{X:Cx}
theorem range_getD{l:Type}(d:l)(bs:List l):(A0 bs.length).map (λi=>bs.getD i d)=bs:=by
 apply D5
 intro i;rw[Ab]
 by_cases h:i < bs.length
 ·rw[EM h]
  simp[List.getD,h]
 ext
theorem fo{bs:List Bool}{l:List AD}(r:Bp (bs.map V.bl) l){i:Nat}{v:AD}(h:l.toArray[i]?=some v):v=.bool (bs.getD i false):=by
 have m:l[i]?=some v:=by simpa using h
 obtain⟨A,e⟩:=AJ.mp m
 have hb:i < bs.length:=by have:=r.length;simp at this;ext
 obtain⟨u,o,w⟩:=r.get (show(bs.map V.bl)[i]?=some (V.bl bs[i]) by simp[hb]);rw[m]at o;cases o;rw[show v=MX bs[i]from w];ext
def bK(K:AB)(f:List Bool->Bool):List V->Hp->VK->Prop:=λl H Q=>∃p bs,l=[.ref p]/\(SqL K H p (bs.map V.bl)∨SqT K H p (bs.map V.bl))/\Q (.bl (f bs)) H
theorem Qj{O:List (AL×Obj)}{s:AK}{S:St}{H:Hp}{p:AL}{bs:List Bool}{R:AD->AK->Prop}{E:AD->AK->Prop}(Y:X.calm=true)(I:Inv X O S H s)(B:SqL X.K H p (bs.map V.bl)∨SqT X.K H p (bs.map V.bl))
  (h:∀C L,(∃I Z wr n P St T,C=AV I/\Walks X.prog X.w X.A.in1 I Z wr n P St/\St 0 L.heap/\TruthOf X.prog X.w X.A.in1 P T/\(A0 n).map T=bs /\
   ∀(h':BI) (N:Nat),(∀b o,¬b∈wr->L.heap.get? b=some o->h'.get? b=some o)->Inv X O S H { L with heap:=h',toks:=N })->R C L) :
  AZ (AY X.prog X.w) X.A.in1 (PM (.ref p)) R E s:=by
 have U:X.A.in1.handled=none:=I.ok.hd Y
 have fin:∀(l:List AD),Bp (bs.map V.bl) l->(A0 l.toArray.size).map (λi=>bs.getD i false)=bs:=λl r=>by
  have:l.toArray.size=bs.length:=by have:=r.length;simp at this;simpa using this.symm
  rw[this,range_getD]
 have G:∀(l:List AD),Bp (bs.map V.bl) l->TruthOf X.prog X.w X.A.in1 (λi v=>l.toArray[i]?=some v) (λi=>bs.getD i false):=λl r i v s Q E hv q=>by
  rw[fo r hv];exact CL q
 have kp:∀(ob:Obj) (h':BI) (N:Nat),(∀b o,¬b∈[s.heap.objs.size]->(s.heap.push ob).get? b=some o->h'.get? b=some o)->Inv X O S H { s with heap:=h',toks:=N }:=λob h' N k=>
  I.kept λb o e=>k b o (by simpa using Ao (AX e)) (AG _ e)
 rcases B with B | B
 ·obtain⟨l,J,m,hz⟩:=I.list B
  refine Qy m.isList (h _ _ ⟨s.heap.objs.size,_,_,_,_,_,_,rfl,oH U _ p (Ao (AX m.isList.choose_spec.1)) l.toArray,⟨⟨_,AQ _ rfl,rfl,rfl⟩,?_⟩,G l J,fin l J,kp _⟩)
  exact m.isList.at λo e=>AG _ e
 ·obtain⟨l,J,m,hz⟩:=I.tuple B
  have pt:=m;refine Gc pt (h _ _ ⟨s.heap.objs.size,_,_,_,_,_,_,rfl,Walks.tuple U _ p (Ao m.lt) l.toArray,⟨⟨_,AQ _ rfl,rfl,rfl⟩,?_⟩,G l J,fin l J,kp _⟩);obtain⟨o,e,c⟩:=pt;exact⟨o,AG _ e,c⟩
theorem ZV(m:X.calm=true):G8 X (.builtin "all") (bK X.K λbs=>bs.all id):=by
 intro N s O H R S Q I r h;obtain⟨p,bs,rfl,o,q⟩:=h;obtain⟨u,rfl,w⟩:=vals1 r;cases w;refine call_all_walk (Qj m I o λA T ⟨J,B,wr,n,P,St,C,e,W,st,l,E,kp⟩=>⟨J,B,wr,n,P,St,C,e,W,st,l,λG L k=>⟨.bl _,H,kp G L k,rfl,?_⟩⟩);rw[<-E]at q;dsimp only at q;rw[nq]at q;exact q
theorem ZU(m:X.calm=true):G8 X (.builtin "any") (bK X.K λbs=>bs.any id):=by
 intro N s O H R S Q I r h;obtain⟨p,bs,rfl,o,q⟩:=h;obtain⟨u,rfl,w⟩:=vals1 r;cases w;refine call_any_walk (Qj m I o λA T ⟨J,B,wr,n,P,St,C,e,W,st,l,E,kp⟩=>⟨J,B,wr,n,P,St,C,e,W,st,l,λG L k=>⟨.bl _,H,kp G L k,rfl,?_⟩⟩);rw[<-E]at q;dsimp only at q;rw[nj]at q;exact q
noncomputable def nE:List D->Option (List Bool)
 | []=>some []
 | .bl b :: l=>(nE l).map (b :: ·)
 | _ :: _=>none
noncomputable def UY:ZLi->Int:=λl=>PN (λi=>l.getD i 0) l.length
theorem JZ:∀(n:Nat),(∀i,i < n->f i=g i)->PN f n=PN g n
 | 0,_=>rfl
 | n+1,h=>by
  show PN f n+f n=PN g n+g n;rw[JZ n λi l=>h i ∅,h n (by ext)]
theorem OM(x:Int)(f:Nat->Int):∀n:Nat,PN (λi=>match i with | 0=>x | j+1=>f j) (n+1)=x+PN f n
 | 0=>by show(0:Int)+x=x+0;ext
 | n+1=>by
  show PN _ (n+1)+f n=x+(PN f n+f n);rw[OM x f n]
  lia
theorem Sv:∀l:ZLi,UY l=l.sum
 | []=>rfl
 | n :: l=>by
  have:=Sv l;unfold UY at this ⊢;rw[List.sum_cons,<-this,Am,<-OM]
  refine JZ _ λi m=>?_
  cases i <;> simp
theorem RM{l:ZLi}{m:List AD}(r:Bp (l.map V.int) m):∃xs:Array (Int×Tok),m.toArray=intItems xs/\xs.size=l.length/\∀i,i < l.length->numAt xs i=l.getD i 0:=by
 induction l generalizing m with
 | nil=>
  cases r;exact⟨#[],by simp[intItems],rfl,λi o=>zX o (by ext)⟩
 | cons n l A=>
  cases r with
  | cons B C=>
   obtain⟨xs,w,E,G⟩:=A C;obtain⟨t,rfl⟩:=B;refine⟨#[(n,t)]++xs,?_,by simp[E];lia,λi o=>?_⟩
   ·unfold intItems at w ⊢
    rw[Array.map_append,<-w];simp
   ·cases i with
    | zero=>
     unfold numAt;rw[Array.getElem?_append_left ∅];simp
    | succ i=>
     have:=G i (by simpa using o);unfold numAt at this ⊢;rw[Array.getElem?_append_right ∅];simpa using this
def p7(K:AB)(f:ZLi->Int):List V->Hp->VK->Prop:=λm H Q=>∃p l,m=[.ref p]/\SqL K H p (l.map V.int)/\Q (.int (f l)) H
theorem ZO(l:X.calm=true):G8 X (.builtin "sum") (p7 X.K UY):=by
 intro L s N H m O Q I r h;obtain⟨p,P,rfl,o,q⟩:=h;obtain⟨u,rfl,w⟩:=vals1 r;cases w;obtain⟨R,A,B,S⟩:=I.list o;obtain⟨m,C,E,G⟩:=RM A
 refine sum_intListG (I.ok.hd l) (by rw[<-C];exact B.isList) λT U J kp=>⟨.int _,H,I.kept kp,⟨J,rfl⟩,?_⟩
 rw[E,JZ _ G];exact q
noncomputable def Kv:List D->Option ZLi
 | []=>some []
 | .int b :: l=>(Kv l).map (b :: ·)
 | _ :: _=>none
theorem QQ:∀{l:List D} {m:ZLi},Kv l=some m->l=m.map D.int
 | [],_,h=>by cases h;rfl
 | .int b :: l,m,h=>by
  unfold Kv at h
  cases o:Kv l with
  | none=>ext
  | some w=>rw[o]at h;cases h;rw[QQ o];rfl
 | .non :: _,_,h=>by cases h
 | .bl _ :: _,_,h=>by cases h
 | .str _ :: _,_,h=>by cases h
 | .tup _ :: _,_,h=>by cases h
 | .fro _ :: _,_,h=>by cases h
 | .ref _ :: _,_,h=>by cases h
 | .exc _ :: _,_,h=>by cases h
@[simp] def Y9:∀l:ZLi,Kv (l.map D.int)=some l
 | []=>rfl
 | n :: l=>by rw[Ai,Kv,Y9 l];rfl
@[simp] def dH:∀l:List Bool,nE (l.map D.bl)=some l
 | []=>rfl
 | n :: l=>by rw[Ai,nE,dH l];rfl
def rIsi(K:AB)(c:V)(l:AD):List V->Hp->VK->Prop:=λm H Q=>∃x t b,m=[x,c]/\M9 K H x t/\Df K t l=some b/\Q (.bl b) H
theorem dG(l:∀u,RelV c u->u=m):G8 X (.builtin "isinstance") (rIsi X.K c m):=by
 intro C s E H G J Q I r h;obtain⟨x,t,b,rfl,ty,e,q⟩:=h;obtain⟨u,w,rfl,o,A⟩:=vals2 r;rw[l w A]
 exact Y6 I o ty e λB=>⟨.bl b,H,I.tok B,rfl,q⟩
noncomputable def jZ(c T:String):Option Bool:=if T==c then some true else if T=="bool"&&c=="int" then some true else if ["NoneType", "bool", "int", "str", "tuple", "list", "dict"].contains T&&["bool", "int", "str", "tuple", "list", "dict"].contains c then some false else none
end
def ExAt(o:AL->Prop)(F:Option AD->Prop)(l C:AL)(H:Hp)(h:BI):Prop:=
 H l=none/\o l/\∃(m:Obj) (vs:Array AD) (E:AD),h.get? l=some m/\m.cls=.ref C/\(m.dict=none/\m.data=.fields vs)/\vs[0]?=some E /\
  ((F none/\vs[1]?=some .none)∨∃(T:AL) (w:Obj) (A:Array AD) (B:AD),F (some B)/\vs[1]?=some (.ref T)/\T≠l/\H T=none/\o T/\h.get? T=some w/\w.data=.fields A/\A[3]?=some B)
def CXG(P:Al)(w:A1):CXT:=λl H s E e m=>∃A C o,e=.ref A/\m.os=s.os/\JA m.gens/\Un (frs l) [] H o s.heap m.heap/\HOk P w o m.heap/\ExAt (λb=>s.heap.get? b=none) (· = some .none) A C o m.heap/\E (.ref C) none o
theorem Inv.with(I:Inv X L N H s)(z:AD->AK->Prop):Inv { X with xe:=z } L N H s:=by
 obtain⟨ok,a,b,c,d,e,f,g,i,j,l⟩:=I;obtain⟨O,P,Q,R,S,T,U,Y,Z,m,o,w,A,B,C,E,G,J⟩:=ok;exact⟨⟨O,P,Q,R,S,T,U,Y,Z,m,o,w,A,B,C,E,G,J⟩,a,b,c,d,e,f,g,i,j,l⟩
theorem Inv.without(I:Inv { X with xe:=z } l m H s):Inv X l m H s:=by
 have:=I.with X.xe
 exact this
structure Good(X:Cx)(E:EW):Prop where
 pass:Nx (CXG X.prog X.w) X (j5 E)
 own:oK (AY X.prog X.w) X.A X.env X.xe
 made:∀(ζ:List (AL×Obj)) (σ:St) (H:Hp) (s:AK) (h':BI) (ea C:AL) (args:List AD),Inv X ζ σ H s->E C σ H->BI.MadeExcOf s.heap h' ea (.ref C) args->X.xe (.ref ea) { s with heap:=h' }
theorem good_none(m:X.xe=λM M=>False):Good X noE:=by
 refine⟨λA B H s e E I h=>?_,by rw[m];exact oK.never,λM M M M M M M M M w M=>w.elim⟩;obtain⟨G,C,J,rfl,os,l,un,o,x,_,c,L,w⟩:=h;exact w.elim
def isB(t A:String):Option Bool:=if ["NoneType", "bool", "int", "str", "tuple", "list", "dict"].contains A then jZ t A else none
noncomputable def fM(l:LV)(x:Str):Bool:=decide (l.names.lookup x=some .local)||decide (l.names.lookup x=some .cell)||decide (l.names.lookup x=some .free)
def Te(X:Cx)(scope:LV)(own N':List Str):Bool:=
 decide (scope.kind=.function)&&scope.names.all (λy=>!decide (y.2=.local)||decide (scope.names.lookup y.1=some .local)) &&
 scope.names.all (λy=>!decide (y.2=.free)||decide (X.env.kindOf y.1=some .cell)||decide (X.env.kindOf y.1=some .free))&&decide (N'.length=own.length+X.N.length) &&
 ((N'.drop own.length).zip X.N).all (λp=>!fM (Is scope X.env) p.1||(decide (p.1=p.2)&&fM X.env.scope p.1&&(decide ((Is scope X.env).names.lookup p.1=some .cell)||decide ((Is scope X.env).names.lookup p.1=some .free))&&!decide (X.env.kindOf p.1=some .local)&&!scope.names.any (λz=>decide (z=(p.1,DB)))&&scope.names.any (λz=>decide (z=(p.1,FL))))) &&
 (Is scope X.env).names.all (λy=>(!decide (y.2=.cell)&&!decide (y.2=.free))||scope.names.any (λz=>decide (z=(y.1,FL)))||scope.names.any (λz=>decide (z=(y.1,DB))))
theorem UG:fM l x=true↔Vis l x:=by
 unfold fM Vis
 lia
theorem Jm(h:Te X scope own N'=true):K7 X scope own N':=by
 unfold Te at h;simp only[Di]at h;obtain⟨⟨⟨⟨⟨G,H⟩,m⟩,o⟩,w⟩,A⟩:=h;rw[Ju]at H m w A;refine⟨of_decide_eq_true G,λy B e=>?_,λy B e=>?_,of_decide_eq_true o,λi x e v=>?_,λx l=>?_⟩
 ·grind
 ·have:=m y B
  ext
 ·have C:=of_decide_eq_true o
  have S:=(AJ.mp e).1
  have l:i < X.N.length:=by ext
  have I:(x,X.N[i])∈(N'.drop own.length).zip X.N:=by
   rw[List.mem_iff_getElem?];refine⟨i,?_⟩;rw[SV];exact⟨by rw[Zj];exact e,by simp[l]⟩
  have:=w _ I;rw[UG.mpr v]at this;simp only[C1,jw,Di,KP,decide_eq_true_eq,Bool.not_eq_true',decide_eq_false_iff_not]at this;obtain⟨⟨⟨⟨⟨J,L⟩,O⟩,P⟩,E⟩,T⟩:=this;refine⟨⟨by rw[J];simp[l],UG.mp L,O,P⟩,λq=>?_,?_⟩
  ·rw[Zv]at E
   exact E _ q (wX rfl)
  ext
 ·have Q:∀k,(Is scope X.env).names.lookup x=some k->(k=.cell∨k=.free)->(x,FL)∈scope.names∨(x,DB)∈scope.names:=λk e R=>by
   have:=A _ (DU e)
   rcases R with rfl | rfl
   ·simpa using this
   ·simpa using this
  grind
structure Dfn(K:AB)(mg:Str->Option AD)(x qual:Str)(st:B6)(ps:List Str) where
 f:AL
 fd:D1
 F:Fun K x qual st f fd
 b:Binds K fd ps []
 m:mg x=some (.ref f)
theorem Dfn.kp{K}{m}{x l}{st}{o}(d:Dfn K m x l st o):F5 K (.ref d.f)=true:=d.F.kp
structure Mtd(K:AB)(x qual:Str)(st:B6)(ps:List Str) where
 f:AL
 fd:D1
 F:Fun K x qual st f fd
 b:Binds K fd ps []
structure Own(K:AB)(mg:Str->Option AD)(x:Str)(C f:AL):Prop where
 cl:Cls K C
 mk':Mk K C f
 m:mg x=some (.ref C)
abbrev wN:Nat:=1000000
end L2
namespace Srt
structure Ord(U:BA->Prop)(lt:BA->BA->Bool):Prop where
 asym:∀x y,U x->U y->lt x y=true->lt y x=false
 ntr:∀x y z,U x->U y->U z->lt y x=false->lt z y=false->lt z x=false
theorem Ord.irr(o:Ord U lt)(h:U x):lt x x=false:=by
 cases e:lt x x with
 | false=>rfl
 | true=>exact(o.asym x x h h e).symm.trans e |>.symm▸rfl
noncomputable def ix(xs:Array BA)(i:Nat):BA:=xs.getD i (.none,.none)
theorem JJ(h:xs[i]?=l[j]?):ix xs i=ix l j:=by
 unfold ix;ext
theorem Dw(h:i < xs.size):xs[i]?=some (ix xs i):=by
 unfold ix;ext
set_option tactic.hygienic true in
theorem Y5(hs:l < xs.size)(o:d<=l)(k:Nat) :
  ix (bubble xs l d) k=if k=l - d then ix xs l else if l - d < k/\k<=l then ix xs (k - 1)else ix xs k:=by
 have e:=getElem?_bubble hs d o k;split
 ·rename_i h;rw[qX h]at e;exact JJ e
 ·rename_i h
  rw[qY h]at e;split
  ·rename_i m;rw[qX m]at e;exact JJ e
  ·rename_i m;rw[qY m]at e;exact JJ e
set_option tactic.hygienic true in
theorem EF(l:j<=xs.size)(k:Nat) :
  ix (PP xs i j ((j - i) / 2)) k=if i<=k/\k < j then ix xs (i+j - 1 - k)else ix xs k:=by
 have e:=getElem?_mirror_all (i:=i) l k;split
 ·rename_i h;rw[qX h]at e;exact JJ e
 ·rename_i h;rw[qY h]at e;exact JJ e
section
def Jx(prog:Al)(w:A1)(A:BP)(s:AK)(l:Array BA)(m:NJ)(lt:BA->BA->Bool):Prop:=
 ∀x y,x∈l->y∈l->∀(Q:Bool->AK->Prop) (E:AD->AK->Prop),Q (lt x y) s->AZ (AY prog w) A (keyLt' m x.1 y.1) Q E s
structure Good(a₀:Array BA)(κ:NJ)(st:A3):Prop where
 perm:(Ad st).Perm a₀
 kind:kindOf st=κ
 failed:IC st=none
theorem Good.size{st:A3}(g:Good l m st):(Ad st).size=l.size:=g.perm.size_eq
theorem Good.mem{st:A3}(g:Good a₀ m st){i:Nat}(h:i < a₀.size):ix (Ad st) i∈a₀:=by
 have l:i < (Ad st).size:=by rw[g.size];exact h
 have e:=Dw l;have:=Ce e;exact BB.mp ((E6.mp g.perm).mem_iff.mp (BB.mpr this))
theorem Good.setArr{st:A3}(g:Good l m st){xs:Array BA}(o:xs.Perm (Ad st)):Good l m (setArr st xs):=⟨o.trans g.perm,g.kind,g.failed⟩
theorem PV{st:A3}{x y:BA}{Q:Option Bool->A3->Prop}(C:Jx prog w A s l m lt)(g:Good l m st)(o:x∈l)(B:y∈l)(h:Q (some (lt x y)) st):wpS (AY prog w) A E s (lt' x y) Q st:=by
 rw[lt'_eq];refine Af (HB ?_);rw[g.kind];refine Af (wpS_lift (FD ?_));refine C x y o B _ _ ⟨rfl,?_⟩;exact Ag h
theorem NS{st:A3}{i j:Nat}{Q:Option Bool->A3->Prop}(C:Jx prog w A s l o lt)(g:Good l o st)(hi:i < l.size)(m:j < l.size)(h:Q (some (lt (ix (Ad st) i) (ix (Ad st) j))) st) :
  wpS (AY prog w) A E s (nW i j) Q st:=by
 rw[ltAt'_eq];refine Af (HB ?_);show wpS _ _ _ _ (do let x <-elem' (Ad st) i;let y <-elem' (Ad st) j;lt' x y) Q st;rw[dr,dr,Dw (by rw[g.size];exact hi),Dw (by rw[g.size];exact m)];exact Af (Ag (Af (Ag (PV C g (g.mem hi) (g.mem m) h))))
def Up(lt:BA->BA->Bool)(xs:Array BA)(lo hi:Nat):Prop:=∀i j,lo<=i->i<=j->j < hi->lt (ix xs j) (ix xs i)=false
def Dn(lt:BA->BA->Bool)(xs:Array BA)(lo hi:Nat):Prop:=∀i j,lo<=i->i<=j->j < hi->lt (ix xs i) (ix xs j)=false
def Out(xs l:Array BA)(lo hi:Nat):Prop:=∀i,(i < lo∨hi<=i)->ix l i=ix xs i
theorem Out.refl{xs:Array BA}{lo hi:Nat}:Out xs xs lo hi:=λG G=>rfl
theorem Out.trans{xs l m:Array BA}{lo hi:Nat}(a:Out xs l lo hi)(b:Out l m lo hi):Out xs m lo hi:=λi h=>(b i h).trans (a i h)
theorem Up.out{xs m:Array BA}{lo hi l h:Nat}(u:Up lt xs l h)(o:Out xs m lo hi)(d:h<=lo∨hi<=l):Up lt m l h:=λi j w A B=>by
 rw[o i ∅,o j ∅];exact u i j w A B
theorem Up.grow{st:A3}(O:Ord (·∈l) lt)(g:Good l B st){lo hi:Nat}(hs:hi < l.size)(u:Up lt (Ad st) lo hi)(C:lo < hi)(h:lt (ix (Ad st) hi) (ix (Ad st) (hi - 1))=false):Up lt (Ad st) lo (hi+1):=λi j m o E=>by
 by_cases w:j < hi
 ·exact u i j m o w
 ·have:j=hi:=by lia
  subst this
  by_cases A:i=j
  ·subst A;exact O.irr (g.mem hs)
  ·exact O.ntr _ _ _ (g.mem ∅) (g.mem ∅) (g.mem hs) (u i (j - 1) m ∅ ∅) h
theorem wpS_binarySort{st:A3}{lo n ok:Nat}{Q:Bool->A3->Prop}(C:Jx prog w A s o T lt)(O:Ord (·∈o) lt)(hn:lo+n<=o.size)(hok:ok<=n)(g:Good o T st)(u:Up lt (Ad st) lo (lo+ok))
  (h:∀m,Good o T m->Up lt (Ad m) lo (lo+n)->Out (Ad st) (Ad m) lo (lo+n)->Ae m=Ae st->Q true m):wpS (AY prog w) A E s (binarySort' lo n ok) Q st:=by
 rw[binarySort'_eq]
 refine Af (GP (DR (I:=λk c m=>c=(none,())/\Good o T m/\Up lt (Ad m) lo (lo+min k n)/\Out (Ad st) (Ad m) lo (lo+n)/\Ae m=Ae st)
  (Q:=λc m=>c=(none,())/\Good o T m/\Up lt (Ad m) lo (lo+n)/\Out (Ad st) (Ad m) lo (lo+n)/\Ae m=Ae st) ?step ?fin ?init) ?post)
 case post=>
  rintro c m ⟨rfl,Y,Z,o',p'⟩;exact Ag (h m Y Z o' p')
 case init=>
  refine⟨rfl,g,λi j S U h3=>?_,.refl,rfl⟩
  by_cases h0:ok=0
  ·have:i=j:=by lia
   subst this;exact O.irr (g.mem ∅)
  ·exact u i j S U ∅
 case fin=>
  rintro c m ⟨hc,Y,Z,o',p'⟩;refine⟨hc,Y,?_,o',p'⟩;rwa [show min (max (max ok 1) n) n=n by lia]at Z
 case step=>
  rintro k c H hak hkn ⟨rfl,G,X,o1,p1⟩;rw[show min k n=k by lia]at X
  have N:lo+k < o.size:=by lia
  refine Af (GP (DR (I:=λx c B=>B=H/\∃l r,c=(none,l,r)/\l<=r/\r<=k/\r - l<=k - x /\
    (∀i,i < l->lt (ix (Ad H) (lo+k)) (ix (Ad H) (lo+i))=false)/\(∀i,r<=i->i < k->lt (ix (Ad H) (lo+k)) (ix (Ad H) (lo+i))=true))
   (Q:=λc B=>B=H/\∃l r,c=(none,l,r)/\l<=k /\
    (∀i,i < l->lt (ix (Ad H) (lo+k)) (ix (Ad H) (lo+i))=false)/\(∀i,l<=i->i < k->lt (ix (Ad H) (lo+k)) (ix (Ad H) (lo+i))=true)) ?istep ?ifin ?iinit) ?ipost)
  case iinit=>exact⟨rfl,0,k,rfl,by ext,by ext,by ext,λi hi=>by ext,λi S U=>by lia⟩
  case ifin=>
   rintro c B ⟨rfl,l,r,rfl,hlr,J,hm,P,R⟩
   have:l=r:=by grind
   subst this;exact⟨rfl,l,l,rfl,J,P,R⟩
  case istep=>
   rintro x c B _ hxk ⟨rfl,l,r,rfl,hlr,J,hm,P,R⟩
   by_cases sX:l ≥ r
   ·rw[qX sX]
    have:l=r:=by lia
    subst this;exact Ag ⟨rfl,l,l,rfl,J,P,R⟩
   ·rw[qY sX]
    refine Af (NS C G N ∅ ?_)
    cases L:lt (ix (Ad B) (lo+k)) (ix (Ad B) (lo+(l+r) / 2))with
    | true=>
     refine Ag ⟨rfl,l,(l+r) / 2,rfl,by lia,by lia,by grind,P,λi S U=>?_⟩
     cases e:lt (ix (Ad B) (lo+k)) (ix (Ad B) (lo+i))with
     | true=>rfl
     | false=>
      have:=O.ntr _ _ _ (G.mem ∅) (G.mem ∅) (G.mem N) (X (lo+(l+r) / 2) (lo+i) (by ext) (by ext) (by ext)) e
      ext
    | false=>
     refine Ag ⟨rfl,(l+r) / 2+1,r,rfl,by lia,by omega,by grind,λi S=>?_,R⟩;exact O.ntr _ _ _ (G.mem ∅) (G.mem ∅) (G.mem N) (X (lo+i) (lo+(l+r) / 2) (by ext) ∅ ∅) L
  case ipost=>
   rintro c B ⟨rfl,l,r,rfl,ϯ,P,R⟩;show wpS _ _ _ _ (do moveDown' (lo+k) (lo+l);pure (G1 (none,()))) _ _;rw[moveDown'_eq]
   have hks:lo+k < (Ad B).size:=by rw[G.size];exact N
   have e:∀i,ix (bubble (Ad B) (lo+k) (lo+k - (lo+l))) i=if i=lo+l then ix (Ad B) (lo+k)else if lo+l < i/\i<=lo+k then ix (Ad B) (i - 1)else ix (Ad B) i:=λi=>by
    rw[Y5 hks (by ext),show lo+k - (lo+k - (lo+l))=lo+l by lia]
   refine Af (De (Ag ⟨rfl,G.setArr (bubble_perm _ _ _),?_,o1.trans λi hi=>?_,p1⟩))
   ·rw[show min (k+1) n=k+1 by lia]
    intro i j S U h3;rw[e,e]
    repeat' split
    all_goals first
     | (exfalso;grind)
     | exact O.irr (G.mem N)
     | (have q:=P (i - lo) ∅;rw[show lo+(i - lo)=i by ext]at q;exact q)
     | (have q:=R (j - 1 - lo) (by grind) (by grind);rw[show lo+(j - 1 - lo)=j - 1 by lia]at q;exact O.asym _ _ (G.mem N) (G.mem (by grind)) q)
     | exact X _ _ ∅ (by grind) ∅
   ·rw[e,qY ∅,qY ∅]
end
section
theorem JB{l:Type}{M:Vq}{r:String}{Q:PUnit->l->Prop}{st:l}(h:Q ⟨⟩ st):wpS M A E s (liftM (rule r):StateT l Sem PUnit) Q st:=wpS_lift (JO ⟨rfl,h⟩)
theorem Dn.flip{xs:Array BA}{lo hi:Nat}(hs:hi<=xs.size)(d:Dn lt xs lo hi):Up lt (PP xs lo hi ((hi - lo) / 2)) lo hi:=λi j l m o=>by
 rw[EF hs,EF hs,qX ∅,qX ∅];exact d _ _ ∅ (by omega) ∅
theorem Dn.part{xs:Array BA}{lo hi m:Nat}(hs:hi<=xs.size)(o:lo<=m)(l:m<=hi)(d:Dn lt xs lo hi)(e:Up lt xs m hi):Dn lt (PP xs m hi ((hi - m) / 2)) lo hi:=λi j w A B=>by
 rw[EF hs,EF hs]
 by_cases C:m<=i
 ·rw[qX ∅,qX ∅]
  exact e _ _ ∅ ∅ ∅
 ·rw[qY ∅]
  split
  ·exact d _ _ (by ext) ∅ ∅
  ·exact d _ _ ∅ ∅ (by ext)
theorem Jd{xs:Array BA}{i j lo hi:Nat}(l:j<=xs.size)(m:lo<=i)(o:j<=hi):Out xs (PP xs i j ((j - i) / 2)) lo hi:=λk w=>by
 rw[EF l,qY ∅]
theorem Dn.grow{st:A3}(O:Ord (·∈l) lt)(g:Good l B st){lo hi:Nat}(hs:hi < l.size)(u:Dn lt (Ad st) lo hi)(C:lo < hi)(h:lt (ix (Ad st) (hi - 1)) (ix (Ad st) hi)=false):Dn lt (Ad st) lo (hi+1):=λi j m o E=>by
 by_cases w:j < hi
 ·exact u i j m o w
 ·have:j=hi:=by lia
  subst this
  by_cases A:i=j
  ·subst A;exact O.irr (g.mem hs)
  ·exact O.ntr _ _ _ (g.mem hs) (g.mem ∅) (g.mem ∅) h (u i (j - 1) m ∅ ∅)
theorem V4(O:Ord (·∈l) lt){st:A3}(g:Good l w st){lo:Nat}(h:lo < l.size):Up lt (Ad st) lo (lo+1):=λi j A B C=>by
 have m:i=lo:=by lia
 have o:j=lo:=by lia
 rw[m,o];exact O.irr (g.mem h)
theorem eu{st:A3}{lo my n:Nat}{Q:Option Nat->A3->Prop}(C:Jx prog w A s m B lt)(O:Ord (·∈m) lt)(L:1<=n)(N:n<=my)(P:lo+my<=m.size)(g:Good m B st)(u:Up lt (Ad st) lo (lo+n))
  (h:∀n,1<=n->n<=my->Up lt (Ad st) lo (lo+n)->Q (some n) st):wpS (AY prog w) A E s (do
   let mut n:=n
   for _ in [n:my] do
    let some G <-nW (lo+n) (lo+n - 1) | return none
    if G then break
    n:=n+1
   return some n) Q st:=by
 refine Af (GP (DR (I:=λx c l=>l=st/\c=(none,x)/\Up lt (Ad st) lo (lo+x))
  (Q:=λc l=>l=st/\∃n,c=(none,n)/\1<=n/\n<=my/\Up lt (Ad st) lo (lo+n)) ?step ?fin ⟨rfl,rfl,u⟩) ?post)
 case fin=>
  rintro c l ⟨rfl,rfl,u⟩
  have e:max n my=my:=by ext
  rw[e]at u ⊢;exact⟨rfl,my,rfl,by lia,AN _,u⟩
 case step=>
  rintro x c l R S ⟨rfl,rfl,u⟩;refine Af (NS C g ∅ ∅ ?_)
  cases H:lt (ix (Ad l) (lo+x)) (ix (Ad l) (lo+x - 1))with
  | true=>exact Ag ⟨rfl,x,rfl,by lia,by lia,u⟩
  | false=>exact Ag ⟨rfl,rfl,Up.grow O g ∅ u ∅ H⟩
 case post=>
  rintro c l ⟨rfl,n,rfl,o,J,u⟩;exact Ag (h n o J u)
theorem wpS_countRun{st}{lo my}{Q}(C:Jx prog w A s o L lt)(O:Ord (·∈o) lt)(h1:1<=my)(hn:lo+my<=o.size)(g:Good o L st)
  (h:∀l n,Good o L l->1<=n->n<=my->Up lt (Ad l) lo (lo+n)->Out (Ad st) (Ad l) lo (lo+my)->Ae l=Ae st->Q (some n) l):wpS (AY prog w) A E s (countRun' lo my) Q st:=by
 rw[countRun'_eq]
 refine Af (GP (DR (I:=λx c l=>l=st/\c=(none,x)/\Up lt (Ad st) lo (lo+x))
  (Q:=λc l=>l=st/\∃n,c=(none,n)/\1<=n/\n<=my/\Up lt (Ad st) lo (lo+n)/\(n=my∨lt (ix (Ad st) (lo+n)) (ix (Ad st) (lo+n - 1))=true)) ?step ?fin ?init) ?post)
 case init=>
  refine⟨rfl,rfl,λi j a1 a2 a3=>?_⟩
  have:i=j:=by lia
  subst this;exact O.irr (g.mem ∅)
 case fin=>
  ext
 case step=>
  rintro x c l yD yE ⟨rfl,rfl,u⟩;refine Af (NS C g ∅ ∅ ?_)
  cases S:lt (ix (Ad l) (lo+x)) (ix (Ad l) (lo+x - 1))with
  | true=>exact Ag ⟨rfl,x,rfl,yD,by lia,u,.inr S⟩
  | false=>exact Ag ⟨rfl,rfl,Up.grow O g ∅ u ∅ S⟩
 case post=>
  rintro c l ⟨rfl,n,rfl,Y,ve,u,hd⟩;symm
  by_cases Z:n=my
  ·rw[qX (by ext)]
   exact Ag (h l n g Y ve u .refl rfl)
  ·rw[qY (by simpa using Z)]
   have hd':=hd.resolve_left Z
   have T:∀(sg:A3),Good o L sg->Dn lt (Ad sg) lo (lo+(n+1))->Out (Ad l) (Ad sg) lo (lo+my)->Ae sg=Ae l ->
     wpS (AY prog w) A E s (do
      liftM (rule "list.sort.descending-run")
      let mut n:=n+1
      let mut neq:=0
      for _ in [n:my] do
       let some sj <-nW (lo+n) (lo+n - 1) | return none
       if sj then
        if neq > 0 then Oj (lo+n - (neq+1)) (lo+n)
        neq:=0
       else
        let some vT <-nW (lo+n - 1) (lo+n) | return none
        if vT then break
        neq:=neq+1
       n:=n+1
      if neq > 0 then Oj (lo+n - (neq+1)) (lo+n)
      Oj lo (lo+n)
      for _ in [n:my] do
       let some sj <-nW (lo+n) (lo+n - 1) | return none
       if sj then break
       n:=n+1
      return some n) Q sg:=by
    intro sg g1 d1 o1 p1;refine Af (JB ?_)
    refine Af (GP (DR (I:=λx c G=>Good o L G/\∃q,c=(none,x,q)/\q+1<=x/\Dn lt (Ad G) lo (lo+x)/\Up lt (Ad G) (lo+x - (q+1)) (lo+x)/\Out (Ad l) (Ad G) lo (lo+my)/\Ae G=Ae l)
     (Q:=λc G=>Good o L G/\∃n q,c=(none,n,q)/\n<=my/\q+1<=n/\Dn lt (Ad G) lo (lo+n)/\Up lt (Ad G) (lo+n - (q+1)) (lo+n)/\Out (Ad l) (Ad G) lo (lo+my)/\Ae G=Ae l) ?dstep ?dfin ?dinit) ?dpost)
    case dinit=>
     refine⟨g1,0,rfl,by ext,d1,?_,o1,p1⟩;have:=V4 O g1 (lo:=lo+n) ∅
     assumption
    case dfin=>
     rintro c G ⟨H,q,rfl,S,d2,U,N,P⟩
     have e:max (n+1) my=my:=by lia
     rw[e]at d2 U S ⊢;exact⟨H,my,q,rfl,AN _,S,d2,U,N,P⟩
    case dstep=>
     rintro x c G yD yE ⟨H,q,rfl,S,d2,U,N,P⟩;refine Af (NS C H ∅ ∅ ?_)
     cases hs:lt (ix (Ad G) (lo+x)) (ix (Ad G) (lo+x - 1))with
     | true=>
      symm;rw[qX rfl];have rk:=O.asym _ _ (H.mem ∅) (H.mem ∅) hs
      by_cases J:q > 0
      ·rw[qX J,LS]
       have B:lo+x<=(Ad G).size:=by rw[H.size];lia
       have X:Good o L (setArr G (PP (Ad G) (lo+x - (q+1)) (lo+x) ((lo+x - (lo+x - (q+1))) / 2))):=H.setArr (Tv _ _ _ _);have d3:=Dn.part B ∅ (by ext) d2 U;refine Af (De (Ag ⟨X,0,rfl,by lia,?_,?_,N.trans (Jd B ∅ ∅),P⟩))
       ·refine Dn.grow O X ∅ d3 ∅ ?_
        show lt (ix (PP (Ad G) (lo+x - (q+1)) (lo+x) ((lo+x - (lo+x - (q+1))) / 2)) (lo+x - 1)) (ix (PP (Ad G) (lo+x - (q+1)) (lo+x) ((lo+x - (lo+x - (q+1))) / 2)) (lo+x))=false;rw[EF B,EF B,qX ∅,qY (by ext)];exact O.ntr _ _ _ (H.mem ∅) (H.mem ∅) (H.mem ∅) rk (d2 _ _ ∅ (by omega) ∅)
       ·have:=V4 O X (lo:=lo+x) ∅
        assumption
      ·rw[qY J]
       refine Ag ⟨H,0,rfl,by lia,Dn.grow O H ∅ d2 ∅ rk,?_,N,P⟩;have:=V4 O H (lo:=lo+x) ∅
       assumption
     | false=>
      symm;rw[qY Av];refine Af (NS C H ∅ ∅ ?_)
      cases hl:lt (ix (Ad G) (lo+x - 1)) (ix (Ad G) (lo+x))with
      | true=>exact Ag ⟨H,x,q,rfl,by lia,S,d2,U,N,P⟩
      | false=>
       refine Ag ⟨H,q+1,rfl,by ext,Dn.grow O H ∅ d2 ∅ hl,?_,N,P⟩;rw[show lo+(x+1) - (q+1+1)=lo+x - (q+1) by lia];exact Up.grow (hi:=lo+x) O H ∅ U (by omega) hs
    case dpost=>
     rintro c G ⟨H,m,q,rfl,hm,S,d2,U,N,P⟩;symm
     have B:lo+m<=(Ad G).size:=by rw[H.size];lia
     have last:∀tR,Good o L tR->Dn lt (Ad tR) lo (lo+m)->Out (Ad l) (Ad tR) lo (lo+my)->Ae tR=Ae l->∀(R:StateT A3 Sem (Option Nat)),R=(do
        let mut n:=m
        for _ in [n:my] do
         let some sj <-nW (lo+n) (lo+n - 1) | return none
         if sj then break
         n:=n+1
        return some n)->wpS (AY prog w) A E s (do Oj lo (lo+m);R) Q tR:=by
      rintro tR X d3 o3 p3 R rfl
      have xG:lo+m<=(Ad tR).size:=by rw[X.size];lia
      rw[LS];refine Af (De ?_);have g4:Good o L (setArr tR (PP (Ad tR) lo (lo+m) ((lo+m - lo) / 2))):=X.setArr (Tv _ _ _ _)
      exact eu C O ∅ hm hn g4 (Dn.flip xG d3) λk k1 k2 k3=>h _ k g4 k1 k2 k3 (o3.trans (Jd xG (by ext) (by ext))) p3
     by_cases J:q > 0
     ·rw[qX J,LS]
      refine Af (De ?_);exact last _ (H.setArr (Tv _ _ _ _)) (Dn.part B ∅ (by ext) d2 U) (N.trans (Jd B ∅ ∅)) P _ rfl
     ·rw[qY J]
      exact last _ H d2 N P _ rfl
   have rk:=O.asym _ _ (g.mem ∅) (g.mem (by grind)) hd'
   by_cases zz:n > 1
   ·rw[qX zz]
    refine Af (NS C g ∅ ∅ ?_)
    cases hr:lt (ix (Ad l) lo) (ix (Ad l) (lo+n - 1))with
    | true=>exact Ag (h l n g Y ve u .refl rfl)
    | false=>
     symm;rw[qY Av,LS]
     have B:lo+n<=(Ad l).size:=by rw[g.size];lia
     have g1:Good o L (setArr l (PP (Ad l) lo (lo+n) ((lo+n - lo) / 2))):=g.setArr (Tv _ _ _ _)
     have al:∀i j,lo<=i->i < lo+n->lo<=j->j < lo+n->lt (ix (Ad l) i) (ix (Ad l) j)=false:=λi j i1 i2 j1 j2=>by
      have q1:=u j (lo+n - 1) (by ext) (by grind) ∅;have q2:=u lo i ∅ ∅ (by ext);exact O.ntr _ _ _ (g.mem ∅) (g.mem ∅) (g.mem ∅) (O.ntr _ _ _ (g.mem ∅) (g.mem ∅) (g.mem ∅) q1 hr) q2
     refine Af (De ?_);refine T _ g1 ?_ (Jd B ∅ (by grind)) rfl;refine Dn.grow (hi:=lo+n) O g1 ∅ (λi j a1 a2 a3=>?_) ∅ ?_
     ·rw[EF B,EF B,qX ∅,qX ∅]
      exact al _ _ ∅ ∅ ∅ ∅
     ·rw[EF B,EF B,qX ∅,qY (by ext),show lo+(lo+n) - 1 - (lo+n - 1)=lo by grind]
      exact O.ntr _ _ _ (g.mem ∅) (g.mem ∅) (g.mem ∅) rk hr
   ·rw[qY zz]
    have e:n=1:=by lia
    subst e;refine T _ g (Dn.grow O g ∅ (λi j a1 a2 a3=>?_) (by ext) rk) .refl rfl
    have e1:i=lo:=by lia
    have e2:j=lo:=by lia
    rw[e1,e2];exact O.irr (g.mem ∅)
end
noncomputable def qg:Bool->BA->Array BA->Nat->Nat->Nat->StateT A3 Sem (Option Nat):=sortPriv% PySem.Builtin.gallop
section
abbrev BS:=Option (Option Nat)×Nat×Nat
theorem ik{st:A3}{p:Nat->Bool}{n lo hi:Nat}{F:Nat->BS->StateT A3 Sem (ForInStep BS)}{T:BS->StateT A3 Sem (Option Nat)}{Q:Option Nat->A3->Prop}(H:lo<=hi)(J:hi<=n)
  (N:∀i,i < lo->p i=true) (O:∀i,hi<=i->i < n->p i=false) (mono:∀i j,i<=j->j < n->p j=true->p i=true)
  (P:∀x l h (R:ForInStep BS->A3->Prop),l<=h->h<=n->(l ≥ h->R (.done (none,l,h)) st)->(l < h->p (l+(h - l) / 2)=true->R (.yield (none,l+(h - l) / 2+1,h)) st)->(l < h->p (l+(h - l) / 2)=false->R (.yield (none,l,l+(h - l) / 2)) st) ->
   wpS (AY prog w) A E s (F x (none,l,h)) R st)
  (Z:∀l h,h<=n->(∀i,i < h->p i=true)->(∀i,h<=i->i < n->p i=false)->wpS (AY prog w) A E s (T (none,l,h)) Q st):wpS (AY prog w) A E s (forIn [0:n] (none,lo,hi) F >>= T) Q st:=by
 refine Af (GP (DR (I:=λx c m=>m=st/\∃l h,c=(none,l,h)/\l<=h/\h<=n/\h - l<=n - x/\(∀i,i < l->p i=true)/\(∀i,h<=i->i < n->p i=false))
  (Q:=λc m=>m=st/\∃l h,c=(none,l,h)/\h<=n/\(∀i,i < h->p i=true)/\(∀i,h<=i->i < n->p i=false)) ?step ?fin ⟨rfl,lo,hi,rfl,H,J,by grind,N,O⟩) ?post)
 case fin=>
  rintro c m ⟨rfl,l,h,rfl,L,o,S,B,C⟩
  have:l=h:=by grind
  subst this;exact⟨rfl,l,l,rfl,o,B,C⟩
 case step=>
  rintro x c m _ hx ⟨rfl,l,h,rfl,L,o,S,B,C⟩
  refine P x l h _ L o (λsX=>?_) (λU G=>?_) λU G=>?_
  ·have:l=h:=by lia
   subst this;exact⟨rfl,l,l,rfl,o,B,C⟩
  ·exact⟨rfl,_,_,rfl,by grind,o,by grind,λi hi=>mono i (l+(h - l) / 2) ∅ (by grind) G,C⟩
  ·refine⟨rfl,_,_,rfl,by ext,by grind,by grind,B,λi X Y=>?_⟩
   cases e:p i with
   | false=>rfl
   | true=>rw[mono _ i X Y e]at G;cases G
 ext
theorem Xz{st:A3}{q:Nat->Bool}{n mx:Nat}{F:Nat->BS->StateT A3 Sem (ForInStep BS)}{T:BS->StateT A3 Sem (Option Nat)}{Q:Option Nat->A3->Prop}(N:mx<=n)(H:q 0=true)
  (J:∀x a b (R:ForInStep BS->A3->Prop),a < b->(b ≥ mx->R (.done (none,a,b)) st)->(b < mx->q b=false->R (.done (none,a,b)) st)->(b < mx->q b=true->R (.yield (none,b,2 * b+1)) st)->wpS (AY prog w) A E s (F x (none,a,b)) R st)
  (O:∀a b,a < b->q a=true->(a=0∨a < mx)->(b < mx->q b=false)->wpS (AY prog w) A E s (T (none,a,b)) Q st):wpS (AY prog w) A E s (forIn [0:n] (none,0,1) F >>= T) Q st:=by
 refine Af (GP (DR (I:=λx c l=>l=st/\∃a b,c=(none,a,b)/\a < b/\x+1<=b/\q a=true/\(a=0∨a < mx))
  (Q:=λc l=>l=st/\∃a b,c=(none,a,b)/\a < b/\q a=true/\(a=0∨a < mx)/\(b < mx->q b=false)) ?step ?fin ⟨rfl,0,1,rfl,by ext,by decide,H,.inl rfl⟩) ?post)
 case fin=>
  rintro c l ⟨rfl,a,b,rfl,m,L,o,B⟩;exact⟨rfl,a,b,rfl,m,o,B,λh=>by lia⟩
 case step=>
  rintro x c l _ P ⟨rfl,a,b,rfl,m,L,o,B⟩
  refine J x a b _ m (λS=>?_) (λG C=>?_) λG C=>?_
  ·exact⟨rfl,a,b,rfl,m,o,B,λh=>by lia⟩
  ·exact⟨rfl,a,b,rfl,m,o,B,λM=>C⟩
  ·exact⟨rfl,b,2 * b+1,rfl,by lia,by lia,C,.inr G⟩
 ext
theorem Gg{st:A3}{left:Bool}{key:BA}{arr:Array BA}{base n hint:Nat}{Q:Option Nat->A3->Prop}(C:Jx prog w A s B κ lt)(g:Good B κ st)(p:Nat->Bool)
  (Z:key∈B) (zG:∀i,i < n->base+i < arr.size/\ix arr (base+i)∈B) (hp:∀i,i < n->p i=if left=true then lt (ix arr (base+i)) key else !lt key (ix arr (base+i)))
  (mono:∀i j,i<=j->j < n->p j=true->p i=true) (hh:hint < n)
  (h:∀k,k<=n->(∀i,i < k->p i=true)->(∀i,k<=i->i < n->p i=false)->Q (some k) st):wpS (AY prog w) A E s (qg left key arr base n hint) Q st:=by
 have P:∀i,i < n->∀R:Option Bool->A3->Prop,R (some (p i)) st->wpS (AY prog w) A E s (do let x <-elem' arr (base+i);if left=true then lt' x key else do let y <-lt' key x;pure (y.map (!·))) R st:=by
  intro i G R X;obtain⟨S,O⟩:=zG i G;rw[dr,Dw S];refine Af (Ag ?_);rw[hp i G]at X
  cases left with
  | true=>exact PV C g O Z X
  | false=>exact Af (PV C g Z O (Ag X))
 refine(Af ?_:wpS _ _ _ _ (qg left key arr base n hint) Q st);refine P hint hh _ ?_
 have fin:∀(lo G:Nat) {F:Nat->BS->StateT A3 Sem (ForInStep BS)} {T:BS->StateT A3 Sem (Option Nat)},lo<=G->G<=n->(∀i,i < lo->p i=true)->(∀i,G<=i->i < n->p i=false) ->
   (∀x l m (R:ForInStep BS->A3->Prop),l<=m->m<=n->(l ≥ m->R (.done (none,l,m)) st)->(l < m->p (l+(m - l) / 2)=true->R (.yield (none,l+(m - l) / 2+1,m)) st)->(l < m->p (l+(m - l) / 2)=false->R (.yield (none,l,l+(m - l) / 2)) st) ->
    wpS (AY prog w) A E s (F x (none,l,m)) R st)->(∀l m,T (none,l,m)=pure (some m))->wpS (AY prog w) A E s (forIn [0:n] (none,lo,G) F >>= T) Q st:=λlo G F T S O h3 h4 hF hT=>
  ik S O h3 h4 mono hF λl m q1 q2 q3=>by rw[hT];exact Ag (h m q1 q2 q3)
 cases hq:p hint with
 | true=>
  symm;rw[qX rfl]
  refine Xz (q:=λi=>decide (hint+i < n)&&p (hint+i)) (mx:=n - hint) (by ext) (by simp[hq,hh]) (λx a b R Y I J L=>?_) λa b Y H ha hb=>?_
  ·by_cases o:b ≥ n - hint
   ·rw[qX o];exact Ag (I o)
   ·rw[qY o]
    refine Af (P (hint+b) (by grind) _ ?_);have N:decide (hint+b < n)=true:=wX ∅
    cases e:p (hint+b)with
    | true=>exact Ag (L ∅ (by simp[N,e]))
    | false=>exact Ag (J ∅ (by simp[N,e]))
  ·have pa:p (hint+a)=true:=by simp at H;exact H.2
   have ϰ:hint+a < n:=by simp at H;exact H.1
   refine fin (hint+a+1) (hint+min b (n - hint)) (by omega) (by omega) (λi G=>mono i (hint+a) ∅ ϰ pa) (λi S O=>?_) (λx l m R l1 l2 I J L=>?_) λl m=>rfl
   ·by_cases U:b < n - hint
    ·grind
    ·grind
   ·by_cases o:l ≥ m
    ·rw[qX o];exact Ag (I o)
    ·rw[qY o]
     refine Af (P (l+(m - l) / 2) (by grind) _ ?_)
     cases e:p (l+(m - l) / 2)with
     | true=>exact Ag (J (by ext) e)
     | false=>exact Ag (L ∅ e)
 | false=>
  symm;rw[qY Av]
  refine Xz (q:=λi=>decide (i<=hint)&&!p (hint - i)) (mx:=hint+1) (by trivial) (by simp[hq]) (λx a b R Y I J L=>?_) λa b Y H ha hb=>?_
  ·by_cases o:b ≥ hint+1
   ·rw[qX o];exact Ag (I o)
   ·rw[qY o]
    refine Af (P (hint - b) (by grind) _ ?_);have N:decide (b<=hint)=true:=wX ∅
    cases e:p (hint - b)with
    | true=>exact Ag (J (by ext) (by simp[N,e]))
    | false=>exact Ag (L ∅ (by simp[N,e]))
  ·have pa:p (hint - a)=false:=by simp at H;exact H.2
   have ϰ:a<=hint:=by simp at H;exact H.1
   refine fin (hint+1 - min b (hint+1)) (hint - a) (by omega) (by grind) (λi G=>?_) (λi S O=>?_) (λx l m R l1 l2 I J L=>?_) λl m=>rfl
   ·by_cases U:b < hint+1
    ·have:=hb U
     have N:decide (b<=hint)=true:=wX ∅;rw[N,Bool.true_and]at this;exact mono i (hint - b) (by grind) (by grind) (by simpa using this)
    ·ext
   ·grind
   ·by_cases o:l ≥ m
    ·rw[qX o];exact Ag (I o)
    ·rw[qY o]
     refine Af (P (l+(m - l) / 2) ∅ _ ?_)
     cases e:p (l+(m - l) / 2)with
     | true=>exact Ag (J ∅ e)
     | false=>exact Ag (L ∅ e)
end
structure MI(R:BA->BA->Prop)(T o ra rb:List BA):Prop where
 perm:(o++(ra++rb)).Perm T
 srt:o.Pairwise R
 low:∀x∈o,∀y∈ra++rb,R x y
 sa:ra.Pairwise R
 sb:rb.Pairwise R
structure J5(R:BA->BA->Prop)(T r:List BA):Prop where
 perm:r.Perm T
 srt:r.Pairwise R
section
theorem MI.takeA(m:MI R T o (xs++B) rb)(h:∀x∈xs,∀y∈rb,R x y):MI R T (o++xs) B rb:=by
 have A:=BC.mp m.sa;refine⟨by simpa[Bf]using m.perm,BC.mpr ⟨m.srt,A.1,λx l y w=>m.low x l y (by simp[w])⟩,λx l y w=>?_,A.2.1,m.sb⟩
 rcases Ak.mp l with l | l
 ·exact m.low x l y (by rcases Ak.mp w with h | h <;> simp[h])
 grind
theorem MI.takeB(m:MI R T o A (xs++rb))(h:∀x∈xs,∀y∈A,R x y):MI R T (o++xs) A rb:=by
 have B:=BC.mp m.sb;refine⟨?_,BC.mpr ⟨m.srt,B.1,λx l y w=>m.low x l y (by simp[w])⟩,λx l y w=>?_,m.sa,B.2.1⟩
 ·refine EN.trans ?_ m.perm
  rw[Bf];refine GO o ?_;rw[<-Bf,<-Bf];exact Q8 rb Vr
 ·rcases Ak.mp l with l | l
  ·exact m.low x l y (by rcases Ak.mp w with h | h <;> simp[h])
  grind
theorem MI.endA(m:MI R T o l []):J5 R T (o++l):=by
 refine⟨by simpa using m.perm,BC.mpr ⟨m.srt,m.sa,λx w y A=>m.low x w y (by simp[A])⟩⟩
theorem MI.endB(m:MI R T o [] l):J5 R T (o++l):=by
 refine⟨by simpa using m.perm,BC.mpr ⟨m.srt,m.sb,λx w y A=>m.low x w y (by simp[A])⟩⟩
theorem MI.last(m:MI R T o l w)(h:∀y∈w,∀x∈l,R y x):J5 R T (o++(w++l)):=by
 refine⟨(GO o Vr).trans m.perm,BC.mpr ⟨m.srt,BC.mpr ⟨m.sb,m.sa,h⟩,λx A y B=>m.low x A y (by grind)⟩⟩
end
theorem PB(h:i < a.size):a.toList.drop i=ix a i :: a.toList.drop (i+1):=by
 rw[Dx (by simpa using h)]
 congr 1
 have:=Dw h;ext
theorem Hx{a:Array BA}{i k:Nat}(h:i+k<=a.size):a.toList.drop i=(a.extract i (i+k)).toList++a.toList.drop (i+k):=by
 have e:(a.extract i (i+k)).toList=(a.toList.drop i).take k:=by simp[Va]
 rw[e,<-List.drop_drop,DC]
theorem mem_ext(h:i+k<=a.size)(l:x∈(a.extract i (i+k)).toList):∃j,j < k/\x=ix a (i+j):=by
 rw[BB,Oo]at l;obtain⟨j,m,rfl⟩:=l;refine⟨j,by ext,?_⟩;have:=Dw (xs:=a) (i:=i+j) ∅;rw[getElem?_pos a _ ∅]at this;ext
theorem LJ(a:Array BA)(i:Nat):(a.extract i a.size).toList=a.toList.drop i:=by
 simp[Va];exact CU ∅
theorem Fi(l:x∈a.toList.drop i):∃j,i<=j/\j < a.size/\x=ix a j:=by
 obtain⟨k,m,rfl⟩:=FF.mp l;simp at m;refine⟨i+k,by lia,by grind,?_⟩;have:=Dw (xs:=a) (i:=i+k) (by omega);rw[getElem?_pos a _ ∅]at this;ext
theorem Oq{l:Type}{M:Vq}{A:BP}{E:AD->AK->Prop}{s:AK}{c:Prop}[Decidable c]{a b:StateT A3 Sem l}{Q:l->A3->Prop}{st:A3}(m:c->wpS M A E s a Q st)(hb:¬c->wpS M A E s b Q st):wpS M A E s (if c then a else b) Q st:=by
 lia
theorem Dj{l:Type}{M:Vq}{A:BP}{E:AD->AK->Prop}{s:AK}{x y:Nat}{a b:StateT A3 Sem l}{Q:l->A3->Prop}{st:A3}(m:x=y->wpS M A E s a Q st)(hb:¬x=y->wpS M A E s b Q st):wpS M A E s (if (x==y)=true then a else b) Q st:=Oq (λh=>m (by simpa using h)) λh=>hb (by simpa using h)
theorem JC{M:Vq}{A:BP}{E:AD->AK->Prop}{s:AK}{m o B:Type}{a b:Nat}{f:Nat->o->StateT m Sem (ForInStep o)}{k:o->StateT m Sem B}{R:B->m->Prop}(I:Nat->o->m->Prop){Q:o->m->Prop}
  (step:∀F,f=F->∀(i:Nat) (c:o) (st:m),a<=i->i < b->I i c st->wpS M A E s (F i c) (λr l=>match r with | .done w=>Q w l | .yield w=>I (i+1) w l) st)
  (fin:∀c st,I (max a b) c st->Q c st) {c:o} {st:m} (init:I a c st) (post:∀K,k=K->∀c l,Q c l->wpS M A E s (K c) R l):wpS M A E s (forIn [a:b] c f >>= k) R st:=Af (GP (DR I (step f rfl) fin init) (post k rfl))
theorem Zz{m l:Type}{M:Vq}{A:BP}{E:AD->AK->Prop}{s:AK}{c:l->Prop}{d:∀i,Decidable (c i)}{F t:l->StateT A3 Sem m}{Q:m->A3->Prop}{st:A3}(h:∀i,wpS M A E s (F i) Q st)(o:(∀i,wpS M A E s (F i) Q st)->∀i,wpS M A E s (t i) Q st)(i:l):wpS M A E s (if c i then t i else F i) Q st:=Oq (λG=>o h i) λG=>h i
theorem Op{o l m:Type}{M:Vq}{A:BP}{E:AD->AK->Prop}{s:AK}{c:l->m->Prop}{d:∀i j,Decidable (c i j)}{F t:l->m->StateT A3 Sem o}{x:l}{y:m}{Q:o->A3->Prop}{st:A3}(I:l->m->Prop)(h:∀i j,I i j->wpS M A E s (F i j) Q st)(w:(∀i j,I i j->wpS M A E s (F i j) Q st)->c x y->wpS M A E s (t x y) Q st)(B:¬c x y->I x y):∀i,x=i->∀j,y=j->wpS M A E s (if c i j then t i j else F i j) Q st:=λG e G f=>e▸f▸Oq (w h) λn=>h x y (B n)
theorem NR{l:Type}{M:Vq}{A:BP}{E:AD->AK->Prop}{s:AK}{c:Prop}{d:Decidable c}{x:l}{Q:ForInStep l->A3->Prop}{st:A3}(h:Q (.done x) st/\Q (.yield x) st):wpS M A E s (if c then pure (.done x)else pure (.yield x)) Q st:=Oq (λG=>Ag h.1) λG=>Ag h.2
section
variable{prog:Al}{w:A1}{A:BP}{E:AD->AK->Prop}{s:AK}{a₀:Array BA}{κ:NJ}{lt:BA->BA->Bool}
theorem PX{st:A3}{a:Array BA}{i:Nat}{Q:BA->A3->Prop}(h:i < a.size)(l:Q (ix a i) st):wpS (AY prog w) A E s (elem' a i) Q st:=by
 rw[dr,Dw h];exact Ag l
theorem CZ{l:Type}{st:A3}{a:Array BA}{i:Nat}{f:BA->StateT A3 Sem l}{Q:l->A3->Prop}(h:i < a.size)(m:wpS (AY prog w) A E s (f (ix a i)) Q st):wpS (AY prog w) A E s (elem' a i >>= f) Q st:=Af (PX h m)
noncomputable def mLo:Array BA->Array BA->StateT A3 Sem (Array BA):=sortPriv% PySem.Builtin.mergeLo
def mHi:Array BA->Array BA->StateT A3 Sem (Array BA):=sortPriv% PySem.Builtin.mergeHi
structure NA(a₀:Array BA)(κ:NJ)(st st':A3):Prop where
 good:Good a₀ κ st'
 arr:Ad st'=Ad st
 pend:Ae st'=Ae st
theorem NA.gal{st l:A3}(h:NA a₀ κ st l)(n:Nat):NA a₀ κ st (IA (kindOf l) (Ad l) (Ae l) n (IC l)):=⟨⟨h.good.perm,h.good.kind,h.good.failed⟩,h.arr,h.pend⟩
abbrev Rl(lt:BA->BA->Bool)(x y:BA):Prop:=lt y x=false
theorem UW(O:Ord (·∈a₀) lt){a:Array BA}(m:∀i,i < a.size->ix a i∈a₀)(o:a.toList.Pairwise (Rl lt)):∀i j,i<=j->j < a.size->Rl lt (ix a i) (ix a j):=λi j C l=>by
 by_cases e:i=j
 ·subst e;exact O.irr (m i l)
 ·have B:=PB (a:=a) (i:=i) ∅
  have:=o.sublist (List.drop_sublist i a.toList);rw[B]at this;refine(Fx.mp this).1 _ ?_;rw[show a.toList.drop (i+1)=(a.extract (i+1) (i+1+(j - (i+1)))).toList++a.toList.drop (i+1+(j - (i+1)))from Hx ∅,show i+1+(j - (i+1))=j by grind,PB l];simp
theorem TW(l:∀x∈a.toList,x∈a₀):∀i,i < a.size->ix a i∈a₀:=λi m=>l _ (BB.mpr (Ce (Dw m)))
theorem Os{st:A3}{n:Nat}{Q:Unit->A3->Prop}(h:Q () (IA (kindOf st) (Ad st) (Ae st) n (IC st))):wpS (AY prog w) A E s ((sortPriv% PySem.Builtin.setMinGallop) n) Q st:=De h
abbrev GL(M:Array BA->Nat->Nat->Prop)(p q n t:Nat)(o:Array BA)(i j:Nat):Prop:=M o i j/\i+1 < p/\j < q/\t+n<=i+j
theorem ee{st:A3}{a b:Array BA}{Q:Array BA->A3->Prop}(C:Jx prog w A s a₀ κ lt)(O:Ord (·∈a₀) lt)(g:Good a₀ κ st)
  (ma:∀x∈a.toList,x∈a₀) (mb:∀x∈b.toList,x∈a₀) (sa:a.toList.Pairwise (Rl lt)) (sb:b.toList.Pairwise (Rl lt)) (na:0 < a.size) (nb:0 < b.size)
  (h0:∀x∈a.toList,Rl lt (ix b 0) x) (h1:∀y∈b.toList,Rl lt y (ix a (a.size - 1)))
  (h:∀r B,NA a₀ κ st B->J5 (Rl lt) (a.toList++b.toList) r.toList->Q r B):wpS (AY prog w) A E s (mLo a b) Q st:=by
 have R:=TW ma;have S:=TW mb;have ua:=UW O R sa;have ub:=UW O S sb
 have tr:∀x y z:BA,x∈a₀->y∈a₀->z∈a₀->Rl lt x y->Rl lt y z->Rl lt x z:=λx y z hx hy hz h1 h2=>O.ntr x y z hx hy hz h1 h2
 let M (out:Array BA) (l ib:Nat):Prop:=MI (Rl lt) (a.toList++b.toList) out.toList (a.toList.drop l) (b.toList.drop ib)
 have tA:∀out l ib,M out l ib->l < a.size->(∀j,ib<=j->j < b.size->Rl lt (ix a l) (ix b j))->M (out.push (ix a l)) (l+1) ib:=λout l ib m hia hr=>by
  have N:MI (Rl lt) (a.toList++b.toList) out.toList ([ix a l]++a.toList.drop (l+1)) (b.toList.drop ib):=by rw[En,<-PB hia];exact m
  have:=N.takeA λx hx y hy=>by
   obtain⟨j,P,H,rfl⟩:=Fi hy;rw[Au.mp hx];exact hr j P H
  simpa[M]using this
 have tB:∀out l ib,M out l ib->ib < b.size->(∀j,l<=j->j < a.size->Rl lt (ix b ib) (ix a j))->M (out.push (ix b ib)) l (ib+1):=λout l ib m hib hr=>by
  have N:MI (Rl lt) (a.toList++b.toList) out.toList (a.toList.drop l) ([ix b ib]++b.toList.drop (ib+1)):=by rw[En,<-PB hib];exact m
  have:=N.takeB λx hx y hy=>by
   obtain⟨j,P,H,rfl⟩:=Fi hy;rw[Au.mp hx];exact hr j P H
  simpa[M]using this
 have sA:∀out l ib k,M out l ib->l+k<=a.size->(∀i j,i < k->ib<=j->j < b.size->Rl lt (ix a (l+i)) (ix b j))->M (out++a.extract l (l+k)) (l+k) ib:=λout l ib k m hk hr=>by
  have N:MI (Rl lt) (a.toList++b.toList) out.toList ((a.extract l (l+k)).toList++a.toList.drop (l+k)) (b.toList.drop ib):=by rw[<-Hx hk];exact m
  have:=N.takeA λx hx y hy=>by
   obtain⟨j,P,H,rfl⟩:=Fi hy;obtain⟨i,i1,rfl⟩:=mem_ext hk hx;exact hr i j i1 P H
  grind
 have sB:∀out l ib k,M out l ib->ib+k<=b.size->(∀i j,i < k->l<=j->j < a.size->Rl lt (ix b (ib+i)) (ix a j))->M (out++b.extract ib (ib+k)) l (ib+k):=λout l ib k m hk hr=>by
  have N:MI (Rl lt) (a.toList++b.toList) out.toList (a.toList.drop l) ((b.extract ib (ib+k)).toList++b.toList.drop (ib+k)):=by rw[<-Hx hk];exact m
  have:=N.takeB λx hx y hy=>by
   obtain⟨j,P,H,rfl⟩:=Fi hy;obtain⟨i,i1,rfl⟩:=mem_ext hk hx;exact hr i j i1 P H
  grind
 have eB:∀out l ib,M out l ib->ib=b.size->J5 (Rl lt) (a.toList++b.toList) (out++a.extract l a.size++b.extract ib b.size).toList:=λout l ib m e=>by
  subst e
  have N:MI (Rl lt) (a.toList++b.toList) out.toList (a.toList.drop l) []:=by
   have:b.toList.drop b.size=[]:=by simp
   rw[<-this];exact m
  rw[EJ,EJ,LJ,LJ,show b.toList.drop b.size=[] by simp,BO];exact N.endA
 have eA:∀out l ib,M out l ib->l=a.size->J5 (Rl lt) (a.toList++b.toList) (out++a.extract l a.size++b.extract ib b.size).toList:=λout l ib m e=>by
  subst e
  have N:MI (Rl lt) (a.toList++b.toList) out.toList [] (b.toList.drop ib):=by
   have:a.toList.drop a.size=[]:=by simp
   rw[<-this];exact m
  rw[EJ,EJ,LJ,LJ,show a.toList.drop a.size=[] by simp,BO];exact N.endB
 have eL:∀out l ib,M out l ib->l+1=a.size->J5 (Rl lt) (a.toList++b.toList) (out++b.extract ib b.size++a.extract l a.size).toList:=λout l ib m e=>by
  have:=m.last λy hy x hx=>by
   obtain⟨j,P,H,rfl⟩:=Fi hx;obtain⟨i,i1,i2,rfl⟩:=Fi hy
   have:j=a.size - 1:=by lia
   grind
  rw[EJ,EJ,LJ,LJ,Bf];exact this
 have m0:M #[] 0 0:=⟨by simp,by simp,by simp,by simpa using sa,by simpa using sb⟩
 have m1:M #[ix b 0] 0 1:=by
  have:=tB #[] 0 0 m0 nb λj _ hj=>h0 _ (BB.mpr (Ce (Dw hj)))
  simpa using this
 let F (r:Array BA):Prop:=J5 (Rl lt) (a.toList++b.toList) r.toList
 refine(Af (JB ?_):wpS _ _ _ _ (mLo a b) Q st);refine CZ nb ?_;refine(?_)
 refine Dj (λc1=>Ag (h _ st ⟨g,rfl,rfl⟩ (eB _ _ _ m1 c1))) λc1=>?_
 refine Dj (λc2=>Ag (h _ st ⟨g,rfl,rfl⟩ (eL _ _ _ m1 c2))) λc2=>?_
 refine Af (HB ?_)
 refine JC (I:=λx c B=>NA a₀ κ st B/\∃out l ib mg,c=(none,out,l,ib,mg)/\GL M a.size b.size x 1 out l ib)
  (Q:=λc B=>NA a₀ κ st B/\∃r z,c=(some r,z)/\F r) ?step ?fin ?init ?post
 case init=>exact⟨⟨g,rfl,rfl⟩,_,_,_,_,rfl,m1,by lia,by lia,by decide⟩
 case fin=>
  rintro c B ⟨_,out,l,ib,mg,_,_,k1,k2,k3⟩
  lia
 case post=>
  rintro F hF c B ⟨s1,r,z,rfl,f⟩;subst hF;exact Ag (h r B s1 f)
 case step=>
  rintro G hG x c sg _ _ ⟨s1,out,l,ib,mg,rfl,m,k1,k2,k3⟩;subst hG
  refine JC (I:=λy c B=>B=sg/\∃U J tj X Y,c=(none,U,J,tj,X,Y)/\GL M a.size b.size y (l+ib) U J tj)
   (Q:=λc B=>B=sg/\((∃r z,c=(some r,z)/\F r)∨∃U J tj X Y,c=(none,U,J,tj,X,Y)/\GL M a.size b.size 1 (l+ib) U J tj)) ?step1 ?fin1 ?init1 ?post1
  case init1=>exact⟨rfl,out,l,ib,0,0,rfl,m,k1,k2,by ext⟩
  case fin1=>
   rintro c B ⟨rfl,U,J,tj,X,Y,rfl,N,q1,q2,q3⟩;exact⟨rfl,.inr ⟨U,J,tj,X,Y,rfl,N,q1,q2,by lia⟩⟩
  case step1=>
   rintro G hG y c B _ _ ⟨rfl,U,J,tj,X,Y,rfl,N,q1,q2,q3⟩;subst hG
   have q4:J < a.size:=by lia
   refine CZ q2 (CZ q4 (Af (PV C s1.good (S _ q2) (R _ q4) ?_)))
   cases e:lt (ix b tj) (ix a J)with
   | true=>
    have Z:=tB U J tj N q2 λj P H=>tr _ _ _ (S _ q2) (R _ q4) (R _ H) (O.asym _ _ (S _ q2) (R _ q4) e) (ua J j P H)
    refine CZ q2 (Dj (λd=>Ag ⟨rfl,.inl ⟨_,_,rfl,eB _ _ _ Z d⟩⟩) λd=>NR ?_)
    have z:tj+1 < b.size/\l+ib+(y+1)<=J+(tj+1):=by lia
    exact⟨⟨rfl,.inr ⟨_,J,tj+1,_,_,rfl,Z,q1,z.1,by lia⟩⟩,rfl,_,J,tj+1,_,_,rfl,Z,q1,z⟩
   | false=>
    have Z:=tA U J tj N q4 λj P H=>tr _ _ _ (R _ q4) (S _ q2) (S _ H) e (ub tj j P H)
    refine CZ q4 (Dj (λd=>Ag ⟨rfl,.inl ⟨_,_,rfl,eL _ _ _ Z d⟩⟩) λd=>NR ?_)
    have z:J+1+1 < a.size/\l+ib+(y+1)<=J+1+tj:=by lia
    exact⟨⟨rfl,.inr ⟨_,J+1,tj,_,_,rfl,Z,z.1,q2,by lia⟩⟩,rfl,_,J+1,tj,_,_,rfl,Z,z.1,q2,z.2⟩
  case post1=>
   rintro G hG c B ⟨rfl,⟨r,z,rfl,f⟩ | ⟨U,J,tj,X,Y,rfl,N⟩⟩ <;> subst hG
   ·exact Ag ⟨s1,_,_,rfl,f⟩
   refine Af (JB ?_)
   refine JC (I:=λy c mi=>NA a₀ κ st mi/\∃rp L tD u9 X Y,c=(none,rp,L,tD,u9,X,Y)/\GL M a.size b.size 1 (l+ib) rp L tD)
    (Q:=λc mi=>NA a₀ κ st mi/\((∃r z,c=(some r,z)/\F r)∨∃rp L tD u9 X Y,c=(none,rp,L,tD,u9,X,Y)/\GL M a.size b.size 1 (l+ib) rp L tD)) ?step2 ?fin2 ?init2 ?post2
   case init2=>exact⟨s1,U,J,tj,mg+1,X,Y,rfl,N⟩
   case fin2=>exact λc mi h=>⟨h.1,.inr h.2⟩
   case post2=>
    rintro G hG c mi ⟨s2,⟨r,z,rfl,f⟩ | ⟨rp,L,tD,u9,ac2,bc2,rfl,Z,p1,p2,p3⟩⟩ <;> subst hG
    ·exact Ag ⟨s2,_,_,rfl,f⟩
    ·exact Af (Os (Ag ⟨s2.gal _,rp,L,tD,u9+1,rfl,Z,p1,p2,by lia⟩))
   case step2=>
    rintro G hG y c mi _ _ ⟨s2,rp,L,tD,u9,ac2,bc2,rfl,Z,p1,p2,p3⟩;subst hG;symm
    revert u9
    refine Zz (λzH=>?_) λt i=>t _
    refine Af (Os (CZ p2 ?_));have s3:=s2.gal zH;refine Af (Gg C s3.good (λi=>!lt (ix b tD) (ix a (L+i))) (S _ p2) (λi hi=>⟨by lia,R _ ∅⟩) (λi hi=>rfl) (λi j xJ hj e=>?_) (by grind) λk hk k1 k2=>?_)
    ·have e':lt (ix b tD) (ix a (L+j))=false:=by simpa using e
     have:=tr _ _ _ (R _ ∅) (R _ ∅) (S _ p2) (ua (L+i) (L+j) (by ext) ∅) e'
     ext
    have far:∀j,L+k<=j->j < a.size->Rl lt (ix b tD) (ix a j):=λj P H=>by
     have:=k2 (j - L) ∅ ∅;rw[show L+(j - L)=j by lia]at this;exact O.asym _ _ (S _ p2) (R _ H) (by ext)
    have m5:=sA rp L tD k Z ∅ λi j hi P H=>tr _ _ _ (R _ ∅) (S _ p2) (S _ H) (by simpa using k1 i hi) (ub tD j P H)
    generalize ho:rp=o;generalize hi:L=i
    revert o i
    refine Op (λo i=>M o i tD/\i+1 < a.size/\i=L+k) ?_ (λt zI=>?_) λzI=>⟨Z,p1,by ext⟩
    case refine_2=>
     refine Dj (λd=>Ag ⟨s3,.inl ⟨_,_,rfl,eL _ _ _ m5 d⟩⟩) λd1=>?_
     exact Dj (λd=>Ag ⟨s3,.inl ⟨_,_,rfl,eA _ _ _ m5 d⟩⟩) λd2=>t _ _ ⟨m5,by grind,rfl⟩
    rintro vU T ⟨m3,c1,hi3⟩
    have c3:l+ib+1<=T+tD:=by lia
    have c4:T < a.size:=by lia
    have m4:=tB _ _ _ m3 p2 λj h=>far j (hi3▸h)
    refine CZ p2 (Dj (λd=>Ag ⟨s3,.inl ⟨_,_,rfl,eB _ _ _ m4 d⟩⟩) λd=>CZ c4 ?_)
    have c5:tD+1 < b.size:=by lia
    have c6:l+ib+1+1<=T+(tD+1):=by grind
    generalize vU.push (ix b tD)=out4 at m4 ⊢;generalize tD+1=ib4 at m4 c5 c6 ⊢;refine Af (Gg C s3.good (λi=>lt (ix b (ib4+i)) (ix a T)) (R _ c4) (λi hi=>⟨by lia,S _ ∅⟩) (λi hi=>rfl) (λi j xJ hj e=>?_) (by grind) λk3 xK k4 k5=>?_)
    ·cases e2:lt (ix b (ib4+i)) (ix a T)with
     | true=>rfl
     | false=>
      have:=tr _ _ _ (R _ c4) (S _ ∅) (S _ ∅) e2 (ub (ib4+i) (ib4+j) ∅ ∅)
      ext
    have zJ:∀j,ib4+k3<=j->j < b.size->Rl lt (ix a T) (ix b j):=λj P H=>by
     have:=k5 (j - ib4) ∅ ∅;rwa [show ib4+(j - ib4)=j by lia]at this
    have m6:=sB _ T ib4 k3 m4 ∅ λi j hi P H=>tr _ _ _ (S _ ∅) (R _ c4) (R _ H) (O.asym _ _ (S _ ∅) (R _ c4) (k4 i hi)) (ua T j P H)
    generalize ho:out4=o;generalize hi:ib4=i
    revert o i
    refine Op (λo j=>M o T j/\j < b.size/\j=ib4+k3) ?_ (λt xK=>Dj (λd=>Ag ⟨s3,.inl ⟨_,_,rfl,eB _ _ _ m6 d⟩⟩) λd=>t _ _ ⟨m6,by grind,rfl⟩) λxK=>⟨m4,c5,by lia⟩
    rintro zK yF ⟨m5,c7,hi5⟩
    have m7:=tA _ _ _ m5 c4 λj h=>zJ j (hi5▸h)
    refine CZ c4 (Dj (λd=>Ag ⟨s3,.inl ⟨_,_,rfl,eL _ _ _ m7 d⟩⟩) λd=>NR ?_)
    have z:T+1+1 < a.size/\yF < b.size/\l+ib+1<=T+1+yF:=by lia
    exact⟨⟨s3,.inr ⟨_,T+1,yF,_,_,_,rfl,m7,z⟩⟩,s3,_,T+1,yF,_,_,_,rfl,m7,z⟩
end
theorem MI.last2(m:MI R T o l w)(h:∀x∈l,∀y∈w,R x y):J5 R T (o++(l++w)):=by
 refine⟨m.perm,BC.mpr ⟨m.srt,BC.mpr ⟨m.sa,m.sb,h⟩,λx A y B=>m.low x A y B⟩⟩
theorem J5.rev(f:J5 (λx y=>Rl lt y x) T r):J5 (Rl lt) T r.reverse:=⟨r.reverse_perm.trans f.perm,List.pairwise_reverse.mpr f.srt⟩
theorem XU(h:i < a.size):(a.toList.take (i+1)).reverse=ix a i :: (a.toList.take i).reverse:=by
 have:=Dw h;rw[getElem?_pos a i h]at this;rw[N5,show a.toList[i]?=some (ix a i) by ext];simp
theorem UX{a:Array BA}{i n:Nat}(h:i<=n)(l:n<=a.size):(a.toList.take n).reverse=(a.extract i n).toList.reverse++(a.toList.take i).reverse:=by
 have e:(a.extract i n).toList=(a.toList.take n).drop i:=by simp[Va,List.drop_take]
 rw[e,<-List.reverse_append]
 congr 1
 have:=DC i (a.toList.take n)
 grind
theorem Fh(l:x∈(a.toList.take n).reverse):∃j,j < n/\j < a.size/\x=ix a j:=by
 rw[G9]at l;obtain⟨k,m,rfl⟩:=FF.mp l;simp at m;refine⟨k,by grind,by grind,?_⟩;have:=Dw (xs:=a) (i:=k) ∅;rw[getElem?_pos a _ ∅]at this;ext
theorem U1(l:x∈(a.extract i n).toList.reverse):∃j,i<=j/\j < n/\j < a.size/\x=ix a j:=by
 rw[G9,BB,Oo]at l;obtain⟨j,m,rfl⟩:=l;refine⟨i+j,by lia,by grind,by grind,?_⟩;have:=Dw (xs:=a) (i:=i+j) (by omega);rw[getElem?_pos a _ ∅]at this;ext
theorem oB(a:Array BA)(n:Nat):(a.extract 0 n).toList=a.toList.take n:=by ext
section
abbrev GH(M:Array BA->Nat->Nat->Prop)(p q n t:Nat)(o:Array BA)(i j:Nat):Prop:=M o i j/\0 < i/\1 < j/\i<=p/\j<=q/\i+j+n<=t
theorem eh{st:A3}{a b:Array BA}{Q:Array BA->A3->Prop}(C:Jx prog w A s B κ lt)(O:Ord (·∈B) lt)(g:Good B κ st)
  (ma:∀x∈a.toList,x∈B) (mb:∀x∈b.toList,x∈B) (sa:a.toList.Pairwise (Rl lt)) (sb:b.toList.Pairwise (Rl lt)) (pa:0 < a.size) (pb:0 < b.size)
  (h0:∀x∈a.toList,Rl lt (ix b 0) x) (h1:∀y∈b.toList,Rl lt y (ix a (a.size - 1)))
  (h:∀r H,NA B κ st H->J5 (Rl lt) (a.toList++b.toList) r.toList->Q r H):wpS (AY prog w) A E s (mHi a b) Q st:=by
 have R:=TW ma;have S:=TW mb;have ua:=UW O R sa;have ub:=UW O S sb
 have tr:∀x y z:BA,x∈B->y∈B->z∈B->Rl lt x y->Rl lt y z->Rl lt x z:=λx y z hx hy hz h1 h2=>O.ntr x y z hx hy hz h1 h2
 let M (out:Array BA) (l nb:Nat):Prop:=MI (λx y=>Rl lt y x) (a.toList++b.toList) out.toList (a.toList.take l).reverse (b.toList.take nb).reverse
 have tA0:∀out l nb,M out (l+1) nb->l < a.size->nb<=b.size->(∀j,j < nb->Rl lt (ix b j) (ix a l))->M (out.push (ix a l)) l nb:=λout l nb m vi vj hr=>by
  have P:MI (λx y=>Rl lt y x) (a.toList++b.toList) out.toList ([ix a l]++(a.toList.take l).reverse) (b.toList.take nb).reverse:=by rw[En,<-XU vi];exact m
  have:=P.takeA λx hx y hy=>by
   obtain⟨j,T,j2,rfl⟩:=Fh hy;rw[Au.mp hx];exact hr j T
  simpa[M]using this
 have tB0:∀out l nb,M out l (nb+1)->nb < b.size->l<=a.size->(∀j,j < l->Rl lt (ix a j) (ix b nb))->M (out.push (ix b nb)) l nb:=λout l nb m vj vi hr=>by
  have P:MI (λx y=>Rl lt y x) (a.toList++b.toList) out.toList (a.toList.take l).reverse ([ix b nb]++(b.toList.take nb).reverse):=by rw[En,<-XU vj];exact m
  have:=P.takeB λx hx y hy=>by
   obtain⟨j,T,j2,rfl⟩:=Fh hy;rw[Au.mp hx];exact hr j T
  simpa[M]using this
 have tA:∀out l nb,M out l nb->0 < l->l<=a.size->nb<=b.size->(∀j,j < nb->Rl lt (ix b j) (ix a (l - 1)))->M (out.push (ix a (l - 1))) (l - 1) nb:=λout l nb m h0 vi vj hr=>
  tA0 out (l - 1) nb (by rw[show l - 1+1=l by lia];exact m) (by grind) vj hr
 have tB:∀out l nb,M out l nb->0 < nb->nb<=b.size->l<=a.size->(∀j,j < l->Rl lt (ix a j) (ix b (nb - 1)))->M (out.push (ix b (nb - 1))) l (nb - 1):=λout l nb m h0 vj vi hr=>
  tB0 out l (nb - 1) (by rw[show nb - 1+1=nb by lia];exact m) ∅ vi hr
 have sA:∀out l nb k,M out l nb->k<=l->l<=a.size->nb<=b.size->(∀i j,k<=i->i < l->j < nb->Rl lt (ix b j) (ix a i))->M (out++(a.extract k l).reverse) k nb:=λout l nb k m hk vi vj hr=>by
  have P:MI (λx y=>Rl lt y x) (a.toList++b.toList) out.toList ((a.extract k l).toList.reverse++(a.toList.take k).reverse) (b.toList.take nb).reverse:=by rw[<-UX hk vi];exact m
  have:=P.takeA λx hx y hy=>by
   obtain⟨j,T,j2,rfl⟩:=Fh hy;obtain⟨i,i1,i2,i3,rfl⟩:=U1 hx;exact hr i j i1 i2 T
  show MI _ _ (out++(a.extract k l).reverse).toList _ _;ext
 have sB:∀out l nb k,M out l nb->k<=nb->nb<=b.size->l<=a.size->(∀i j,k<=i->i < nb->j < l->Rl lt (ix a j) (ix b i))->M (out++(b.extract k nb).reverse) l k:=λout l nb k m hk vj vi hr=>by
  have P:MI (λx y=>Rl lt y x) (a.toList++b.toList) out.toList (a.toList.take l).reverse ((b.extract k nb).toList.reverse++(b.toList.take k).reverse):=by rw[<-UX hk vj];exact m
  have:=P.takeB λx hx y hy=>by
   obtain⟨j,T,j2,rfl⟩:=Fh hy;obtain⟨i,i1,i2,i3,rfl⟩:=U1 hx;exact hr i j i1 i2 T
  show MI _ _ (out++(b.extract k nb).reverse).toList _ _;ext
 have eA:∀out l nb,M out l nb->l=0->J5 (Rl lt) (a.toList++b.toList) (a.extract 0 l++b.extract 0 nb++out.reverse).toList:=λout l nb m e=>by
  subst e
  have P:MI (λx y=>Rl lt y x) (a.toList++b.toList) out.toList [] (b.toList.take nb).reverse:=by simpa[M]using m
  have:=P.endB.rev;ext
 have eB:∀out l nb,M out l nb->nb=0->J5 (Rl lt) (a.toList++b.toList) (a.extract 0 l++b.extract 0 nb++out.reverse).toList:=λout l nb m e=>by
  subst e
  have P:MI (λx y=>Rl lt y x) (a.toList++b.toList) out.toList (a.toList.take l).reverse []:=by simpa[M]using m
  have:=P.endA.rev;ext
 have eF:∀out l nb,M out l nb->nb=1->J5 (Rl lt) (a.toList++b.toList) (b.extract 0 nb++a.extract 0 l++out.reverse).toList:=λout l nb m e=>by
  have:=m.last2 λx hx y hy=>by
   obtain⟨j,T,j2,rfl⟩:=Fh hx;obtain⟨i,i1,i2,rfl⟩:=Fh hy
   have:i=0:=by ext
   subst this;exact h0 _ (BB.mpr (Ce (Dw j2)))
  have:=this.rev;ext
 have m0:M #[] a.size b.size:=by
  refine⟨?_,by simp,by simp,?_,?_⟩
  ·rw[CU ∅,CU ∅]
   simpa using EN.append a.toList.reverse_perm b.toList.reverse_perm
  ·grind
  ·grind
 have m1:M #[ix a (a.size - 1)] (a.size - 1) b.size:=by
  have:=tA #[] a.size b.size m0 pa (AN _) (AN _) λj hj=>h1 _ (BB.mpr (Ce (Dw hj)))
  simpa using this
 let F (r:Array BA):Prop:=J5 (Rl lt) (a.toList++b.toList) r.toList
 refine(Af (JB ?_):wpS _ _ _ _ (mHi a b) Q st);refine CZ (i:=a.size - 1) (by omega) ?_;refine(show wpS (AY prog w) A E s (if (a.size - 1==0)=true then _ else _) Q st from ?_)
 refine Dj (λc1=>Ag (h _ st ⟨g,rfl,rfl⟩ (eA _ _ _ m1 c1))) λc1=>?_
 refine Dj (λc2=>Ag (h _ st ⟨g,rfl,rfl⟩ (eF _ _ _ m1 c2))) λc2=>?_
 refine Af (HB ?_)
 refine JC (I:=λx c H=>NA B κ st H/\∃out l nb mg,c=(none,l,nb,out,mg)/\GH M a.size b.size (1+x) (a.size+b.size) out l nb)
  (Q:=λc H=>NA B κ st H/\∃r z,c=(some r,z)/\F r) ?step ?fin ?init ?post
 case init=>exact⟨⟨g,rfl,rfl⟩,_,a.size - 1,b.size,_,rfl,m1,by lia,by lia,by ext,by ext,by lia⟩
 case fin=>
  rintro c H ⟨_,out,l,nb,mg,_,_,k1,k2,k3,k4,k5⟩
  lia
 case post=>
  rintro G hG c H ⟨s1,r,z,rfl,f⟩;subst hG;exact Ag (h r H s1 f)
 case step=>
  rintro G hG x c sg _ _ ⟨s1,out,l,nb,mg,rfl,m,k1,k2,k3,k4,k5⟩;subst hG
  refine JC (I:=λy c H=>H=sg/\∃X J L Y Z,c=(none,J,L,X,Y,Z)/\GH M a.size b.size y (l+nb) X J L)
   (Q:=λc H=>H=sg/\((∃r z,c=(some r,z)/\F r)∨∃X J L Y Z,c=(none,J,L,X,Y,Z)/\GH M a.size b.size 1 (l+nb) X J L)) ?step1 ?fin1 ?init1 ?post1
  case init1=>exact⟨rfl,out,l,nb,0,0,rfl,m,k1,k2,k3,k4,by ext⟩
  case fin1=>
   rintro c H ⟨rfl,X,J,L,Y,Z,rfl,P,q1,q2,q3,q4,q5⟩;exact⟨rfl,.inr ⟨X,J,L,Y,Z,rfl,P,q1,q2,q3,q4,by grind⟩⟩
  case step1=>
   rintro G hG y c H _ _ ⟨rfl,X,J,L,Y,Z,rfl,P,q1,q2,q3,q4,q5⟩;subst hG
   have q6:J - 1 < a.size:=by lia
   have q7:L - 1 < b.size:=by grind
   refine CZ q7 (CZ q6 (Af (PV C s1.good (S _ q7) (R _ q6) ?_)))
   cases e:lt (ix b (L - 1)) (ix a (J - 1))with
   | true=>
    have m2:=tA X J L P q1 q3 q4 λj T=>tr _ _ _ (S _ ∅) (S _ q7) (R _ q6) (ub j (L - 1) (by grind) q7) (O.asym _ _ (S _ q7) (R _ q6) e)
    refine CZ q6 (Dj (λd=>Ag ⟨rfl,.inl ⟨_,_,rfl,eA _ _ _ m2 d⟩⟩) λd=>NR ?_)
    have z:0 < J - 1/\J - 1<=a.size/\J - 1+L+(y+1)<=l+nb:=by lia
    exact⟨⟨rfl,.inr ⟨_,J - 1,L,_,_,rfl,m2,z.1,q2,z.2.1,q4,by lia⟩⟩,rfl,_,J - 1,L,_,_,rfl,m2,z.1,q2,z.2.1,q4,z.2.2⟩
   | false=>
    have m2:=tB X J L P ∅ q4 q3 λj T=>tr _ _ _ (R _ ∅) (R _ q6) (S _ q7) (ua j (J - 1) (by grind) q6) e
    refine CZ q7 (Dj (λd=>Ag ⟨rfl,.inl ⟨_,_,rfl,eF _ _ _ m2 d⟩⟩) λd=>NR ?_)
    have z:1 < L - 1/\L - 1<=b.size/\J+(L - 1)+(y+1)<=l+nb:=by lia
    exact⟨⟨rfl,.inr ⟨_,J,L - 1,_,_,rfl,m2,q1,z.1,q3,z.2.1,by lia⟩⟩,rfl,_,J,L - 1,_,_,rfl,m2,q1,z.1,q3,z.2.1,z.2.2⟩
  case post1=>
   rintro G hG c H ⟨rfl,⟨r,z,rfl,f⟩ | ⟨X,J,L,Y,Z,rfl,P⟩⟩ <;> subst hG
   ·exact Ag ⟨s1,_,_,rfl,f⟩
   refine Af (JB ?_)
   refine JC (I:=λy c mi=>NA B κ st mi/\∃rp uc N u9 Y Z,c=(none,uc,N,rp,u9,Y,Z)/\GH M a.size b.size 1 (l+nb) rp uc N)
    (Q:=λc mi=>NA B κ st mi/\((∃r z,c=(some r,z)/\F r)∨∃rp uc N u9 Y Z,c=(none,uc,N,rp,u9,Y,Z)/\GH M a.size b.size 1 (l+nb) rp uc N)) ?step2 ?fin2 ?init2 ?post2
   case init2=>exact⟨s1,X,J,L,mg+1,Y,Z,rfl,P⟩
   case fin2=>exact λc mi h=>⟨h.1,.inr h.2⟩
   case post2=>
    rintro G hG c mi ⟨s2,⟨r,z,rfl,f⟩ | ⟨rp,uc,N,u9,ac2,bc2,rfl,m2,p1,p2,p3,p4,p5⟩⟩ <;> subst hG
    ·exact Ag ⟨s2,_,_,rfl,f⟩
    ·exact Af (Os (Ag ⟨s2.gal _,rp,uc,N,u9+1,rfl,m2,p1,p2,p3,p4,by lia⟩))
   case step2=>
    rintro G hG y c mi _ _ ⟨s2,rp,uc,N,u9,ac2,bc2,rfl,m2,p1,p2,p3,p4,p5⟩;subst hG;symm
    revert u9
    refine Zz (λzH=>?_) λt i=>t _
    have s3:=s2.gal zH
    have p6:N - 1 < b.size:=by lia
    refine Af (Os (CZ p6 ?_));refine Af (Gg (base:=0) (n:=uc) (hint:=uc - 1) (arr:=a) (key:=ix b (N - 1)) (left:=false) C s3.good (λi=>!lt (ix b (N - 1)) (ix a (0+i))) (S _ p6) (λi hi=>⟨by lia,R _ ∅⟩) (λi hi=>rfl) (λi j xJ hj e=>?_) ∅ λk hk k1 k2=>?_)
    ·have e':lt (ix b (N - 1)) (ix a (0+j))=false:=by simpa using e
     have:=tr _ _ _ (R _ ∅) (R _ ∅) (S _ p6) (ua (0+i) (0+j) (by ext) ∅) e'
     ext
    have near:∀j,j < k->Rl lt (ix a j) (ix b (N - 1)):=λj T=>by
     grind
    have m5:=sA rp uc N k m2 hk p3 p4 λi j i1 i2 T=>by
     have:=k2 i i1 i2;rw[Vn]at this;exact tr _ _ _ (S _ ∅) (S _ p6) (R _ ∅) (ub j (N - 1) ∅ p6) (O.asym _ _ (S _ p6) (R _ ∅) ∅)
    symm;generalize hk6:uc - k=k6;generalize ho:rp=o;generalize hi:uc=i
    revert o i
    refine Op (λo i=>M o i N/\0 < i/\i=k) ?_ (λt zI=>Dj (λd=>Ag ⟨s3,.inl ⟨_,_,rfl,eA _ _ _ m5 d⟩⟩) λd=>t (rp++(a.extract k uc).reverse) k ⟨m5,by lia,rfl⟩) λzI=>⟨m2,p1,by grind⟩
    rintro vU U ⟨m3,c1,hi3⟩
    have c4:U - 1 < a.size:=by grind
    have c5:U<=uc:=by ext
    have m4:=tB _ _ _ m3 ∅ p4 ∅ λj h=>near j (hi3▸h)
    refine CZ p6 (Dj (λd=>Ag ⟨s3,.inl ⟨_,_,rfl,eF _ _ _ m4 d⟩⟩) λd=>CZ c4 ?_)
    have c6:1 < N - 1/\N - 1 < b.size/\U+(N - 1)+2<=l+nb:=by lia
    generalize vU.push (ix b (N - 1))=out4 at m4 ⊢;generalize N - 1=nb4 at m4 c6 ⊢;obtain⟨c6,c7,c8⟩:=c6;refine Af (Gg (base:=0) (n:=nb4) (hint:=nb4 - 1) (arr:=b) (key:=ix a (U - 1)) (left:=true) C s3.good (λi=>lt (ix b (0+i)) (ix a (U - 1))) (R _ c4) (λi hi=>⟨by lia,S _ ∅⟩) (λi hi=>rfl) (λi j xJ hj e=>?_) ∅ λk3 xK k4 k5=>?_)
    ·cases e2:lt (ix b (0+i)) (ix a (U - 1))with
     | true=>rfl
     | false=>
      have:=tr _ _ _ (R _ c4) (S _ ∅) (S _ ∅) e2 (ub (0+i) (0+j) ∅ ∅)
      ext
    have xM:∀j,j < k3->Rl lt (ix b j) (ix a (U - 1)):=λj T=>by
     have:=k4 j T;rw[Vn]at this;exact O.asym _ _ (S _ ∅) (R _ c4) this
    have m6:=sB _ U nb4 k3 m4 xK ∅ ∅ λi j i1 i2 T=>by
     have:=k5 i i1 i2;rw[Vn]at this;exact tr _ _ _ (R _ ∅) (R _ c4) (S _ ∅) (ua j (U - 1) (by grind) c4) this
    symm;generalize hk7:nb4 - k3=k7;generalize ho:out4=o;generalize hi:nb4=i
    revert o i
    refine Op (λo j=>M o U j/\1 < j/\j<=nb4/\j=k3) ?_ (λt hk4=>?_) λhk4=>⟨m4,c6,AN _,by lia⟩
    case refine_2=>
     refine Dj (λd=>Ag ⟨s3,.inl ⟨_,_,rfl,eF _ _ _ m6 d⟩⟩) λd2=>?_
     exact Dj (λd=>Ag ⟨s3,.inl ⟨_,_,rfl,eB _ _ _ m6 d⟩⟩) λd4=>t (out4++(b.extract k3 nb4).reverse) k3 ⟨m6,by lia,by ext,rfl⟩
    rintro zK xO ⟨m5,c9,c10,hi5⟩
    have m7:=tA _ _ _ m5 c1 ∅ (by grind) λj h=>xM j (hi5▸h)
    refine CZ c4 (Dj (λd=>Ag ⟨s3,.inl ⟨_,_,rfl,eA _ _ _ m7 d⟩⟩) λd=>NR ?_)
    have z:0 < U - 1/\1 < xO/\U - 1<=a.size/\xO<=b.size/\U - 1+xO+1<=l+nb:=by grind
    exact⟨⟨s3,.inr ⟨_,U - 1,xO,_,_,_,rfl,m7,z⟩⟩,s3,_,U - 1,xO,_,_,_,rfl,m7,z⟩
end
noncomputable def wr(arr:Array BA)(m:Nat)(l:List (BA×Nat)):Array BA:=l.foldl (λa (x:BA×Nat)=>match x with | (p,j)=>a.setIfInBounds (m+j) p) arr
theorem Se(m:Nat):∀(l:List BA) (k:Nat) (arr:Array BA),m+k+l.length<=arr.size->(wr arr m (l.zipIdx k)).toList=arr.toList.take (m+k)++l++arr.toList.drop (m+k+l.length)
 | [],k,arr,h=>by simp[wr]
 | x :: l,k,arr,h=>by
  rw[Am]at h;have e:wr arr m ((x :: l).zipIdx k)=wr (arr.setIfInBounds (m+k) x) m (l.zipIdx (k+1)):=rfl;rw[e,Se m l (k+1) _ (by simp;lia)]
  have o:m+k < arr.toList.length:=by simp;lia
  rw[RB,Am,show m+(k+1)=m+k+1 by rfl];rw[N5,List.take_set_of_le (AN _),EY o,List.drop_set_of_lt ∅];simp[show m+k+1+l.length=m+k+(l.length+1) by lia]
theorem ix_list(a:Array BA)(i:Nat):ix a i=(a.toList[i]?).getD (.none,.none):=by
 unfold ix;ext
set_option tactic.hygienic true in
theorem cQ(h:sa+m.size<=arr.size)(i:Nat):ix (wr arr sa m.toList.zipIdx) i=if i < sa then ix arr i else if i < sa+m.size then ix m (i - sa)else ix arr i:=by
 have e:=Se sa m.toList 0 arr (by simpa using h);rw[ix_list,show m.toList.zipIdx=m.toList.zipIdx 0 from rfl,e,oP]
 have o:(arr.toList.take sa).length=sa:=by simp;lia
 split
 ·rename_i l
  rw[Bf,Br (by ext),T0 l,ix_list]
 ·rename_i l
  split
  ·rename_i w
   rw[Bf,Bl (by ext),o,Br (by simp;grind),ix_list]
  ·rename_i w
   rw[Bl (by simp;ext),Zj,ix_list];ext
theorem gp{arr m:Array BA}{l:Nat}(h:l+m.size<=arr.size)(o:m.toList.Perm (arr.extract l (l+m.size)).toList):(wr arr l m.toList.zipIdx).Perm arr:=by
 rw[E6];have e:=Se l m.toList 0 arr (by simpa using h);rw[show m.toList.zipIdx=m.toList.zipIdx 0 from rfl,e,oP]
 have w:arr.toList=arr.toList.take l++(arr.extract l (l+m.size)).toList++arr.toList.drop (l+m.toList.length):=by
  rw[Bf,Ac,<-Hx h,DC]
 conv=>rhs;rw[w]
 exact Q8 _ (GO _ o)
theorem WY{a:Array BA}{lo hi i:Nat}(h:hi<=a.size)(l:i < hi - lo):ix (a.extract lo hi) i=ix a (lo+i):=by
 apply JJ
 ext
section
variable{prog:Al}{w:A1}{A:BP}{E:AD->AK->Prop}{s:AK}{a₀:Array BA}{κ:NJ}{lt:BA->BA->Bool}
theorem ai{a:Array BA}{lo hi:Nat}(h:hi<=a.size)(u:Up lt a lo hi):(a.extract lo hi).toList.Pairwise (Rl lt):=by
 rw[Ip];intro i j o B C;simp at o B
 have e:∀k (l:k < (a.extract lo hi).toList.length),(a.extract lo hi).toList[k]=ix a (lo+k):=λk l=>by
  have m:k < (a.extract lo hi).size:=by rw[Ac]at l;exact l
  have:=Dw m;rw[getElem?_pos (a.extract lo hi) k m]at this
  have G:(a.extract lo hi).size=hi - lo:=by simp;ext
  rw[<-WY h ∅]
  ext
 rw[e,e];exact u _ _ (by ext) ∅ (by grind)
theorem eZ{st l:A3}{Q:PUnit->A3->Prop}(h:Q ⟨⟩ l):wpS (AY prog w) A E s (set l:StateT A3 Sem PUnit) Q st:=Ag h
theorem UD{st}{i l m pw sb I pw2}{Q}(C:Jx prog w A s a₀ κ lt)(O:Ord (·∈a₀) lt)(g:Good a₀ κ st)
  (e1:(Ae st)[i]?=some (l,m,pw)) (e2:(Ae st)[i+1]?=some (sb,I,pw2)) (uo:sb=l+m) (vi:1<=m) (vj:1<=I) (hs:sb+I<=a₀.size)
  (Y:Up lt (Ad st) l (l+m)) (Z:Up lt (Ad st) sb (sb+I))
  (h:∀o,Good a₀ κ o->Ae o=((Ae st).setIfInBounds i (l,m+I,pw)).eraseIdxIfInBounds (i+1)->Up lt (Ad o) l (l+(m+I))->Out (Ad st) (Ad o) l (l+(m+I))->Q true o) :
  wpS (AY prog w) A E s (mergeAt' i) Q st:=by
 subst uo;have hsz:=g.size
 have mem:∀j,j < a₀.size->ix (Ad st) j∈a₀:=λj hj=>g.mem hj
 have tr:∀x y z:BA,x∈a₀->y∈a₀->z∈a₀->Rl lt x y->Rl lt y z->Rl lt x z:=λx y z hx hy B J H=>O.ntr x y z hx hy B J H
 refine(Af (HB ?_):wpS _ _ _ _ (mergeAt' i) Q st);rw[show(sortPriv% PySem.Builtin.SortState.pending) st=Ae st from rfl,e1,e2];refine Af (eZ ?_);generalize L:((sortPriv% PySem.Builtin.SortState.mk) (kindOf st) (Ad st) (((Ae st).setIfInBounds i (l,m+I,pw)).eraseIdxIfInBounds (i+1)) (gallopOf st) (IC st))=sg
 have g1:Good a₀ κ sg:=by subst L;exact⟨g.perm,g.kind,g.failed⟩
 have a1:Ad sg=Ad st:=by subst L;rfl
 have p1:Ae sg=((Ae st).setIfInBounds i (l,m+I,pw)).eraseIdxIfInBounds (i+1):=by subst L;rfl
 refine Af (PX ∅ ?_);refine Af (Gg C g1 (λj=>!lt (ix (Ad st) (l+m)) (ix (Ad st) (l+j))) (mem _ ∅) (λj hj=>⟨by lia,mem _ ∅⟩) (λj hj=>rfl) (λx y xP hy e=>?_) (by trivial) λk hk k1 k2=>?_)
 ·have e':lt (ix (Ad st) (l+m)) (ix (Ad st) (l+y))=false:=by simpa using e
  have:=tr _ _ _ (mem _ ∅) (mem _ ∅) (mem _ ∅) (Y (l+x) (l+y) (by ext) (by ext) (by ext)) e'
  ext
 have low:∀j,l<=j->j < l+k->Rl lt (ix (Ad st) j) (ix (Ad st) (l+m)):=λj G R=>by
  have:=k1 (j - l) (by grind);rw[show l+(j - l)=j by ext]at this
  lia
 have xQ:∀i j,l<=i->i < l+k->l+m<=j->j < l+m+I->Rl lt (ix (Ad st) i) (ix (Ad st) j):=λi j T i2 G R=>tr _ _ _ (mem _ ∅) (mem _ ∅) (mem _ ∅) (low i T i2) (Z _ _ (by ext) (by ext) (by ext))
 have N:(∀j,l<=j->j < l+m->Rl lt (ix (Ad st) j) (ix (Ad st) (l+m)))->Up lt (Ad st) l (l+(m+I)):=λhh x y J H h3=>by
  by_cases c1:y < l+m
  ·exact Y x y J H c1
  by_cases c2:x < l+m
  ·exact tr _ _ _ (mem _ ∅) (mem _ ∅) (mem _ ∅) (hh x J c2) (Z _ _ ∅ (by ext) ∅)
  ·exact Z x y ∅ H ∅
 refine(show wpS (AY prog w) A E s (if (m - k==0)=true then _ else _) Q sg from ?_)
 by_cases c1:m - k=0
 ·rw[qX (by simpa using c1)]
  refine Ag (h sg g1 p1 ?_ (by rw[a1];exact .refl));rw[a1]
  exact N λj G R=>low j G (by grind)
 rw[qY (by simpa using c1)];refine Af (PX (a:=Ad st) (by grind) ?_);rw[show l+k+(m - k) - 1=l+m - 1 by lia];refine Af (Gg C g1 (λj=>lt (ix (Ad st) (l+m+j)) (ix (Ad st) (l+m - 1))) (mem _ ∅) (λj hj=>⟨by lia,mem _ ∅⟩) (λj hj=>rfl) (λx y xP hy e=>?_) ∅ λk3 xK k4 k5=>?_)
 ·cases e2:lt (ix (Ad st) (l+m+x)) (ix (Ad st) (l+m - 1))with
  | true=>rfl
  | false=>
   have:=tr _ _ _ (mem _ ∅) (mem _ ∅) (mem _ ∅) e2 (Z (l+m+x) (l+m+y) (by ext) (by ext) (by ext))
   ext
 have U:∀j,l+m+k3<=j->j < l+m+I->Rl lt (ix (Ad st) (l+m - 1)) (ix (Ad st) j):=λj G R=>by
  have:=k5 (j - (l+m)) ∅ ∅;rwa [show l+m+(j - (l+m))=j by lia]at this
 refine(show wpS (AY prog w) A E s (if (k3==0)=true then _ else _) Q sg from ?_)
 by_cases c2:k3=0
 ·rw[qX (by simpa using c2)]
  refine Ag (h sg g1 p1 ?_ (by rw[a1];exact .refl));rw[a1]
  exact N λj G R=>tr _ _ _ (mem _ ∅) (mem _ ∅) (mem _ ∅) (Y j (l+m - 1) (by ext) ∅ ∅) (U _ (by ext) ∅)
 rw[qY (by simpa using c2)]
 let x:=(Ad st).extract (l+k) (l+m)
 let y:=(Ad st).extract (l+m) (l+m+k3)
 have xs:x.size=m - k:=by simp[x];lia
 have ys:y.size=k3:=by simp[y];lia
 have ixx:∀j,j < m - k->ix x j=ix (Ad st) (l+k+j):=λj hj=>WY ∅ ∅
 have ixy:∀j,j < k3->ix y j=ix (Ad st) (l+m+j):=λj hj=>WY ∅ (by ext)
 have vV:∀z∈x.toList,∃j,j < m - k/\z=ix (Ad st) (l+k+j):=λz B=>by
  have B:z∈((Ad st).extract (l+k) (l+k+(m - k))).toList:=by rw[show l+k+(m - k)=l+m by grind];exact B
  exact mem_ext (by grind) B
 have vW:∀z∈y.toList,∃j,j < k3/\z=ix (Ad st) (l+m+j):=λz B=>mem_ext ∅ B
 have fin:∀(r:Array BA) (o:A3),NA a₀ κ sg o->J5 (Rl lt) (x.toList++y.toList) r.toList->∀mi:A3,Ad mi=wr (Ad o) (l+k) r.toList.zipIdx->kindOf mi=kindOf o->IC mi=IC o->Ae mi=Ae o->Q true mi:=by
  intro r o S f mi q1 q2 q3 q4
  have hr:r.size=m - k+k3:=by
   have:=f.perm.length_eq;simp only[AS,Ac]at this
   ext
  have ha:=S.arr.trans a1;rw[ha]at q1
  have hb:l+k+r.size<=(Ad st).size:=by grind
  have mm:∀t,t < r.size->∃t',ix r t=ix (Ad st) t'/\l+k<=t'/\t' < l+m+k3:=λt ht=>by
   have:ix r t∈r.toList:=BB.mpr (Ce (Dw ht))
   rcases Ak.mp (f.perm.mem_iff.mp this)with h | h
   ·obtain⟨j,G,e⟩:=vV _ h
    exact⟨_,e,by lia,by grind⟩
   ·obtain⟨j,G,e⟩:=vW _ h
    exact⟨_,e,by lia,by lia⟩
  have rs:=UW O (λt ht=>by
   obtain⟨t',e,_,_⟩:=mm t ht;rw[e]
   exact mem _ ∅) f.srt
  refine h mi ⟨?_,?_,?_⟩ (q4.trans (S.pend.trans p1)) ?_ ?_
  ·rw[q1]
   refine(gp hb (f.perm.trans ?_)).trans g.perm
   have:(Ad st).toList.drop (l+k)=x.toList++(Ad st).toList.drop (l+m):=by
    have:=Hx (a:=Ad st) (i:=l+k) (k:=m - k) ∅;rw[show l+k+(m - k)=l+m by grind]at this;exact this
   have H:(Ad st).toList.drop (l+m)=y.toList++(Ad st).toList.drop (l+m+k3):=Hx ∅;have h3:=Hx hb;rw[this,H,<-Bf,show l+k+r.size=l+m+k3 by grind]at h3;rw[show l+k+r.size=l+m+k3 by lia];exact EN.of_eq (List.append_cancel_right h3)
  ·rw[q2];exact S.good.kind
  ·rw[q3];exact S.good.failed
  ·rw[q1]
   intro i j J H h3;rw[cQ hb,cQ hb]
   by_cases T:i < l+k
   ·rw[qX T]
    by_cases G:j < l+k
    ·rw[qX G];exact Y i j J H ∅
    rw[qY G]
    by_cases R:j < l+k+r.size
    ·rw[qX R]
     obtain⟨t,e,t1,t2⟩:=mm (j - (l+k)) ∅;rw[e]
     by_cases t3:t < l+m
     ·exact Y i t J ∅ t3
     ·exact xQ i t J T ∅ ∅
    ·rw[qY R];exact xQ i j J T (by grind) ∅
   rw[qY T,qY ∅]
   by_cases i2:i < l+k+r.size
   ·rw[qX i2]
    by_cases R:j < l+k+r.size
    ·rw[qX R];exact rs _ _ (by grind) ∅
    ·rw[qY R]
     obtain⟨t,e,t1,t2⟩:=mm (i - (l+k)) ∅;rw[e]
     by_cases t3:t < l+m
     ·exact tr _ _ _ (mem _ ∅) (mem _ ∅) (mem _ ∅) (Y t (l+m - 1) ∅ ∅ ∅) (U j (by grind) ∅)
     ·exact Z t j ∅ (by grind) ∅
   ·rw[qY i2,qY (by grind)]
    exact Z i j ∅ H ∅
  ·rw[q1]
   intro i hi;rw[cQ hb]
   by_cases T:i < l+k
   ·rw[qX T]
   ·rw[qY T,qY (by grind)]
 have X:∀{P:Prop},((∀z∈x.toList,z∈a₀)->(∀z∈y.toList,z∈a₀)->x.toList.Pairwise (Rl lt)->y.toList.Pairwise (Rl lt)->0 < x.size->0 < y.size->(∀z∈x.toList,Rl lt (ix y 0) z)->(∀z∈y.toList,Rl lt z (ix x (x.size - 1)))->P)->P:=by
  intro P hP
  refine hP (λz B=>?_) (λz B=>?_) (ai ∅ λi j J H h3=>Y i j ∅ H h3) (ai ∅ λi j J H h3=>Z i j J H ∅) ∅ ∅ (λz B=>?_) λz B=>?_
  ·obtain⟨j,G,rfl⟩:=vV z B
   exact mem _ (by grind)
  ·obtain⟨j,G,rfl⟩:=vW z B
   exact mem _ ∅
  ·obtain⟨j,G,rfl⟩:=vV z B
   rw[ixy 0 ∅];have:=k2 (k+j) ∅ (by grind);rw[show l+(k+j)=l+k+j by lia]at this;exact O.asym _ _ (mem _ ∅) (mem _ ∅) (by ext)
  ·obtain⟨j,G,rfl⟩:=vW z B
   rw[xs,ixx _ ∅,show l+k+(m - k - 1)=l+m - 1 by lia];exact O.asym _ _ (mem _ ∅) (mem _ ∅) (k4 j G)
 refine(?_);split
 ·refine Af (X λb1 b2 b3 b4 b5 b6 b7 b8=>ee C O g1 b1 b2 b3 b4 b5 b6 b7 b8 λr o S f=>?_)
  refine Af (De (Af (HB (Ag ?_))));have q:=fin r o S f (setArr o (wr (Ad o) (l+k) r.toList.zipIdx)) rfl rfl rfl rfl;rw[<-show(IC o).isNone=true by rw[S.good.failed];rfl]at q;exact q
 ·refine Af (X λb1 b2 b3 b4 b5 b6 b7 b8=>eh C O g1 b1 b2 b3 b4 b5 b6 b7 b8 λr o S f=>?_)
  refine Af (De (Af (HB (Ag ?_))));have q:=fin r o S f (setArr o (wr (Ad o) (l+k) r.toList.zipIdx)) rfl rfl rfl rfl;rw[<-show(IC o).isNone=true by rw[S.good.failed];rfl]at q;exact q
end
theorem iM[Decidable c](h:1 < z):(if c then z - 2 - 1 else z - 2)+1 < z:=by split <;> omega
def Stk(lt:BA->BA->Bool)(arr:Array BA):List (Nat×Nat×Nat)->Nat->Nat->Prop
 | [],lo,l=>lo=l
 | (s,n,_) :: r,lo,l=>s=lo/\1<=n/\Up lt arr s (s+n)/\Stk lt arr r (s+n) l
section
theorem Stk.le:∀{l:List (Nat×Nat×Nat)} {lo hi:Nat},Stk lt arr l lo hi->lo+l.length<=hi
 | [],lo,hi,h=>by cases h;simp
 | (s,n,_) :: r,lo,hi,⟨o,w,_,m⟩=>by
  have:=Stk.le m;rw[Am]
  lia
theorem Stk.app:∀{l r:List (Nat×Nat×Nat)} {lo hi:Nat},Stk lt arr (l++r) lo hi↔∃m,Stk lt arr l lo m/\Stk lt arr r m hi
 | [],r,lo,hi=>⟨λh=>⟨lo,rfl,h⟩,by rintro ⟨_,e,h⟩;cases e;exact h⟩
 | (s,n,_) :: l,r,lo,hi=>by
  constructor
  ·rintro⟨o,w,A,B⟩
   obtain⟨m,a,b⟩:=Stk.app.mp B;exact⟨m,⟨o,w,A,a⟩,b⟩
  ·rintro⟨m,⟨o,w,A,B⟩,b⟩
   exact⟨o,w,A,Stk.app.mpr ⟨m,B,b⟩⟩
theorem Stk.pw(m:∀x,(f x).1=x.1/\(f x).2.1=x.2.1):∀{l:List (Nat×Nat×Nat)} {lo hi:Nat} (i:Nat),Stk lt arr l lo hi->Stk lt arr (l.modify i f) lo hi
 | [],lo,hi,i,h=>by ext
 | (s,n,p) :: r,lo,hi,0,h=>by
  obtain⟨o,w⟩:=m (s,n,p);show Stk lt arr (f (s,n,p) :: r) lo hi;generalize f (s,n,p)=q at o w;obtain⟨G,H,I⟩:=q;subst o w;exact h
 | (s,n,p) :: r,lo,hi,i+1,⟨A,B,C,E⟩=>⟨A,B,C,Stk.pw m i E⟩
theorem Stk.out:∀{l:List (Nat×Nat×Nat)} {lo hi x y:Nat},Stk lt arr l lo hi->Out arr arr' x y->(hi<=x∨y<=lo)->Stk lt arr' l lo hi
 | [],lo,hi,x,y,h,o,d=>h
 | (s,n,_) :: r,lo,hi,x,y,⟨w,A,B,m⟩,o,d=>by
  have:=m.le;exact⟨w,A,B.out o ∅,Stk.out m o ∅⟩
end
section
theorem Out.wide(o:Out xs m l h)(A:w<=l)(B:h<=h'):Out xs m w h':=λi C=>o i ∅
theorem JS{st:A3}{i hi:Nat}{Q:Bool->A3->Prop}(C:Jx prog w A s o S lt)(O:Ord (·∈o) lt)(g:Good o S st)(k:Stk lt (Ad st) (Ae st).toList 0 hi)(hs:hi<=o.size)(zF:i+1 < (Ae st).size)
  (h:∀m,Good o S m->Stk lt (Ad m) (Ae m).toList 0 hi->(Ae m).size+1=(Ae st).size->Out (Ad st) (Ad m) 0 hi->Q true m):wpS (AY prog w) A E s (mergeAt' i) Q st:=by
 obtain⟨B,G,pw,T⟩:∃B G pw,(Ae st)[i]?=some (B,G,pw):=⟨_,_,_,getElem?_pos (Ae st) i ∅⟩
 obtain⟨J,H,I,U⟩:∃B G pw,(Ae st)[i+1]?=some (B,G,pw):=⟨_,_,_,getElem?_pos (Ae st) (i+1) zF⟩
 obtain⟨l,r,L,hl⟩:∃l r,(Ae st).toList=l++(B,G,pw) :: (J,H,I) :: r/\l.length=i:=by
  have a1:(Ae st).toList[i]?=some (B,G,pw):=by simpa using T
  have a2:(Ae st).toList[i+1]?=some (J,H,I):=by simpa using U
  obtain⟨b1,c1⟩:=AJ.mp a1;obtain⟨b2,c2⟩:=AJ.mp a2;refine⟨(Ae st).toList.take i,(Ae st).toList.drop (i+2),?_,by rw[CV];lia⟩
  conv=>lhs;rw[<-DC i (Ae st).toList,Dx b1,Dx b2,c1,c2]
 rw[L]at k;obtain⟨N,X,⟨q1,q2,q3,⟨q4,q5,q6,P⟩⟩⟩:=Stk.app.mp k;have hle:=P.le;have Y:=X.le
 refine UD C O g T U q4 q2 q5 ∅ q3 q6 λm g' p' u' R=>?_
 have Z:(Ae m).toList=l++(B,G+H,pw) :: r:=by
  rw[p',Array.toList_eraseIdxIfInBounds,RB,L];rw[List.set_append_right _ _ (by ext),hl,oM,List.set_cons_zero,List.eraseIdx_append_of_length_le (by ext),show i+1 - l.length=1 by ext];rfl
 refine h m g' ?_ ?_ (R.wide ∅ ∅)
 ·rw[Z]
  refine Stk.app.mpr ⟨N,X.out R (.inl (by ext)),q1,by lia,u',?_⟩
  have e:J+H=B+(G+H):=by lia
  rw[e]at P;exact P.out R (.inr (by simp))
 ·have z1:=congrArg Dg Z
  have z2:=congrArg Dg L;simp at z1 z2
  grind
theorem wpS_sortRuns{st:A3}{Q:Unit->A3->Prop}(C:Jx prog w A s m N lt)(O:Ord (·∈m) lt)(g:Good m N st)(hp:Ae st = #[])
  (h:∀B,Good m N B->Up lt (Ad B) 0 m.size->Q () B):wpS (AY prog w) A E s sortRuns' Q st:=by
 rw[sortRuns'_eq];refine Af (HB ?_);symm;rw[g.size];generalize minRun' m.size m.size 0=U
 refine Af (GP (DR (I:=λx c B=>∃lo,c=(none,lo)/\Good m N B/\Stk lt (Ad B) (Ae B).toList 0 lo/\lo<=m.size/\min x m.size<=lo)
  (Q:=λc B=>c=(none,m.size)/\Good m N B/\Stk lt (Ad B) (Ae B).toList 0 m.size) ?step ?fin ?init) ?post)
 case init=>exact⟨0,rfl,g,by rw[hp];rfl,by ext,by ext⟩
 case fin=>
  rintro c B ⟨lo,rfl,g',k',h1,h2⟩
  have:lo=m.size:=by lia
  ext
 case step=>
  rintro x c sg _ hx ⟨lo,rfl,g1,X,h1,h2⟩
  by_cases sX:lo ≥ m.size
  ·rw[qX sX]
   have:lo=m.size:=by lia
   subst this;exact Ag ⟨rfl,g1,X⟩
  rw[qY sX];refine Af (wpS_countRun C O (by grind) (by ext) g1 λmi n Y P T u2 o2 p2=>?_);symm
  have k2:Stk lt (Ad mi) (Ae mi).toList 0 lo:=by
   rw[p2];exact X.out o2 (.inl (AN _))
  by_cases hm:n < U
  ·rw[qX hm]
   refine Af (JB ?_);refine Af (wpS_binarySort C O (by grind) (by grind) Y u2 λtR g3 u3 o3 p3=>?_)
   have k3:Stk lt (Ad tR) (Ae tR).toList 0 lo:=by
    rw[p3];exact k2.out o3 (.inl (AN _))
   rw[qY (by decide)];refine Af (HB ?_)
   cases hb:(Ae tR).back? with
   | none=>
    refine Af (De (Ag ⟨lo+min (m.size - lo) U,rfl,⟨g3.perm,g3.kind,g3.failed⟩,?_,by lia,by grind⟩));rw[GS];exact Stk.app.mpr ⟨lo,k3,rfl,by grind,u3,rfl⟩
   | some t=>
    obtain⟨Z,P,z⟩:=t;symm;generalize power' m.size (2 * Z+P) (2 * Z+P+P+min (m.size - lo) U) m.size=pw
    refine Af (GP (DR (I:=λM c o=>c=(none,())/\Good m N o/\Stk lt (Ad o) (Ae o).toList 0 lo/\Up lt (Ad o) lo (lo+min (m.size - lo) U))
     ?_ (λc o h=>h) ⟨rfl,g3,k3,u3⟩) ?_)
    ·rintro x' c' o _ _ ⟨rfl,G,H,J⟩
     refine Af (HB ?_)
     by_cases L:(Ae o).size > 1
     ·rw[qX L]
      obtain⟨s2,T,R,S⟩:∃s2 T R,(Ae o)[(Ae o).size - 2]?=some (s2,T,R):=⟨_,_,_,getElem?_pos (Ae o) ((Ae o).size - 2) (by grind)⟩
      rw[S];symm
      by_cases ho:R<=pw
      ·rw[qX ho]
       exact Ag ⟨rfl,G,H,J⟩
      ·rw[qY ho]
       refine Af (JS C O G H (by ext) ∅ λuV g5 k5 M o5=>?_);exact Ag ⟨rfl,g5,k5,J.out o5 (.inr (by ext))⟩
     ·rw[qY L]
      exact Ag ⟨rfl,G,H,J⟩
    ·rintro c' o ⟨rfl,G,H,J⟩
     refine Af (De (Af (De (Ag ⟨lo+min (m.size - lo) U,rfl,⟨G.perm,G.kind,G.failed⟩,?_,by lia,by lia⟩))));rw[GS,W7];exact Stk.app.mpr ⟨lo,Stk.pw (f:=λx=>(x.fst,x.2.fst,pw)) (λx=>⟨rfl,rfl⟩) _ H,rfl,by omega,J,rfl⟩
  ·rw[qY hm]
   refine Af (HB ?_)
   cases hb:(Ae mi).back? with
   | none=>
    refine Af (De (Ag ⟨lo+n,rfl,⟨Y.perm,Y.kind,Y.failed⟩,?_,by grind,by grind⟩));rw[GS];exact Stk.app.mpr ⟨lo,k2,rfl,by omega,u2,rfl⟩
   | some t=>
    obtain⟨Z,P,z⟩:=t;symm;generalize power' m.size (2 * Z+P) (2 * Z+P+P+n) m.size=pw
    refine Af (GP (DR (I:=λM c o=>c=(none,())/\Good m N o/\Stk lt (Ad o) (Ae o).toList 0 lo/\Up lt (Ad o) lo (lo+n))
     ?_ (λc o h=>h) ⟨rfl,Y,k2,u2⟩) ?_)
    ·rintro x' c' o _ _ ⟨rfl,G,H,J⟩
     refine Af (HB ?_)
     by_cases L:(Ae o).size > 1
     ·rw[qX L]
      obtain⟨s2,T,R,S⟩:∃s2 T R,(Ae o)[(Ae o).size - 2]?=some (s2,T,R):=⟨_,_,_,getElem?_pos (Ae o) ((Ae o).size - 2) ∅⟩
      rw[S];symm
      by_cases ho:R<=pw
      ·rw[qX ho]
       exact Ag ⟨rfl,G,H,J⟩
      ·rw[qY ho]
       refine Af (JS C O G H ∅ ∅ λuV g5 k5 M o5=>?_);exact Ag ⟨rfl,g5,k5,J.out o5 (.inr ∅)⟩
     ·rw[qY L]
      exact Ag ⟨rfl,G,H,J⟩
    ·rintro c' o ⟨rfl,G,H,J⟩
     refine Af (De (Af (De (Ag ⟨lo+n,rfl,⟨G.perm,G.kind,G.failed⟩,?_,by lia,by lia⟩))));rw[GS,W7];exact Stk.app.mpr ⟨lo,Stk.pw (f:=λx=>(x.fst,x.2.fst,pw)) (λx=>⟨rfl,rfl⟩) _ H,rfl,by omega,J,rfl⟩
 case post=>
  rintro c sg ⟨rfl,g1,X⟩
  refine Af (GP (DR (I:=λx c o=>c=(none,())/\Good m N o/\Stk lt (Ad o) (Ae o).toList 0 m.size/\((Ae o).size<=1∨(Ae o).size+x<=m.size))
   (Q:=λc o=>c=(none,())/\Good m N o/\Stk lt (Ad o) (Ae o).toList 0 m.size/\(Ae o).size<=1) ?_ ?_ ?_) ?_)
  ·rintro x c o _ _ ⟨rfl,G,H,d⟩
   refine Af (HB ?_)
   by_cases L:(Ae o).size<=1
   ·rw[qX L]
    exact Ag ⟨rfl,G,H,L⟩
   ·rw[qY L]
    refine Af (JS C O G H (AN _) (iM (by ext)) λuV g5 k5 z5 o5=>?_);exact Ag ⟨rfl,g5,k5,.inr (by grind)⟩
  ·rintro c o ⟨rfl,G,H,d⟩
   exact⟨rfl,G,H,by lia⟩
  ·refine⟨rfl,g1,X,.inr ?_⟩
   have:=X.le;ext
  ·rintro c o ⟨rfl,G,H,d⟩
   refine Ag (h o G ?_);generalize hl:(Ae o).toList=l at H
   have hd:l.length<=1:=by rw[<-hl];simpa using d
   match l,H,hd with
   | [],H,_=>exact λi j h1 h2 h3=>by have:(0:Nat)=m.size:=H;lia
   | [(s,n,_)],⟨e1,_,u,S⟩,_=>
    have S:=S;rw[S,e1]at u;exact u
end
noncomputable def ltL:ZLi->ZLi->Bool
 | [],[]=>false
 | [],_ :: _=>true
 | _ :: _,[]=>false
 | x :: l,y :: m=>if x=y then ltL l m else decide (x < y)
theorem QH:∀x y,ltL x y=true->ltL y x=false
 | [],[],h=>by cases h
 | [],_ :: _,_=>rfl
 | _ :: _,[],h=>by cases h
 | x :: l,y :: m,h=>by
  unfold ltL at h ⊢
  by_cases e:x=y
  ·rw[qX e]at h;rw[qX e.symm];exact QH l m h
  ·rw[qY e]at h;rw[qY (CO e)];simp at h ⊢;lia
theorem TM:∀x y z,ltL y x=false->ltL z y=false->ltL z x=false
 | [],y,[],_,_=>rfl
 | [],[],_ :: _,_,_=>rfl
 | [],_ :: _,_ :: _,_,_=>rfl
 | x :: A,[],z,h,_=>by cases h
 | _,y :: B,[],_,h=>by cases h
 | x :: A,y :: B,z :: E,l,m=>by
  unfold ltL at l m ⊢
  by_cases o:y=x
  ·rw[qX o]at l
   subst o
   by_cases w:z=y
   ·rw[qX w]at m ⊢
    exact TM A B E l m
   ext
  ·rw[qY o]at l
   by_cases w:z=y
   ·ext
   ·rw[qY w]at m
    by_cases C:z=x
    ·subst C;simp at l m;lia
    ·rw[qY C];simp at l m ⊢;grind
theorem Xo:∀x y,ltL x y=false->ltL y x=false->x=y
 | [],[],_,_=>rfl
 | [],_ :: _,h,_=>by cases h
 | _ :: _,[],_,h=>by cases h
 | x :: o,y :: w,l,m=>by
  unfold ltL at l m
  by_cases e:x=y
  ·rw[qX e]at l;rw[qX e.symm]at m;rw[e,Xo o w l m]
  ·rw[qY e]at l;rw[qY (CO e)]at m;simp at l m;lia
def ltK(f:AD->ZLi)(x y:BA):Bool:=ltL (f x.1) (f y.1)
theorem gy(f:AD->ZLi)(U:BA->Prop):Ord U (ltK f):=⟨λx y G G h=>QH _ _ h,λx y z G G G l m=>TM _ _ _ l m⟩
section
theorem WQ(o:Bool)(h:Q (decide (a < b)) s):AZ (AY prog w) A (oneLt' o (.int a t) (.int b u)) Q E s:=by
 cases o with
 | true=>exact oneLt_int h
 | false=>
  rw[oneLt'_eq];exact AA (wpAny_lt_int (CL h))
def Wu(s:AK)(v:AD)(m:ZLi):Prop:=∃a l,v=.ref a/\s.heap.IsTuple a l/\Fq l.toList m
noncomputable def qm(o:Bool):(AD×AD)×Nat->Option Bool×Unit->Sem (ForInStep (Option Bool×Unit)):=λe G=>match e with
 | ((p,q),i)=>eqBool p q >>= λc=>if (!c)=true then oneLt' (o&&i==0) p q >>= λb=>pure (.done (some b,()))else pure (.yield (none,()))
theorem cL(o:Bool)(x y:AD):keyLt' (nT o) x y=(II x >>= λr=>II y >>= λq=>forIn (r.toList.zip q.toList).zipIdx ((none,()):Option Bool×Unit) (qm o) >>= λz=>match z.1 with
  | some b=>pure b
  | none=>pure (decide (r.size < q.size))):=by kernel_rfl
theorem dE(o:Bool):∀{is B:List AD} {H I:ZLi} (k:Nat) {Q:Bool->AK->Prop},Fq is H->Fq B I->Q (ltL H I) s ->
  AZ (AY prog w) A (forIn ((is.zip B).zipIdx k) ((none,()):Option Bool×Unit) (qm o) >>= λz=>match z.1 with
   | some b=>pure b
   | none=>pure (decide (n0+is.length < n0+B.length))) Q E s:=by
 intro is
 induction is with
 | nil=>
  intro B H I k Q C G l;cases C;rw[List.zip_nil_left,d0,GW];refine AA (AC (AC ?_))
  cases G with
  | nil=>simpa[ltL]using l
  | cons m t h=>simpa[ltL]using l
 | cons v is J=>
  intro B H I k Q C G l
  cases C with
  | cons n t C=>
   cases G with
   | nil=>
    rw[List.zip_nil_right,d0,GW];refine AA (AC (AC ?_));rw[wY ∅];exact l
   | cons m u G=>
    rw[IG,List.zipIdx_cons,D0];rw[bind_assoc];unfold ltL at l;refine AA ?_;refine AA (oE ?_)
    by_cases e:n=m
    ·rw[qX e]at l
     rw[qY (by simp[e])];refine AC ?_;have:=J (k+1) C G l;ext
    ·rw[qY e]at l
     rw[qX (by simp[e])];refine AA (WQ _ (AC ?_));exact AA (AC (AC l))
end
section
theorem NX(h:Wu s v B):∃l:Array AD,Fq l.toList B/\s.TypeIs v "tuple"/\∀(E:AD->AK->Prop) (Q:Array AD->AK->Prop),Q l s->AZ (AY prog w) A (II v) Q E s:=by
 obtain⟨a,l,rfl,⟨o,m,C,n,G⟩,H⟩:=h;exact⟨l,H,⟨o,m,C⟩,λE Q q=>listItems_at m G q⟩
theorem ie(o:Bool)(l:Wu s x m)(B:Wu s y C)(h:Q (ltL m C) s):AZ (AY prog w) A (keyLt' (nT o) x y) Q E s:=by
 obtain⟨r,G,_,wr⟩:=NX l;obtain⟨q,H,_,I⟩:=NX B;rw[cL];refine AA (wr E _ (AA (I E _ ?_)));have:=dE (prog:=prog) (w:=w) (A:=A) (E:=E) (n0:=0) o 0 G H h;ext
theorem ZF(h:Wu s v (n :: B))(C:∀t,Q (some (.int n t)) s):AZ (AY prog w) A (YK v) Q E s:=by
 obtain⟨r,m,ty,wr⟩:=NX h;refine(AA (Iq ty ?_):AZ _ _ (YK v) Q E s);refine(?_);rw[qY (by decide)];refine AA (wr E _ (AC ?_));generalize o:r.toList=l at m
 cases m with
 | cons _ t G=>
  have:r[0]?=some (.int n t):=by
   rw[<-CF,o];rfl
  ext
theorem QT:∀{vs:List AD},(∀v∈vs,∃n l,Wu s v (n :: l))->∀{Q:List (Option AD)->AK->Prop},(∀is l,Fq is l->is.length=vs.length->Q (is.map some) s)->AZ (AY prog w) A (vs.mapM YK) Q E s
 | [],_,Q,h=>by
  rw[List.mapM_nil];exact AC (h [] [] .nil rfl)
 | v :: vs,m,Q,h=>by
  obtain⟨n,l,o⟩:=m v AW;rw[List.mapM_cons];refine AA (ZF o λt=>AA (QT (λv B=>m v (AM _ B)) λis C G H=>AC ?_));exact h (.int n t :: is) (n :: C) (.cons n t G) ∅
theorem TH(h:Fq is l)(m:is≠[]):oneTypeOnly' is.toArray=pure (some (.type "int")):=by
 rw[oneTypeOnly'_eq,Zu,mapM_typeOf_ints h];simp only[map_pure,pure_bind]
 cases is with
 | nil=>trivial
 | cons v is=>
  simp
theorem cJ(m:∀v∈vs,∃n l,Wu s v (n :: l))(G:vs≠[])(h:Q (nT true) s):AZ (AY prog w) A (keyKind' vs.toArray) Q E s:=by
 rw[keyKind'_eq,Zu];refine AA ?_;rw[map_eq_pure_bind];refine AA (QT m λis l o H=>AC ?_)
 have B:((is.map some).toArray.all λx=>x.isSome)=true:=by simp
 rw[qX B];refine AA (JO ?_)
 have C:(is.map some).toArray.filterMap id=is.toArray:=by simp
 rw[C,TH o (by grind)];refine AA (AC (AC ?_));exact h
end
section
theorem Gn(h:x∈L1 vs):x.1∈vs/\x.1=x.2:=by
 have:x∈(L1 vs).toList:=BB.mpr h;rw[pairsOf_toList]at this;exact⟨(mem_zip_self this).2,(mem_zip_self this).1⟩
theorem Yx(vs:List AD):(L1 vs).map (·.2)=vs.toArray:=by
 apply Array.ext'
 rw[G4,pairsOf_toList];simp[List.map_snd_zip]
def To(prog:Al)(w:A1)(A:BP)(s:AK)(vs:List AD)(f:AD->ZLi):Prop:=
 ∃l:NJ,(∀(Q:NJ->AK->Prop) (E:AD->AK->Prop),Q l s->AZ (AY prog w) A (keyKind' vs.toArray) Q E s)/\Jx prog w A s (L1 vs) l (ltK f)
theorem Ly(I:s.heap.get? a=some (Hh "list" vs.toArray n)) (hz:vs.length<=sizeLine)
  (U:2<=vs.length->∀s':AK,(∀b o,b≠a->s.heap.get? b=some o->s'.heap.get? b=some o)->To prog w A s' vs f)
  (h:∀out:Array AD,out.toList.Perm vs->out.toList.Pairwise (λx y=>ltL (f y) (f x)=false)->P (.done (.ret .none)) { s with heap:=Ve s.heap a vs out }) :
  AZ (AY prog w) A (Builtin.«list.sort» ⟨[.ref a],[]⟩) P E s:=by
 have ha:=AX I
 have X:vs.toArray.size=vs.length:=by simp
 obtain⟨O,H⟩:∃O,(s.heap.update a (Ec λM=>#[])).get? a=some (Hh "list" #[] O):=⟨_,get?_update_seq I (λM=>#[])⟩
 have J:(((s.heap.update a (Ec λM=>#[])).push (Hh "tuple" vs.toArray 0)).push (Hh "list" #[] 0)).get? a=some (Hh "list" #[] O):=
  AG _ (AG _ H)
 have R:∀b o,b≠a->s.heap.get? b=some o->(((s.heap.update a (Ec λM=>#[])).push (Hh "tuple" vs.toArray 0)).push (Hh "list" #[] 0)).get? b=some o:=λb o hb Y=>
  AG _ (AG _ (by rw[YT _ _ _ _ hb];exact Y))
 have fin:∀m:A3,(Ad m).Perm (L1 vs)->(Ad m).toList.Pairwise (Rl (ltK f))->P (.done (.ret .none)) { s with heap:=Ve s.heap a vs ((Ad m).map (·.2)) }:=by
  intro m G L
  have B:∀x∈(Ad m).toList,x.1=x.2:=λx S=>by
   have:x∈(L1 vs).toList:=(E6.mp G).mem_iff.mp S;exact(Gn (BB.mp this)).2
  refine h _ ?_ ?_
  ·have:=(E6.mp G).map (·.2)
   rw[<-G4,<-G4,Yx]at this
   omega
  ·rw[G4,BN]
   refine L.imp_of_mem λ{x y} S Z r=>?_
   rw[<-B x S,<-B y Z];exact r
 have last:∀m:A3,(Ad m).Perm (L1 vs)->IC m=none->(Ad m).toList.Pairwise (Rl (ltK f))->(((Ad m).map (·.2)).size<=sizeLine+1):=λm G M M=>by
  rw[eR,G.size_eq,pairsOf_size]
  lia
 rw[list_sort_plain];refine AA (listItems_at I rfl (AA (YJ I rfl (AA (dk H rfl (AA (wpAny_newTuple (AA (YF (Cp ?_)))))) ) (by assumption) (Bc _))));symm
 by_cases N:vs.toArray.size < 2
 ·rw[qX N,qX N]
  refine AA (AC ?_);rw[StateT.run_pure]
  have ϱ:(Ad (IA Vj (vs.toArray.zip vs.toArray) #[] 7 none)).toList.Pairwise (Rl (ltK f)):=by
   have:(Ad (IA Vj (vs.toArray.zip vs.toArray) #[] 7 none)).toList.length < 2:=by
    rw[Ac];show(L1 vs).size < 2;rw[pairsOf_size];omega
   generalize (Ad (IA Vj (vs.toArray.zip vs.toArray) #[] 7 none)).toList=l at this
   match l,this with
   | [],_=>exact .nil
   | [x],_=>grind
   | _ :: _ :: _,h=>simp at h;lia
  refine AA (AC (AA (dk J rfl (AA (YJ J rfl ?_ (Bc _) (last (IA Vj (vs.toArray.zip vs.toArray) #[] 7 none) (ND _) rfl ϱ))))));simp only[bne_self_eq_false,A5,if_false];exact AC (fin (IA Vj (vs.toArray.zip vs.toArray) #[] 7 none) (ND _) ϱ)
 ·rw[qY N,qY N]
  obtain⟨κ,kk,C⟩:=U (by ext) { s with heap:=((s.heap.update a (Ec λM=>#[])).push (Hh "tuple" vs.toArray 0)).push (Hh "list" #[] 0) } R;refine AA (kk _ _ ?_)
  refine AA (DP (Srt.wpS_sortRuns
   (Q:=λM m=>(Ad m).Perm (L1 vs)/\IC m=none/\(Ad m).toList.Pairwise (Rl (ltK f))) C (gy f _) ⟨ND _,rfl,rfl⟩ rfl λm g u=>⟨g.perm,g.failed,?_⟩) ?_ λM M e=>e)
  ·have:=ai (AN _) (by rw[g.size];exact u)
   ext
  rintro⟨⟨⟩,m⟩ s' ⟨rfl,G,T,L⟩;refine AA (dk J rfl (AA (YJ J rfl ?_ (Bc _) (last m G T L))));rw[T];simp only[bne_self_eq_false,A5,if_false];exact AC (fin m G L)
theorem Yi(h:∀v∈vs,Wu s v (f v)/\f v≠[])(l:vs≠[]):To prog w A s vs f:=
 ⟨nT true,λQ E q=>cJ (λv m=>by
  obtain⟨C,G⟩:=h v m
  cases e:f v with
  | nil=>trivial
  | cons n H=>grind) l q,λx y o B Q E q=>ie true (h _ (Gn o).1).1 (h _ (Gn B).1).1 q⟩
noncomputable def bu(v:AD):ZLi:=[numOf v]
set_option tactic.hygienic true in
theorem Yj(h:Fq vs H)(B:2<=vs.length):To prog w A s vs bu:=by
 refine⟨oneType',λQ E q=>?_,λx y C G Q E q=>?_⟩
 ·match vs,B,h with
  | v :: u :: r,_,h=>rw[keyKind_ints h];exact AC q
 ·obtain⟨n,t,l⟩:=h.all _ (Gn C).1
  obtain⟨m,u,o⟩:=h.all _ (Gn G).1;rw[keyLt'_oneType,l,o];refine oneLt_int ?_
  have:ltK bu x y=decide (n < m):=by
   unfold ltK bu;rw[l,o];show(if n=m then false else decide (n < m))=_;split
   ·rename_i e;simp[e]
   ·rfl
  ext
end
def RV(h:BI)(d:AL)(es:Array LZ)(ep:Nat):Prop:=∃o,h.get? d=some o/\o.ExactDict/\o.data=.dict es ep
theorem RV.at'(x:RV h d es ep)(e:∀o,h.get? d=some o->h'.get? d=some o):RV h' d es ep:=let ⟨o,l,r⟩:=x;⟨o,e _ l,r⟩
theorem RV.ty{s:AK}{d:AL}{es:Array LZ}{ep:Nat}(x:RV s.heap d es ep):s.TypeIs (.ref d) "dict":=let ⟨o,l,m,_⟩:=x;⟨o,l,m.1⟩
section
theorem P2{Q:AD->AK->Prop}(G:(d==B0)=false)(m:RV s.heap d es ep)
  (H:Q (.ref s.heap.objs.size) { s with heap:=s.heap.push { cls:=.type "dict_keyiterator",data:=.fields #[.ref d,.int 0 0,.int es.size 0,.int ep 0] } }):AZ (AY prog w) A (PM (.ref d)) Q E s:=by
 have l:=m.ty;obtain⟨o,B,I,C⟩:=m;refine Qx l SR (BL SR l PySem.F.entry_dict_iter ?_ (PySem.F.args_dict_iter_1 _));unfold Builtin.«dict.__iter__»;refine AA ?_;unfold rh;refine AA (wpAny_notOrdered_dict l (AC ?_));refine(show AZ _ _ (PU d >>= _) _ _ s from ?_);unfold PU;rw[qY (by simp[G])];refine AA (AC (AA (J8 B C (AA (T4 B C (AA (BD (AC ⟨_,rfl, "dict_keyiterator",_,⟨_,AQ _ rfl,rfl⟩,Ci.lookup,?_⟩))))))))
 assumption
theorem Uh(l:s.heap.IsKeyIter it d i es.size ep)(I:RV s.heap d es ep)(hi:i < es.size)
  (J:∀h',h'.IsKeyIter it d (i+1) es.size ep->DM it s.heap h'->Q (some es[i].key) { s with heap:=h' }):AZ (AY prog w) A (F3 (.ref it)) Q E s:=by
 obtain⟨o,B,L,m⟩:=id l;obtain⟨N,C,O,G⟩:=I;unfold F3;refine AA (FD (BM l.typeIs Ci (BL Ci l.typeIs Lg (AA (AC (AA (AA ?_)))) (LY _))))
 first | refine AA (El l.typeIs (AC (AA (Eb B m ?_)))) | refine AA (GQ l.typeIs (AC (AA (Eb B m ?_))))
 refine(show AZ _ _ (if (AV d==C0)=true then _ else _) _ _ s from ?_);rw[qY (λz:(AV d==C0)=true=>Av z)];refine AA (AC (AA (J8 C G ?_)));rw[qY (by ext)];refine AA (AC (AA (T4 C G ?_)));rw[qY (by ext)];refine AC ?_;simp only[show ¬((i:Int) < 0) by ext,if_false,Ay,Bq hi];refine AA ?_
 first | refine AA (El l.typeIs (AC (AA (MU l.typeIs ?_)))) | refine AA (GQ l.typeIs (AC (AA (MU l.typeIs ?_))))
 refine(show AZ _ _ (setField (.ref it) 1 (SM ((i:Int)+1)) >>= _) _ _ s from ?_);have H:(s.heap.update it (Obj.mapFields (·.setIfInBounds 1 (SM ((i:Int)+1))))).IsKeyIter it d (i+1) es.size ep:=⟨_,Ch _ B (W4 (IW m _)),(dY ..).trans L,by rw[IW m];simp[SM]⟩;refine AA (HC B m ∅ (AA (Cp (AA (MU H.typeIs ?_)))));exact(AC (AC ⟨_,rfl,AC (J _ H (B4 ..))⟩))
theorem Xd(H:A.handled=none)(l:s.heap.IsKeyIter it d i es.size ep)(I:RV s.heap d es ep)(hi:es.size<=i)
  (J:∀h',Ll it s.heap h'->Q none { s with heap:=h' }):AZ (AY prog w) A (F3 (.ref it)) Q E s:=by
 obtain⟨o,m,L,B⟩:=id l;obtain⟨N,C,O,G⟩:=I;unfold F3;refine AA (FD (BM l.typeIs Ci (BL Ci l.typeIs Lg (AA (AC (AA (AA ?_)))) (LY _))))
 first | refine AA (El l.typeIs (AC (AA (Eb m B ?_)))) | refine AA (GQ l.typeIs (AC (AA (Eb m B ?_))))
 refine(show AZ _ _ (if (AV d==C0)=true then _ else _) _ _ s from ?_);rw[qY (λz:(AV d==C0)=true=>Av z)];refine AA (AC (AA (J8 C G ?_)));rw[qY (by ext)];refine AA (AC (AA (T4 C G ?_)));rw[qY (by ext)];refine AC ?_;simp only[show ¬((i:Int) < 0) by ext,if_false,Ay,J1 hi];refine AA ?_
 first | refine AA (El l.typeIs (AC (show AZ _ _ (setField (.ref it) 0 .none >>= _) _ _ s from ?_))) | refine AA (GQ l.typeIs (AC (?_)))
 refine AA (HC m B ∅ (AA ?_));refine AA (BD (AA (J7 (by first | rfl | (simp only[NG];rfl)) (BD ?_ (by size_fits)))) (by size_fits));refine AA (Oh ?_);rw[show A.in1.handled=none from H];refine AA (AC (Tr ?_));refine AA (Dt ⟨_,AQ _ rfl,rfl⟩ NF (AC ?_));exact J _ (((B4 ..).extBut.push _).push _)
theorem Yq(G:A.handled=none)(I:AL)(H:d≠I):Walks prog w A I [I,d] [I] es.size (λi v=>∃h:i < es.size,v=es[i].key) (λi h=>h.IsKeyIter I d i es.size ep/\RV h d es ep) where
 sub:=λx N=>by ext
 frame:=λM M M st keep=>⟨st.1.at λo e=>keep I ∅ o e,st.2.at' λo e=>keep d ∅ o e⟩
 item:=λi s Q E C st l=>Uh st.1 st.2 C λB J m=>l _ B s.toks ⟨C,rfl⟩ ⟨J,st.2.at' λo e=>m.extBut d o H e⟩ λb o hb e=>m.extBut b o (λh=>hb (by simp[h])) e
 done:=λs Q E st l=>Xd G st.1 st.2 (AN _) λB L=>l B s.toks λb o hb e=>L b o (λh=>hb (by simp[h])) e
 self:=λM M M M st l=>dh st.1 l
theorem Xc(lo:(d==B0)=false):PySem.W.KdlSrc prog w "dict" d d es.size (λi v=>∃h:i < es.size,v=es[i].key) (λh=>RV h d es ep) where
 type:=λG l=>l.ty
 there:=λG l=>⟨let ⟨_,m,_⟩:=l;AX m,let ⟨_,m,_⟩:=l;AX m⟩
 keep:=λG G l B=>l.at' λo e=>B d (.inl rfl) o e
 notList:=by decide
 notTuple:=by decide
 hint:=λG G G G l A=>PySem.W.kdl_hint_dict l.ty A
 iter:=λG G C l=>⟨_,_,(λG G A=>P2 lo l A),Yq C _ (Ao (let ⟨_,m,_⟩:=l;AX m)),⟨⟨_,AQ _ rfl,rfl,rfl⟩,l.at' λo e=>AG _ e⟩⟩
end
end Srt
namespace L2
open Srt (ltL)
theorem ON{E G:Type}{R:E->G->Prop}{H m:List G}(p:H.Perm m):∀{l1:List E},Er R l1 H->∃o,Er R o m/\o.Perm l1:=by
 induction p with
 | nil=>intro l1 h;cases h;exact⟨[],.nil,.refl _⟩
 | cons x _ I=>
  intro l1 h
  cases h with
  | cons r t=>
   obtain⟨J,w,A⟩:=I t;exact⟨_ :: J,.cons r w,A.cons _⟩
 | swap x y l=>
  intro l1 h
  cases h with
  | cons r t=>
   cases t with
   | cons L t=>exact⟨_ :: _ :: _,.cons L (.cons r t),YS _ _ _⟩
 | trans _ _ B C=>
  intro l1 h;obtain⟨a,w,A⟩:=B h;obtain⟨b,N,O⟩:=C w;exact⟨b,N,O.trans A⟩
theorem Jb{l m w:Type}{R:l->m->Prop}{f:l->w}{g:m->w}:∀{o:List l} {A:List m},Er R o A->(∀a∈o,∀b,R a b->g b=f a)->A.map g=o.map f
 | _,_,.nil,_=>rfl
 | _,_,.cons r t,h=>by rw[Ai,Ai,h _ AW _ r,Jb t λa B=>h a (AM _ B)]
theorem QB{m l:Type}{R:m->l->Prop}:∀{o:List m} {w:List l} {b:l},Er R o w->b∈w->∃a∈o,R a b
 | _,_,_,.nil,h=>nomatch h
 | _,_,b,.cons r t,h=>by
  rcases Aj.mp h with h | h
  ·ext
  ·obtain⟨a,A,e⟩:=QB t h
   exact⟨a,AM _ A,e⟩
noncomputable def RJ:V->Int
 | .int n=>n
 | _=>0
def bF(H:Hp):AD->ZLi
 | .int n _=>[n]
 | .ref b=>match H b with
  | some (.tup l)=>l.map RJ
  | _=>[]
 | _=>[]
theorem Ni(r:ZLi):(r.map V.int).map RJ=r:=by
 rw[Aw];exact(By λa G=>rfl).trans (nh r)
def nL(K:AB)(H:Hp)(p:AL)(G:List V->Prop):Prop:=
 (∃vs,(SqL K H p vs∨SqT K H p vs)/\G vs)∨(∃l,H p=some (.dK l)/\G (l.map λx=>kV x.1)) ∨
  ∃l,H p=some (.dT l)/\∀bs:List AL,Er (λ(k:List Key×V) b=>H b=some (.tup (k.1.map kV))) l bs->G (bs.map V.ref)
def SK(H:Hp)(f:V->ZLi)(vs:List V):Prop:=(∀v∈vs,∃n,v=.int n/\f v=[n])∨∀v∈vs,∃b,v=.ref b/\H b=some (.tup ((f v).map V.int))/\f v≠[]
def pq(K:AB):List V->Hp->VK->Prop:=λm H Q=>∃p,m=[.ref p]/\nL K H p λvs=>∃f:V->ZLi,SK H f vs /\
 ∀out,out.Perm vs->out.Pairwise (λx y=>ltL (f y) (f x)=false)->∀l,H l=none->Q (.ref l) (upd H l (.lst out))
theorem SK.rel(h:SK H f vs):∀v∈vs,∀u,RelV v u->bF H u=f v:=λv l u r=>by
 rcases h with h | h
 ·obtain⟨n,rfl,e⟩:=h v l
  obtain⟨t,rfl⟩:=r;exact e.symm
 ·obtain⟨b,rfl,e,_⟩:=h v l
  cases r;show(match H b with | some (.tup m)=>m.map RJ | _=>[])=_;rw[e];exact Ni _
theorem UZ(hc:X.calm=true)(I:Inv X ζ σ H s)(h:nL X.K H p G) :
  ∃vs J,G vs/\Bp vs J/\J.length<=sizeLine/\∀(R:List AD->AK->Prop) (E:AD->AK->Prop),(∀(g:BI) (Y:Nat),(∀b o,s.heap.get? b=some o->g.get? b=some o)->R J { s with heap:=g,toks:=Y })->AZ (AY X.prog X.w) X.A.in1 (collect (.ref p)) R E s:=by
 have hh:=I.ok.hd hc
 rcases h with⟨vs,sq,g⟩ | ⟨m,e,g⟩ | ⟨m,e,g⟩
 ·rcases sq with sq | sq
  ·obtain⟨J,T,pl,P⟩:=I.list sq
   refine⟨vs,J,g,T,by rw[<-T.length];exact P,λR E k=>collect_list pl.isList (k _ s.toks λb o e=>?_) (by rw[<-T.length];exact P)⟩;rw[YT _ _ _ _ (Ao (AX e))];exact AG _ e
  ·obtain⟨J,T,⟨o,ho,tS,n,hd⟩,P⟩:=I.tuple sq
   have Z:J.length<=sizeLine:=by rw[<-T.length];exact P
   exact⟨vs,J,g,T,Z,λR E k=>wpAny_collect_seq p (.inr rfl) ho tS hd (λh' kp=>by simpa using k h' s.toks kp) (by simpa using Z)⟩
 ·obtain⟨P,sm,us,kv,o,C,ep,g1,g2,g3,g5,g6,_⟩:=(I.hok p _ e)
  have hlen:C.size=m.length:=by
   have a1:=g6.length;have a2:=Cw kv;rw[Ac]at a1
   ext
  have hv:Bp (m.map λx=>kV x.1) (C.toList.map (·.key)):=by
   have Q:∀{l:List LZ} {us:List (Key×AD)} {m:List (Key×V)},Pairs (Dm X.prog X.w) l us->KV m us->Bp (m.map λx=>kV x.1) (l.map (·.key)):=by
    intro l us m hp
    induction hp generalizing m with
    | nil=>intro h;cases h;exact .nil
    | cons q1 q2 _ ih=>
     intro h
     cases h with
     | cons r t=>
      refine .cons ?_ (ih t);symm;rw[r.1]
      rcases DK q1 with⟨i,t,e1,U⟩ | ⟨x,t,e1,U⟩
      ·rw[e1,U];exact⟨t,rfl⟩
      ·rw[e1,U];exact⟨t,rfl⟩
   exact Q g6 kv
  refine⟨_,C.toList.map (·.key),g,hv,by ext,λR E k=>?_⟩
  refine VV (Srt.Xc sm) hh ⟨o,g1,g2,g3⟩ (by ext) λg' Y B kp S=>?_
  have:B.toList=C.toList.map (·.key):=by
   apply D5
   intro j
   by_cases L:j < C.size
   ·have N:j < B.size:=by rw[S.1];exact L
    obtain⟨_,U⟩:=S.2 j B[j] (by simp[N]);ext
   ·have N:¬j < B.size:=by rw[S.1];exact L
    simp[L,N]
  rw[this];exact k g' Y kp
 ·obtain⟨P,sm,O,rr,o,C,ep,g1,g2,g3,g4,_⟩:=(I.hok p _ e)
  have hlen:C.size=m.length:=by
   have a1:=congrArg Dg g4;have a2:=Cw rr;rw[Ac,AF]at a1
   ext
  have hb:Er (λ(k:List Key×V) b=>H b=some (.tup (k.1.map kV))) m (O.map (·.2.1)):=by
   have Q:∀{m:List (List Key×V)} {O:List (List Key×AL×AD)},Er (λ(p:List Key×V) (q:List Key×AL×AD)=>p.1=q.1/\H q.2.1=some (.tup (p.1.map kV))/\RelV p.2 q.2.2) m O->Er (λ(k:List Key×V) b=>H b=some (.tup (k.1.map kV))) m (O.map (·.2.1)):=by
    intro m O h
    induction h with
    | nil=>exact .nil
    | cons r _ ih=>exact .cons r.2.1 ih
   exact Q rr
  have hk:C.toList.map (·.key)=(O.map (·.2.1)).map AV:=by
   rw[g4,Aw,Aw];rfl
  have hv:∀l:List AL,Bp (l.map V.ref) (l.map AV):=λl=>by
   induction l with
   | nil=>exact .nil
   | cons a l ih=>exact .cons rfl ih
  refine⟨_,(O.map (·.2.1)).map AV,g _ hb,hv _,by rw[AF,AF,<-Cw rr];exact P,λR E k=>?_⟩
  refine VV (Srt.Xc sm) hh ⟨o,g1,g2,g3⟩ (by ext) λg' Y B kp S=>?_
  have:B.toList=(O.map (·.2.1)).map AV:=by
   rw[<-hk]
   apply D5
   intro j
   by_cases L:j < C.size
   ·have N:j < B.size:=by rw[S.1];exact L
    obtain⟨_,U⟩:=S.2 j B[j] (by simp[N]);simp[L,N,U]
   ·have N:¬j < B.size:=by rw[S.1];exact L
    simp[L,N]
  rw[this];exact k g' Y kp
theorem OI{X:Cx}{s:AK}{H:Hp}{f:V->ZLi}{vs:List V}{l:List AD}(I:∀b xs,H b=some (.tup xs)->∃is:List AD,Bp xs is/\eE s.heap b is.toArray)(h:SK H f vs)(J:Bp vs l)(O:2<=l.length){A:BP}:Srt.To X.prog X.w A s l (bF H):=by
 rcases id h with P | R
 ·have:∃ns,Fq l ns:=by
   have G:∀{vs:List V} {l:List AD},Bp vs l->(∀v∈vs,∃n,v=.int n/\f v=[n])->∃ns,Fq l ns:=by
    intro vs l r
    induction r with
    | nil=>exact λM=>⟨[],.nil⟩
    | cons r _ S=>
     intro B
     obtain⟨ns,C⟩:=S λv T=>B v (AM _ T)
     obtain⟨n,rfl,_⟩:=B _ AW;obtain⟨t,rfl⟩:=r;exact⟨n :: ns,.cons n t C⟩
   exact G J P
  obtain⟨ns,C⟩:=this;obtain⟨U,Y,Z⟩:=Srt.Yj C O;refine⟨U,Y,λx y L N Q E q=>Z x y L N Q E ?_⟩;obtain⟨n,t,e1⟩:=C.all _ (Srt.Gn L).1;obtain⟨m,u,e2⟩:=C.all _ (Srt.Gn N).1
  have e:Srt.ltK Srt.bu x y=Srt.ltK (bF H) x y:=by
   unfold Srt.ltK Srt.bu;rw[e1,e2];rfl
  ext
 ·refine Srt.Yi (λu hu=>?_) (by intro e;ext)
  obtain⟨v,B,r⟩:=QB J hu;rw[h.rel v B u r];obtain⟨b,rfl,e,ne⟩:=R v B;cases r;refine⟨⟨b,?_⟩,ne⟩;obtain⟨is,r,o,ho,tS,n,hd⟩:=I b _ e;exact⟨is.toArray,rfl,⟨o,ho,tS,n,hd⟩,by simpa using intsAre_of r⟩
theorem ZP{X}(P:X.calm=true):G8 X (.builtin "sorted") (pq X.K):=by
 intro S s T H U us Q I r h;obtain⟨p,rfl,B⟩:=h;obtain⟨u,rfl,Y⟩:=vals1 r;cases Y;obtain⟨vs,w,⟨f,l,q⟩,C,E,col⟩:=UZ P I B;refine IZ kind_sorted plain_sorted entry_sorted (args_sorted1 _) ?_;unfold Builtin.«sorted»;refine AA (AC (AA (col _ _ λg L kp=>?_)));refine AA (YF ?_ E);have G:Inv X S T H { s with heap:=g,toks:=L }:=I.kept kp;have J:(g.push (Hh "list" w.toArray 0)).get? g.objs.size=some (Hh "list" w.toArray 0):=AQ _ rfl;refine AA (Cp (BL slot_list_sort ⟨_,J,rfl⟩ rA (Srt.Ly (f:=bF H) J E (λZ s' keep=>?_) λout po so=>⟨_,rfl,AC ⟨_,rfl,?_⟩⟩) (args_list_sort _)))
 ·refine OI (λb U e=>?_) l C Z
  obtain⟨_,is,r,o,N,tS,n,hd⟩:=(G.hok b _ e);exact⟨is,r,o,keep b o (Ao (AX N)) (AG _ N),tS,n,hd⟩
 ·obtain⟨A,O,pv⟩:=ON po.symm C
  have zL:A.Pairwise (λx y=>ltL (f y) (f x)=false):=by
   have e:=Jb O λa ha b rb=>l.rel a (pv.mem_iff.mp ha) b rb
   have:=(BN (R:=λx y=>ltL y x=false)).mpr so;rw[e]at this;exact BN.mp this
  obtain⟨k,hk⟩:=sortedHeap_at J
  have m:A.length<=sizeLine:=by rw[pv.length_eq,C.length];exact E
  have I2:=G.laid (o:=.lst A) (t':=L) (h':=Ve (g.push (Hh "list" w.toArray 0)) g.objs.size w out)
   (λb u z=>by
    have lt:=AX z;rw[sortedHeap_old (Ao lt) (by rw[size_push'];exact D6 lt)]
    exact AG _ z) (AN _) ⟨m,out.toList,k,O,hk⟩
  exact⟨.ref g.objs.size,_,I2,rfl,q A pv zL _ (G.hok.fresh (AN _))⟩
noncomputable def CK(l:ZLi):ZLi:=l.mergeSort (λa b=>decide (a<=b))
@[simp] def oA:CK []=[]:=by unfold CK;simp
theorem D2(ns:ZLi):(CK ns).Perm ns:=YN ns _
theorem Pu(l:ZLi):(CK l).Pairwise (·<=·):=by
 have:=T8 (le:=λa b:Int=>decide (a<=b)) (by intro a b c m o;simp at m o ⊢;lia) (by intro a b;simp;lia) l
 exact this.imp λh=>by simpa using h
def IM(l:List ZLi):List ZLi:=l.mergeSort (λa b=>!ltL b a)
theorem Cz(rs:List ZLi):(IM rs).Perm rs:=YN rs _
theorem Ka(l:List ZLi):(IM l).Pairwise (λa b=>ltL b a=false):=by
 have:=T8 (le:=λa b:ZLi=>!ltL b a) (by intro a b c m o;simp at m o ⊢;exact Srt.TM _ _ _ m o) (by
  intro a b
  cases e:ltL b a with
  | false=>simp
  | true=>simp[Srt.QH _ _ e]) l
 exact this.imp λh=>by simpa using h
theorem LG{l l':List ZLi}(p:l.Perm l')(h:l.Pairwise (λa b=>ltL b a=false))(h':l'.Pairwise (λa b=>ltL b a=false)):l=l':=
 p.eq_of_pairwise (λa b G G m o=>Srt.Xo a b o m) h h'
noncomputable def cK:Key->D
 | .inl i=>.int i
 | .inr x=>.str x
noncomputable def Uf(r:ZLi):D:=.tup (r.map D.int)
def P0:List D->Option (List ZLi)
 | []=>some []
 | .tup l :: r=>match Kv l,P0 r with
  | some (n :: m),some o=>some ((n :: m) :: o)
  | _,_=>none
 | _ :: _=>none
def Kb(l:List D):Option (List D):=match Kv l with
 | some m=>some ((CK m).map D.int)
 | none=>match P0 l with
  | some o=>some ((IM o).map Uf)
  | none=>none
section
theorem iF(x y:Int):ltL [y] [x]=decide (y < x):=by
 show(if y=x then false else decide (y < x))=_;split
 ·ext
 ·rfl
def Ew(H:Hp):V->ZLi
 | .int n=>[n]
 | .ref b=>match H b with
  | some (.tup l)=>l.map RJ
  | _=>[]
 | _=>[]
set_option tactic.hygienic true in
theorem Pz{K}{ρ}{H}:∀{l:List D} {m:List ZLi} {vs:List V},P0 l=some m->A8 K ρ H l vs->vs.map (Ew H)=m/\∀v∈vs,∃b,v=.ref b/\H b=some (.tup ((Ew H v).map V.int))/\Ew H v≠[]
 | [],_,_,h,.nil=>by cases h;ext
 | .tup E :: l,m,_,h,.cons r t=>by
  unfold P0 at h;split at h
  ·rename_i n ns o w A
   cases h;obtain⟨G,I⟩:=Pz A t
   cases r with
   | @tup _ b J hb B=>
    have:=QQ w;subst this;have:=B.ints;subst this
    have e:Ew H (.ref b)=n :: ns:=by
     show(match H b with | some (.tup C)=>C.map RJ | _=>[])=_;rw[hb];exact Ni _
    ext
  ·cases h
 | .non :: _,_,_,h,_=>by cases h
 | .bl _ :: _,_,_,h,_=>by cases h
 | .int _ :: _,_,_,h,_=>by cases h
 | .str _ :: _,_,_,h,_=>by cases h
 | .fro _ :: _,_,_,h,_=>by cases h
 | .ref _ :: _,_,_,h,_=>by cases h
 | .exc _ :: _,_,_,h,_=>by cases h
theorem P1{K}{ρ}{H}:∀{vs:List V},(∀v∈vs,∃b,v=.ref b/\H b=some (.tup ((Ew H v).map V.int))/\Ew H v≠[])->A8 K ρ H ((vs.map (Ew H)).map Uf) vs
 | [],_=>.nil
 | v :: vs,h=>by
  obtain⟨b,e,hb,_⟩:=h v AW;refine .cons ?_ (P1 λu l=>h u (AM _ l));subst e;exact .tup hb (A8.of_ints _)
set_option tactic.hygienic true in
theorem av{K:AB}{ρ:List AL}{H:Hp}{B es:List D}{vs:List V}(h:Kb B=some es)(r:A8 K ρ H B vs) :
  ∃f:V->ZLi,SK H f vs/\∀out,out.Perm vs->out.Pairwise (λx y=>ltL (f y) (f x)=false)->A8 K ρ H es out:=by
 unfold Kb at h;split at h
 ·rename_i ns E
  cases h;have:=QQ E;subst this;have:=r.ints;subst this;refine⟨λv=>[RJ v],.inl λv l=>?_,λout m o=>?_⟩
  ·obtain⟨n,_,rfl⟩:=Ax.mp l
   exact⟨n,rfl,rfl⟩
  ·have G:out=(out.map RJ).map V.int:=by
    rw[Aw]
    conv=>lhs;rw[<-PR out]
    refine By λv l=>?_
    obtain⟨n,_,rfl⟩:=Ax.mp (m.mem_iff.mp l);rfl
   have w:out.map RJ=CK ns:=by
    have I:(out.map RJ).Perm (CK ns):=by
     have:=m.map RJ;rw[Ni]at this;exact this.trans (D2 ns).symm
    refine I.eq_of_pairwise (λa b M M J L=>Int.le_antisymm J L) ?_ (Pu ns);rw[BN]
    refine o.imp λ{x y} A=>?_
    rw[iF]at A;simp at A;exact A
   rw[G,w];exact A8.of_ints _
 ·split at h
  ·rename_i rs N
   cases h;obtain⟨O,C⟩:=Pz N r;refine⟨Ew H,.inr C,λout m o=>?_⟩
   have w:out.map (Ew H)=IM rs:=by
    refine LG ?_ (BN.mpr o) (Ka rs);have:=m.map (Ew H);rw[O]at this;exact this.trans (Cz rs).symm
   rw[<-w]
   exact P1 λv l=>C v (m.mem_iff.mp l)
  ·cases h
theorem keys_rel{K}{ρ}{H}:∀ks:List Key,A8 K ρ H (ks.map cK) (ks.map kV)
 | []=>.nil
 | .inl i :: ks=>.cons (.int i) (keys_rel ks)
 | .inr x :: ks=>.cons (.str x) (keys_rel ks)
theorem QM{K}{ρ}{H}:∀{kvs:List (Key×D)} {l:List (Key×V)},KVR K ρ H kvs l->A8 K ρ H (kvs.map λx=>cK x.1) (l.map λx=>kV x.1)
 | _,_,.nil=>.nil
 | (k,_) :: _,(m,_) :: _,.cons r t=>by
  have e:=r.1;subst e
  cases k with
  | inl i=>exact .cons (.int i) (QM t)
  | inr x=>exact .cons (.str x) (QM t)
theorem U6{K}{ρ}{H}:∀{kvs:List (List Key×D)} {l:List (List Key×V)} {bs:List AL},KVR K ρ H kvs l->Er (λ(k:List Key×V) b=>H b=some (.tup (k.1.map kV))) l bs->A8 K ρ H (kvs.map λx=>.tup (x.1.map cK)) (bs.map V.ref)
 | _,_,_,.nil,.nil=>.nil
 | (k,_) :: _,(w,_) :: _,_,.cons r t,.cons m o=>by
  have e:=r.1;subst e;exact .cons (.tup m (keys_rel k)) (U6 t o)
end
theorem TY{K}{t}(h:∀A∈["NoneType", "bool", "int", "str", "tuple", "list", "dict"],Df K (.type A) (.type t)=jZ t A):∀A b,isB t A=some b->Df K (.type A) (.type t)=some b:=λA b e=>by
 unfold isB at e
 grind
theorem Y7{K}:∀A b,isB "tuple" A=some b->Df K (.type A) (.type "tuple")=some b:=TY λA h=>by
 simp only[Aj,DG,or_false]at h
 rcases h with rfl | rfl | rfl | rfl | rfl | rfl | rfl <;> kernel_rfl
theorem cT{K}:∀A b,isB "list" A=some b->Df K (.type A) (.type "list")=some b:=TY λA h=>by
 simp only[Aj,DG,or_false]at h
 rcases h with rfl | rfl | rfl | rfl | rfl | rfl | rfl <;> kernel_rfl
theorem iN{K}:∀A b,isB "int" A=some b->Df K (.type A) (.type "int")=some b:=TY λA h=>by
 simp only[Aj,DG,or_false]at h
 rcases h with rfl | rfl | rfl | rfl | rfl | rfl | rfl <;> kernel_rfl
theorem cU{K}:∀A b,isB "bool" A=some b->Df K (.type A) (.type "bool")=some b:=TY λA h=>by
 simp only[Aj,DG,or_false]at h
 rcases h with rfl | rfl | rfl | rfl | rfl | rfl | rfl <;> kernel_rfl
def au(K:AB):Sp:=λvs H Q G=>∃(a:AL) (l:ZLi),vs=[.ref a]/\VQ K H a (l.map V.int)/\l.length<=63/\∀m,Q (.bl true) m
theorem frz_of{K:AB}{H:Hp}{a:AL}{l:ZLi}(m:io H)(w:SqL K H a (l.map V.int)):VQ K H a (l.map V.int):=by
 rcases w with(h | h) | h
 ·rcases m a with z | ⟨o,A,z⟩ <;> rw[z]at h <;> cases h
 ·exact .inl h
 ·exact .inr h
theorem nC(h:CXG P w [] H s (λG G G=>False) e s'):False:=by
 obtain⟨_,_,_,_,_,_,_,_,_,z⟩:=h;exact z
def Keeps(S S':Sto):Prop:=S.length<=S'.length/\∀j,j < S.length->S'[j]?=S[j]?
theorem Keeps.set(a:Keeps S l)(h:S.length<=m)(o:Ob):Keeps S (l.set m o):=⟨by simpa using a.1,λj w=>by rw[Cr ∅];exact a.2 j w⟩
theorem U3(h:S[n]?=some (.lst ds)):WX (.ref n) S=some ds:=by
 unfold WX;ext
end L2
namespace PySem
open PySem.Sem (wp)
set_option tactic.hygienic true in
theorem Ks(l:AL)(items:Array AD)(n:Nat)(C:Option AL)(E:Array (Option AD)) :
  Meets (Builtin.«enumerate.__new__» ⟨[.type "enumerate",.ref l],[]⟩) (λJ R s=>s.heap.get? l=some { cls:=.type "tuple",dict:=C,data:=.seq items n,slots:=E } /\
   R (.ok (.ret (.ref (s.heap.push { cls:=.type "tuple_iterator",data:=.fields #[.ref l,.int 0 0] }).objs.size)))
    { s with heap:=(s.heap.push { cls:=.type "tuple_iterator",data:=.fields #[.ref l,.int 0 0] }).push { cls:=.type "enumerate",data:=.fields #[.none,.bool false,.ref s.heap.objs.size,SM 0,.none,.none] } }):=
 .of_wp λB w A R s h=>by
  obtain⟨G,g,d,H,os⟩:=s;obtain⟨m,h⟩:=h;have I:=sub_enumerate;have o:BI.IsTuple (AK.heap ⟨G,g,d,H,os⟩) l items:=⟨_,m,rfl,n,rfl⟩
  wp_walk using FO m
  refine wpAny_stack_any λst=>AC ?_
  split
  ·rename_i c _ _ _ _ _
   cases(c==Fo "enumerate")
   ·wp_walk using FO m,Gc o
    exact⟨_,rfl,h⟩
   ·wp_walk using FO m,Gc o
    exact⟨_,rfl,h⟩
  ·wp_walk using FO m,Gc o
   exact⟨_,rfl,h⟩
section
variable{w:A1}{A:BP}{E:AD->AK->Prop}{s:AK}
theorem K2(I:s.heap.IsTuple l m)
  (h:∀h',SW h' (s.heap.objs.size+1) s.heap.objs.size 0 .none->h'.IsTupleIter s.heap.objs.size l 0->h'.objs.size=s.heap.objs.size+2 ->
   (∀b o,s.heap.get? b=some o->h'.get? b=some o)->Q (.ref (s.heap.objs.size+1)) { s with heap:=h' }) :
  AZ (AY prog w) A (call (.type "enumerate") [.ref l]) Q E s:=by
 obtain⟨⟨c,J,L,N⟩,O,B,n,C⟩:=I
 replace B:c=.type "tuple":=B
 replace C:L=.seq m n:=C
 subst B C
 refine callType_new F.called_enumerate (by rfl) (F.typeCall_enumerate_1 _) (F.newCall_enumerate_1 _) (λobj=>F.args_object_init_2 obj _) F.entry_enumerate_new
  (Ks l m n J N) ⟨O,?_⟩
 have G:(s.heap.push { cls:=.type "tuple_iterator",data:=.fields #[.ref l,.int 0 0] }).objs.size=s.heap.objs.size+1:=C2 ..;rw[G]
 have H:SW ((s.heap.push { cls:=.type "tuple_iterator",data:=.fields #[.ref l,.int 0 0] }).push
   { cls:=.type "enumerate",data:=.fields #[.none,.bool false,.ref s.heap.objs.size,SM 0,.none,.none] }) (s.heap.objs.size+1) s.heap.objs.size 0 .none:=by
  have:=AQ (s.heap.push { cls:=.type "tuple_iterator",data:=.fields #[.ref l,.int 0 0] })
   (o:={ cls:=.type "enumerate",data:=.fields #[.none,.bool false,.ref s.heap.objs.size,SM 0,.none,.none] }) rfl
  rw[G]at this;exact this
 refine⟨⟨_,H,rfl⟩,h _ H ⟨_,AG _ (AQ _ rfl),rfl,rfl⟩ ∅ λb o x=>AG _ (AG _ x)⟩
theorem M1{it t}{i}{l}{x}{Q}(m:s.heap.IsTupleIter it t i)
  (G:s.heap.IsTuple t l) (H:l[i]?=some x)
  (I:∀h',h'.IsTupleIter it t (i+1)->DM it s.heap h'->Q x { s with heap:=h' }) :
  AZ (AY prog w) A (EQ (.ref it)) Q E s:=by
 obtain⟨o,C,J,B⟩:=id m;obtain⟨O,L,_,P,N⟩:=G;unfold EQ
 refine AA (BM m.typeIs FQ
  (BL FQ m.typeIs T1 ?_ (SZ _)))
 show AZ _ _ (field (.ref it) 0 >>= _) _ _ s;refine AA (Gv C B rfl ?_);show AZ _ _ (if (AV t==C0)=true then _ else _) _ _ s;rw[qY (show ¬((AV t==C0)=true)from Av)];refine AA (Gv C B rfl ?_);refine AA (Ea L N ?_);simp only[Ay,H];refine AA (HC C B ∅ (AC ⟨x,rfl,AC (I _ ?_ (B4 ..))⟩))
 exact⟨_,Ch _ C (W4 (IW B _)),(dY ..).trans J,by
  rw[IW B];simp[SM]⟩
theorem JI{it t}{i}{l}{Q}(G:A.handled=none)
  (m:s.heap.IsTupleIter it t i) (H:s.heap.IsTuple t l) (I:l[i]?=none)
  (J:∀h' e,Ll it s.heap h'->(∃o,h'.get? e=some o/\o.cls=.type "StopIteration")->E (.ref e) { s with heap:=h' }) :
  AZ (AY prog w) A (EQ (.ref it)) Q E s:=by
 obtain⟨o,B,O,C⟩:=id m;obtain⟨P,L,_,R,N⟩:=H;unfold EQ
 refine AA (BM m.typeIs FQ
  (BL FQ m.typeIs T1 ?_ (SZ _)))
 show AZ _ _ (field (.ref it) 0 >>= _) _ _ s;refine AA (Gv B C rfl ?_);show AZ _ _ (if (AV t==C0)=true then _ else _) _ _ s;rw[qY (show ¬((AV t==C0)=true)from Av)];refine AA (Gv B C rfl ?_);refine AA (Ea L N ?_);simp only[Ay,I];refine AA (JO (AA (HC B C ∅ ?_)));refine AA ?_;refine AA (BD ?_ (by size_fits));refine AA (J7 (by first | rfl | (simp only[NG];rfl)) ?_);refine BD ?_ (by size_fits);refine AA (Oh ?_)
 first | rw[show A.in1.handled=none from G] | rw[G]
 refine AA (AC (Tr ?_));exact J _ _ (((B4 ..).extBut.push _).push _) ⟨_,AQ _ rfl,rfl⟩
theorem VU(I:A.handled=none)(it l:AL)(J:l≠it)(m:Array AD) :
  Draws prog w A it [it,l] m.size (λi v=>m[i]?=some v) (λi h=>h.IsTupleIter it l i/\h.IsTuple l m) where
 live:=λM M st=>let ⟨o,C,_⟩:=st.1;⟨o,C⟩
 frame:=λM M M st G=>⟨st.1.at λo e=>G it ∅ o e,let ⟨o,C,r⟩:=st.2;⟨o,G l ∅ o C,r⟩⟩
 item:=λi s Q E H st L=>by
  refine M1 st.1 st.2 (x:=m[i]) (by simp[H]) λN O B=>?_
  exact L _ N s.toks (by simp[H]) ⟨O,st.2.extBut B.extBut J⟩ B
 done:=λs Q E st P=>JI I st.1 st.2 ∅ P
theorem La{e it l:AL}{i:Nat}{m:Array AD}{B:AD}{Q:Option AD->AK->Prop}(I:A.handled=none)
  (G:SW s.heap e it i B) (C:s.heap.IsTupleIter it l i) (hl:s.heap.IsTuple l m) (J:m[i]?=none)
  (L:∀h',Ll it s.heap h'->Q none { s with heap:=h' }):AZ (AY prog w) A (F3 (.ref e)) Q E s:=by
 have H:s.TypeIs (.ref e) "enumerate":=⟨_,G,rfl⟩;unfold F3
 refine AA (FD (BM H Zm
  (BL Zm H F.entry_enumerate_next ?_ (F.args_enumerate_next_1 _))))
 show AZ _ _ (field (.ref e) 2 >>= _) _ _ _;refine AA (Gv G rfl rfl ?_);refine AA (JI I C hl J λh' x N O=>?_);obtain⟨o,P,R⟩:=O;refine AA (Dt ⟨o,P,R⟩ NF ?_);exact AC (L _ N)
end
end PySem
namespace L2
theorem Inv.turned2(I:Inv X C J H s)(k:∀b u,b≠e->b≠it->s.heap.get? b=some u->h'.get? b=some u)
  (fe:MM X C H e) (A:MM X C H it) (G:s.heap.objs.size<=a) (new:CS X.prog X.w (upd H a o) h' a o):Inv X C J (upd H a o) { s with heap:=h',toks:=t' }:=by
 have B:=I.hok.fresh G
 have L:∀b u,H b=some u->b≠e/\b≠it:=λb u q=>⟨λz=>(by rw[z,fe.1]at q;cases q),λz=>(by rw[z,A.1]at q;cases q)⟩
 have out:∀b:AL,b∉[e,it]->b≠e/\b≠it:=λb hb=>⟨λz=>hb (by simp[z]),λz=>hb (by simp[z])⟩
 refine I.step (g':=s.gens) (d':=s.drawn) (λb hb=>?_) (λb o M M l q M=>k b o (out b l).1 (out b l).2 q) (λb o M M l q M=>⟨o.slots,k b o (out b l).1 (out b l).2 q⟩) (λb o M q n=>?_)
  (λb o l q=>⟨o,k b o (out b l).1 (out b l).2 q⟩) (λb N q=>by rw[AO (D4 q B)];exact q) (λb o u q=>by rw[AO (D4 q B)];exact q) (λb S q=>⟨#[],by rw[AO (D4 q B),q];simp⟩) (λm O=>?_) (λb u q=>?_) I.bare
 ·have E:b=e∨b=it:=by simpa using hb
  rcases E with z | z
  ·subst z;exact⟨fe.2.2.2.1,fe.2.1,fe.2.2.2.2.1,fe.2.2.2.2.2⟩
  ·subst z;exact⟨A.2.2.2.1,A.2.1,A.2.2.2.2.1,A.2.2.2.2.2⟩
 ·rw[AO (Ao (Aa (AX q) G))];exact n
 ·obtain⟨o,P,Q,R,r⟩:=O
  exact⟨o,P,Q,k _ o (CO fe.2.1) (CO A.2.1) R,r⟩
 ·by_cases hb:b=a
  ·subst hb;rw[Ar]at q;ext
  ·rw[AO hb]at q
   refine(I.hok b u q).stay (λc v l r=>?_) (λc r=>by rw[AO (D4 r B)];exact r) λc N r=>by rw[AO (D4 r B)];exact r
   grind
def Ite(sq:Hp->List V->Prop):It:=
 ⟨λi H=>∃l x,sq H l/\l[i]?=some x,λi H y m=>∃p x,H p=none/\y=.ref p/\m=upd H p (.tup [.int i,x])/\∀l,sq H l->l[i]?=some x,λi H=>∃l,sq H l/\l.length<=i⟩
section
variable{P:Al}{w:A1}{K:AB}{elts:List Expr}{x1:Nat}{pos:Pos}
theorem SD{X:Cx}{B:List (AL×Obj)}{J:St}{H:Hp}{s:AK}{E:AD->AK->Prop}{sq:Hp->List V->Prop}{e it:AL}{i:Nat}{x:V}{u:AD}{l:Nat}{h':BI}{tn:Nat->BI->Prop}
  (I:Inv X B J H s) (sf:e≠it) (L:∀b∈[e,it],MM X B H b) (le:e < s.heap.objs.size) (S:it < s.heap.objs.size) (T:RelV x u) (U:∀xs,sq H xs->xs[i]?=some x)
  (Y:IsEnumOut h' e it ((i:Int)+1) u s.heap.objs.size) (N:h'.get? s.heap.objs.size=some { cls:=.type "tuple",data:=.seq #[.int i l,u] }) (Z:∀b o,b≠e->b≠it->s.heap.get? b=some o->h'.get? b=some o)
  (ht:∀m,DM e h' m->(∃C,SW m e it ((i+1:Nat):Int) C)->tn (i+1) m) :
  AZ (AY X.prog X.w) X.A (MP (.Tuple elts x1 pos) (.ref e) (.ref s.heap.objs.size)) (λM O=>∃y H',Inv X B J H' O/\RelV y (.ref s.heap.objs.size)/\(Ite sq).yld i H y H'/\tn (i+1) O.heap/\∀b∈[e,it],H' b=none) E { s with heap:=h',toks:=l+1 }:=by
 have fe:=L e ∅;have Q:=L it ∅;have ne:=Ao le;have ni:=Ao S
 have new:CS X.prog X.w (upd H s.heap.objs.size (.tup [.int i,x])) h' s.heap.objs.size (.tup [.int i,x]):=
  ⟨⟨A7 (show 2<=1000 by decide) ∅,_,N,rfl⟩,[.int i l,u],.cons ⟨l,rfl⟩ (.cons T .nil),_,N,rfl,_,rfl⟩
 have I1:=I.turned2 (t':=l+1) Z fe Q (AN _) new
 refine wpAny_letOwnedTupleGo_enum Y λm tq sQ=>?_
 have R:=sQ;have I2:=I1.turned (t':=l+1) (h':=m) (λb o hb q=>(R.2 b hb).trans q) (by rw[AO ne];exact fe.1) fe.2.1 fe.2.2.2.1 fe.2.2.2.2.1 fe.2.2.2.2.2;refine⟨.ref s.heap.objs.size,_,I2,rfl,⟨s.heap.objs.size,x,I.hok.fresh (AN _),rfl,rfl,U⟩,ht m R ⟨u,by assumption⟩,λb hb=>?_⟩
 have G:b=e∨b=it:=by simpa using hb
 rcases G with z | z
 ·rw[z,AO ne];exact fe.1
 ·rw[z,AO ni];exact Q.1
theorem V9(a e it:AL)(C:e≠it):RU P w K (.Tuple elts x1 pos) (Ite λH xs=>SqL K H a xs) [e,it] e (λi h=>(∃l,SW h e it i l)/\h.IsListIter it a i) where
 mem:=by simp
 obj:=λi h st b hb=>by
  have G:b=e∨b=it:=by simpa using hb
  rcases G with z | z
  ·grind
  ·subst z
   obtain⟨_,o,e,c,d⟩:=st
   ext
 keep:=λi h S st k=>⟨st.1.imp λl A=>k e ∅ _ A,st.2.at λo q=>k it ∅ o q⟩
 item:=by
  intro X J hw L T i U s Y H E I N st O;subst J hw L;obtain⟨xs,x,B,Q⟩:=O;obtain⟨Z,R,p,hz⟩:=I.list B;obtain⟨u,hu,ru⟩:=R.get Q;obtain⟨⟨l,A⟩,m⟩:=st
  have li:it < s.heap.objs.size:=by obtain⟨o,q,_⟩:=m;exact AX q
  refine wpAny_pyNext_enum_item A m p.isList (by simpa using hu) C λS ho w4 hT hsz hk=>?_
  exact⟨_,rfl,SD (tn:=λi h=>(∃l,SW h e it i l)/\h.IsListIter it a i) I C N (AX A) li ru (λys hy=>by rw[I.list_inj hy B];exact Q) ho hT hk λh2 sQ tq=>⟨tq,w4.at λo q=>(sQ.2 it (CO C)).trans q⟩⟩
 done:=by
  intro X J hw L T i U s Y H E I N st O;subst J hw L;obtain⟨xs,B,Q⟩:=O;obtain⟨Z,R,p,hz⟩:=I.list B;obtain⟨⟨l,A⟩,m⟩:=st;obtain⟨f0,f1,f2,f3,f4,f5⟩:=N it ∅;have hl:=R.length
  exact wpAny_pyNext_enum_end (I.ok.hd T) A m p.isList (by simp;ext) λS eb=>⟨rfl,I.turned (t':=s.toks) (λb o hb e=>eb b o hb e) f0 f1 f3 f4 f5⟩
 self:=λM M M M M st h=>by
  obtain⟨⟨l,A⟩,_⟩:=st;exact J6 A h
theorem V8(a e it:AL)(J:e≠it)(L:a≠it)(hef:e≠a):RU P w K (.Tuple elts x1 pos) (Ite λH xs=>SqT K H a xs) [e,it] e (λi h=>(∃l,SW h e it i l)/\h.IsTupleIter it a i) where
 mem:=by simp
 obj:=λi h st b hb=>by
  have N:b=e∨b=it:=by simpa using hb
  rcases N with z | z
  ·grind
  ·subst z
   obtain⟨_,o,e,c,d⟩:=st
   grind
 keep:=λi h Z st k=>⟨st.1.imp λl B=>k e ∅ _ B,st.2.at λo q=>k it ∅ o q⟩
 item:=by
  intro X O hw Q R i ζ s σ H E I S st T;subst O hw Q;obtain⟨xs,x,C,U⟩:=T;obtain⟨G,Y,p,hz⟩:=I.tuple C;have p':=p;obtain⟨u,hu,ru⟩:=Y.get U
  have rk:i < G.toArray.size:=by
   have:=(AJ.mp hu).1;simpa using this
  obtain⟨⟨l,B⟩,m⟩:=st
  have li:it < s.heap.objs.size:=by obtain⟨o,q,_⟩:=m;exact AX q
  refine wpAny_pyNext_enum_itemD (VU (A:=X.A.in1) (I.ok.hd R) it a L G.toArray) B ⟨m,p'⟩ rk J (by ext) λu' Z tk vm ho w5 hT hsz hk=>?_
  have:u'=u:=by
   have yI:G[i]?=some u':=by simpa using vm
   rw[hu]at yI;cases yI;rfl
  subst this;exact⟨_,rfl,SD (tn:=λi h=>(∃l,SW h e it i l)/\h.IsTupleIter it a i) I J S (AX B) li ru (λys hy=>by rw[I.tuple_inj hy C];exact U) ho hT hk λh2 sQ tq=>⟨tq,w5.1.at λo q=>(sQ.2 it (CO J)).trans q⟩⟩
 done:=by
  intro X O hw Q R i ζ s σ H E I S st T;subst O hw Q;obtain⟨xs,C,U⟩:=T;obtain⟨G,Y,p,hz⟩:=I.tuple C;obtain⟨⟨l,B⟩,m⟩:=st;obtain⟨f0,f1,f2,f3,f4,f5⟩:=S it ∅;have hl:=Y.length
  exact La (I.ok.hd R) B m (p) (by simp;lia) λZ eb=>⟨rfl,I.turned (t':=s.toks) (λb o hb e=>eb b o hb e) f0 f1 f3 f4 f5⟩
 self:=λM M M M M st h=>by
  obtain⟨⟨l,B⟩,_⟩:=st;exact J6 B h
end
section
variable{X:Cx}{e:Expr}{elts:List Expr}{x1:Nat}{p pos zN:Pos}{ta:TA}
def qd(K:AB)(ta:TA):TI:=λo H R=>ta o H λvs m=>∃a,vs=[.ref a]/\(((∃l,SqL K m a l)/\R (Ite λH l=>SqL K H a l) m)∨((∃l,SqT K m a l)/\R (Ite λH l=>SqT K H a l) m))
theorem gi(S:Gl X "enumerate") (T:X.mg "enumerate" = none) (U:PA X [e] ta) (hs:autoParam (AH [e] X.env=[(false,A6 e X.env)]) yq0q):PI X (.Tuple elts x1 zN) (.Call (.Name "enumerate" p) [e] [] pos) (qd X.K ta):=by
 intro O s Y H R I h;refine Call_ (Jj I S T boot_enumerate (Cg (thn (U pos O s Y H _ I h) ?_) hs rfl));rintro us l ⟨vs,C,m,Z,E⟩;obtain⟨a,rfl,E⟩:=E;obtain⟨u,rfl,ru⟩:=vals1 Z;cases ru
 have P:∀{h':BI} (b:AL),b∈[l.heap.objs.size+1,l.heap.objs.size]->MM X O C b:=λb hb=>by
  have G:b=l.heap.objs.size+1∨b=l.heap.objs.size:=by simpa using hb
  rcases G with z | z
  ·rw[z];exact m.fpOk (Qv _) (m.hok.fresh (Qv _))
  ·rw[z];exact m.fpOk (AN _) (m.hok.fresh (AN _))
 rcases E with⟨⟨xs,sq⟩,q⟩ | ⟨⟨xs,sq⟩,q⟩
 ·obtain⟨mh,rv,J,hz⟩:=m.list sq
  refine call_enumerate_list J.isList λh' A w L N=>J6 A ?_
  exact⟨_,[l.heap.objs.size+1,l.heap.objs.size],_,_,C,rfl,m.kept (t':=l.toks) N,V9 a _ _ (dv _),⟨⟨_,A⟩,w⟩,P (h':=h'),q⟩
 ·obtain⟨mh,rv,J,hz⟩:=m.tuple sq
  have B:=J
  have Q:a < l.heap.objs.size:=by obtain⟨o,q,_⟩:=B;exact AX q
  refine K2 B λh' A w L N=>J6 A ?_
  exact⟨_,[l.heap.objs.size+1,l.heap.objs.size],_,_,C,rfl,m.kept (t':=l.toks) N,V8 a _ _ (dv _) (Ao Q) (Ed (D6 Q)),⟨⟨_,A⟩,w⟩,P (h':=h'),q⟩
end
theorem Hy{l:Type}{xs:List l}{j:Int}{x:l}(m:0<=j)(h:xs[j.toNat]?=some x):atI xs j=some x:=by
 have o:=(AJ.mp h).1;unfold atI ixN;ext
theorem nD{l:Type}(xs:List l){k:Nat}(h:k<=xs.length):Od xs none (some (k:Int))=xs.take k:=by
 unfold Od;rw[HT.Xa,HT.Ud,iz h];simp
theorem dC{l:Type}(xs:List l){k:Nat}(h:k<=xs.length):Od xs (some (k:Int)) none=xs.drop k:=by
 unfold Od;rw[HT.Xa,HT.Ud,iz h];exact CU ∅
theorem mI{m:Type}:∀{l:List m},l.length=1->∃o,l=[o]
 | [a],_=>⟨a,rfl⟩
theorem qQ{o:Type}:∀{l:List o},l.length=2->∃w m,l=[w,m]
 | y :: _,q=>by
  obtain⟨m,rfl⟩:=mI (MR q)
  lia
theorem qP{w:Type}:∀{l:List w},l.length=3->∃A m o,l=[A,m,o]
 | y :: _,q=>by
  obtain⟨m,o,rfl⟩:=qQ (MR q)
  lia
theorem qO{A:Type}:∀{l:List A},l.length=4->∃B m o w,l=[B,m,o,w]
 | y :: _,q=>by
  obtain⟨m,o,w,rfl⟩:=qP (MR q)
  lia
theorem len5{B:Type}:∀{l:List B},l.length=5->∃C m o w A,l=[C,m,o,w,A]
 | y :: _,q=>by
  obtain⟨m,o,w,A,rfl⟩:=qO (MR q)
  lia
def Itv(K:AB)(a:AL)(n:Nat):It:=
 ⟨λi H=>∃l x,SqL K H a l/\l.length=n/\l.reverse[i]?=some x,λi H x m=>m=H/\∀l,SqL K H a l->l.reverse[i]?=some x,λi H=>∃l,SqL K H a l/\l.length=n/\n<=i⟩
theorem ao{P}{w}{K}{tg}(a it:AL)(n:Nat):RU P w K tg (Itv K a n) [it] it (λi h=>i<=n/\h.IsRevIter it a ((n:Int) - 1 - i)) where
 mem:=by simp
 obj:=λi h st b hb=>by
  have e:b=it:=by simpa using hb
  subst e;obtain⟨_,o,e,c,d⟩:=st;ext
 keep:=λi h U st k=>⟨st.1,st.2.at λo e=>k it ∅ o e⟩
 item:=by
  intro X A hw B Y i ζ s σ H E I l st C;subst A hw B;obtain⟨uW,st⟩:=st;obtain⟨G,x,J,Z,m⟩:=C
  have hi:i < n:=by have:=(AJ.mp m).1;simpa[Z]using this
  have yH:=m;rw[List.getElem?_reverse (by ext)]at yH;obtain⟨mh,rv,p,hz⟩:=I.list J;obtain⟨u,hu,ru⟩:=rv.get yH;obtain⟨L,N,f2,O,Q,R⟩:=l it ∅
  have S:(n:Int) - 1 - (i:Int)=((G.length - 1 - i:Nat):Int):=by grind
  rw[S]at st
  refine wpAny_pyNext_rev_item st p.isList (by simpa using hu) λU T sb=>?_
  have I1:=I.turned (t':=s.toks) (λb o hb e=>(sb.2 b hb).trans e) L N O Q R;obtain⟨o,e,c,d⟩:=id T;refine⟨u,rfl,U8 e c d (by rfl) ⟨x,H,I1,ru,⟨rfl,λys hy=>by rw[I.list_inj hy J];exact m⟩,⟨hi,?_⟩,λb hb=>(l b hb).1⟩⟩
  have e1:(n:Int) - 1 - ((i+1:Nat):Int)=((G.length - 1 - i:Nat):Int) - 1:=by lia
  ext
 done:=by
  intro X A hw B Y i ζ s σ H E I l st C;subst A hw B;obtain⟨uW,st⟩:=st;obtain⟨G,J,Z,m⟩:=C;obtain⟨L,N,f2,O,Q,R⟩:=l it ∅
  have S:(n:Int) - 1 - (i:Int) = -1:=by lia
  rw[S]at st
  exact wpAny_pyNext_rev_end (I.ok.hd Y) st λU eb=>⟨rfl,I.turned (t':=s.toks) (λb o hb e=>eb b o hb e) L N O Q R⟩
 self:=λM M M M M st h=>df st.2 h
section
def qZ(K:AB)(ta:TA):TI:=λo H R=>ta o H λvs l=>∃a m,vs=[.ref a]/\SqL K l a m/\R (Itv K a m.length) l
theorem lW(B:Gl X "reversed") (C:X.mg "reversed" = none) (E:PA X [e] ta) (hs:autoParam (AH [e] X.env=[(false,A6 e X.env)]) yq0q):PI X tg (.Call (.Name "reversed" p) [e] [] pos) (qZ X.K ta):=by
 intro G s J H R I h;refine Call_ (Jj I B C boot_reversed (Cg (thn (E pos G s J H _ I h) λY l ⟨vs,L,w,N,O⟩=>?_) hs rfl));obtain⟨a,A,rfl,sq,q⟩:=O;obtain⟨u,rfl,P⟩:=vals1 N;cases P;obtain⟨Q,S,T,Z⟩:=w.list sq;have U:=S.length;refine call_reversed_list T.isList ?_;have m:(l.heap.push (revObj a ((Q.toArray.size:Int) - 1))).IsRevIter l.heap.objs.size a ((A.length:Int) - 1 - ((0:Nat):Int)):=⟨_,AQ _ rfl,rfl,by simp[revObj,U]⟩;refine df m ⟨l.heap.objs.size,[l.heap.objs.size],_,_,L,rfl,w.kept (t':=l.toks) λb o e=>AG _ e,ao a _ A.length,⟨Bc _,m⟩,λb hb=>?_,q⟩
 have e:b=l.heap.objs.size:=by simpa using hb
 subst e;exact w.fpOk (AN _) (w.hok.fresh (AN _))
end
end L2
namespace HT
section
variable{E:AD->AK->Prop}
theorem M7{t o}{l}{B C}{lo hi}{Q}(m:eE s.heap t l)(hs:s.heap.IsSliceOf o B C .none)(pl:NP B lo)(G:NP C hi)
  (hw:sIx l.size 0 lo=0/\sIx l.size l.size hi=l.size) (h:Q (.ref t) s):AZ (AY prog w) A (Iu (.ref t) (.ref o)) Q E s:=by
 obtain⟨os,H,I,L⟩:=id hs;have J:s.TypeIs (.ref o) "slice":=⟨os,H,I⟩;unfold Iu
 try with_reducible refine Cp ?_
 first | refine AA (AC ?_) | skip
 refine AA (nR m.typeIs (by rfl) (AA (BM m.typeIs CC
  (BL CC m.typeIs iq ?_ (jn _ _)))))
 show AZ (AY prog w) _ (G3 (.ref t) >>= _) _ _ s;refine AA (tupleItemsOf_ m (AA (Iq J ?_)));rw[qX (by rfl)];refine AA (JE hs pl G ?_);show AZ (AY prog w) _ (if (((sIx l.size 0 lo:Nat):Int)==0&&(1:Int)==1&&(sIx l.size l.size hi - sIx l.size 0 lo)==l.size)=true then _ else _) _ _ s;rw[hw.1,hw.2,qX (by ext)];unfold oS;refine AA (AA (Iq m.typeIs (AC ?_)));rw[qX (by rfl)];exact AA (JO (AA (AC (AC ⟨_,rfl,AC h⟩))))
end
end HT
namespace L2
section
variable{X:Cx}
def rSlW(K:AB):V->Option Int->Option Int->Hp->VK->Prop:=λx lo m H Q=>∃a l,x=.ref a/\SqT K H a l/\(HT.sIx l.length 0 lo=0/\HT.sIx l.length l.length m=l.length)/\Q (.ref a) H
theorem k9:SlR X (rSlW X.K):=by
 intro J s L H x v N O lo P R Q I o w A B h;obtain⟨a,C,rfl,E,hw,q⟩:=h;cases o;obtain⟨G,r,m,_⟩:=I.tuple E
 have l:G.toArray.size=C.length:=by rw[BU];exact r.length.symm
 exact⟨"tuple",_,CC.lookup,m.typeIs,HT.M7 m w A B (by rw[l];exact hw) ⟨.ref a,H,I,rfl,q⟩⟩
end
section
theorem Xy:PIp X .BitOr (ipI λi j=>DE i j):=by
 intro A s B H x y v u Q I l m h;obtain⟨i,j,o,w,q⟩:=h;subst o;subst w;obtain⟨a,rfl⟩:=l;obtain⟨b,rfl⟩:=m;exact ior_int ⟨.int _,H,I.tok _,⟨_,rfl⟩,q⟩
theorem mW:PIp X .BitAnd (ipI λi j=>BE i j):=by
 intro A s B H x y v u Q I l m h;obtain⟨i,j,o,w,q⟩:=h;subst o;subst w;obtain⟨a,rfl⟩:=l;obtain⟨b,rfl⟩:=m;exact iand_int ⟨.int _,H,I.tok _,⟨_,rfl⟩,q⟩
theorem mV:PIp X .BitXor (ipI λi j=>Es i j):=by
 intro A s B H x y v u Q I l m h;obtain⟨i,j,o,w,q⟩:=h;subst o;subst w;obtain⟨a,rfl⟩:=l;obtain⟨b,rfl⟩:=m;exact ixor_int ⟨.int _,H,I.tok _,⟨_,rfl⟩,q⟩
end
end L2
namespace L4
open L2
section
variable{α β ρ σ τ:Type}
noncomputable def eT(enc:α->D)(l:List α):D:=.tup (l.map enc)
noncomputable def eP(a:α->D)(b:β->D)(x:α×β):D:=.tup [a x.1,b x.2]
def eU(_:Unit):D:=.non
def eF(l:ZLi):D:=.fro (l.map D.int)
noncomputable def oL(enc:α->D)(l:List α):Ob:=.lst (l.map enc)
theorem AR(h:p.bind q=some v):∃x,p=some x/\q x=some v:=Option.bind_eq_some_iff.mp h
set_option genInjectivity true in
inductive Fw(ρ σ:Type) where
 | rt (r:ρ) | nx (s:σ) | bk (s:σ) | ct (s:σ)
noncomputable def AU(p:Option (Fw ρ σ))(q:σ->Option (Fw ρ τ)):Option (Fw ρ τ):=match p with
 | some (.nx s)=>q s
 | some (.rt r)=>some (.rt r)
 | _=>none
noncomputable def BW(g:σ->τ)(p:Option (Fw ρ σ)):Option (Fw ρ τ):=match p with
 | some (.nx s)=>some (.nx (g s))
 | some (.rt r)=>some (.rt r)
 | some (.bk s)=>some (.bk (g s))
 | some (.ct s)=>some (.ct (g s))
 | none=>none
noncomputable def HW(l:List α)(x:α):Option (List α):=if l.length < 1000000 then some (l++[x])else none
noncomputable def GT(l k:List α):Option (List α):=if l.length+k.length<=1000000 then some (l++k)else none
theorem Lb(h:n < 1000000):n < sizeLine:=Aa h ∅
theorem Nm(h:n<=1000000):n<=sizeLine:=A7 h ∅
noncomputable def BZ:List α->σ->(σ->α->Option (Fw ρ σ))->Option (Fw ρ σ)
 | [],s,_=>some (.nx s)
 | x :: l,s,q=>match q s x with
  | some (.nx m)=>BZ l m q
  | some (.ct m)=>BZ l m q
  | some (.bk m)=>some (.nx m)
  | some (.rt r)=>some (.rt r)
  | none=>none
noncomputable def Lz(c:α->Option Bool)(m:α->Option β):List α->Option (List β)
 | []=>some []
 | x :: l=>(c x).bind λb=>if b=true then(m x).bind λy=>(Lz c m l).bind λo=>some (y :: o)else Lz c m l
def Bn(l:List α)(c:α->Option Bool)(m:α->Option β):Option (List β):=if l.length<=1000000 then Lz c m l else none
noncomputable def Bv(p:Option (Fw ρ σ)):Option ρ:=match p with
 | some (.rt r)=>some r
 | _=>none
noncomputable def Je(p:Option (Fw Unit σ)):Option Unit:=match p with
 | some (.rt r)=>some ()
 | some (.nx _)=>some ()
 | _=>none
end
section
variable{S:Sto}{α β:Type}
section
noncomputable def Oa(x y:Int):Option Int:=if dR x y then some (x * y)else none
def Kx(x y:Int):Option Int:=if nP x y then some (x / y)else none
noncomputable def MD(x y:Int):Option Int:=if 0 < y then some (x % y)else none
end
def EqN(n:Nat)(enc:α->D)[DecidableEq α]:Prop:=∀x y,eqP n (enc x) (enc y)=some (decide (x=y))
def NL(enc:α->D):Prop:=∀x S,WX (enc x) S=none
theorem Bu:EqN n D.int:=λx y=>by
 have:Kz (.int x) (.int y)=some (decide (x=y)):=rfl
 cases n <;> exact this
theorem GE:EqN n D.str:=λx y=>by
 have:Kz (.str x) (.str y)=some (decide (x=y)):=rfl
 cases n <;> exact this
theorem FA{n:Nat}{enc:α->D}[DecidableEq α](h:EqN n enc):EqN (n+1) (eT enc):=by
 have m:∀l k:List α,eqL (eqP n) (l.map enc) (k.map enc)=some (decide (l=k)):=by
  intro l
  induction l with
  | nil=>intro k;cases k <;> rfl
  | cons x l o=>
   intro k
   cases k with
   | nil=>rfl
   | cons y k=>
    rw[Ai,Ai];unfold eqL;rw[h x y,o k]
    by_cases c:x=y <;> by_cases d:l=k <;> simp[c,d]
 assumption
theorem GF{n:Nat}{a:α->D}{b:β->D}[DecidableEq α][DecidableEq β](l:EqN n a)(hb:EqN n b):EqN (n+1) (eP a b):=λx y=>by
 show eqL (eqP n) [a x.1,b x.2] [a y.1,b y.2]=_;unfold eqL eqL eqL;rw[l,hb];obtain⟨m,o⟩:=x;obtain⟨w,A⟩:=y;ext
theorem ED:NL D.int:=λG G=>rfl
theorem Hv:NL D.str:=λG G=>rfl
theorem Jg:NL (eT enc):=λG G=>rfl
section
variable{enc:α->D}[DecidableEq α]
theorem QV(h:EqN 8 enc)(n:NL enc)(neg:Bool)(x y:α)(S:Sto):eqD neg (enc x) (enc y) S=.ok (.bl (if neg then !decide (x=y)else decide (x=y))) S:=by
 unfold eqD eqB;rw[n x S,n y S];rw[h x y]
theorem G7(h:EqN 8 enc)(x:α):∀l:List α,K5 (enc x) (l.map enc)=some (decide (x∈l))
 | []=>by simp[K5]
 | y :: l=>by
  rw[Ai];unfold K5;rw[h y x,G7 h x l]
  grind
theorem mq(h:EqN n enc):∀l k:List α,eqL (eqP n) (l.map enc) (k.map enc)=some (decide (l=k)):=by
 intro l
 induction l with
 | nil=>intro k;cases k <;> rfl
 | cons x l m=>
  intro k
  cases k with
  | nil=>rfl
  | cons y k=>
   rw[Ai,Ai];unfold eqL;rw[h x y,m k];ext
theorem LM(h:EqN 8 enc)(neg:Bool)(o:S[n]?=some (oL enc l))(w:S[m]?=some (oL enc k)):eqD neg (.ref n) (.ref m) S=.ok (.bl (if neg then !decide (l=k)else decide (l=k))) S:=by
 unfold eqD eqB;rw[U3 o,U3 w];symm;rw[AF,AF]
 by_cases c:l.length=k.length
 ·rw[qX c,mq h]
 ·rw[qY c,wY λz=>c (by rw[z])]
end
section
theorem QP:∀l:ZLi,Kv (l.map D.int)=some l
 | []=>rfl
 | x :: l=>by rw[Ai];unfold Kv;ext
noncomputable def D7(l:List α):Option (List α):=if l.length<=1000000 then some l else none
def FI(l:List ZLi):Option (List ZLi):=if l.all (λr=>!r.isEmpty)=true then some (IM l)else none
theorem Kk:∀l:List ZLi,l.all (λr=>!r.isEmpty)=true->P0 (l.map Uf)=some l
 | [],_=>rfl
 | [] :: l,h=>by simp at h
 | (x :: r) :: l,h=>by
  rw[ju,Di]at h;show P0 (.tup ((x :: r).map D.int) :: l.map Uf)=_;unfold P0;rw[QP,Kk l h.2]
noncomputable def CI(lo:Int)(n:Nat):ZLi:=(A0 n).map λi:Nat=>lo+i
def Ex(j:Int):Option ZLi:=if -1000000<=j/\j<=1000000 then some (CI 0 j.toNat)else none
def Kl(i j:Int):Option ZLi:=if -1000000<=i/\i<=1000000/\-1000000<=j/\j<=1000000 then some (CI i (j - i).toNat)else none
noncomputable def C8(l:List α):List (Int×α):=l.zipIdx.map λx=>((x.2:Int),x.1)
end
end
section
variable{α β κ κ':Type}
noncomputable def oDK(enc:α->D)(l:List (Int×α)):Ob:=.dK (l.map λx=>(Dq x.1,enc x.2))
noncomputable def kP(x:Int×Int):List Key:=[Dq x.1,Dq x.2]
def oDP(enc:α->D)(l:List (ZPi×α)):Ob:=.dT (l.map λx=>(kP x.1,enc x.2))
theorem KZ[DecidableEq κ][DecidableEq κ']{m:κ->κ'}(o:∀x y,m x=m y->x=y)(f:α->β)(l:List (κ×α))(k:κ):AT (l.map λx=>(m x.1,f x.2)) (m k)=(AT l k).map f:=by
 unfold AT
 induction l with
 | nil=>rfl
 | cons x l w=>
  grind
theorem P6[DecidableEq κ][DecidableEq κ']{m:κ->κ'}(w:∀x y,m x=m y->x=y)(f:α->β)(l:List (κ×α))(k:κ)(v:α):Cm (l.map λx=>(m x.1,f x.2)) (m k) (f v)=(Cm l k v).map λx=>(m x.1,f x.2):=by
 have any:((l.map λx=>(m x.1,f x.2)).any λo=>decide (o.1=m k))=l.any λo=>decide (o.1=k):=by
  rw[nj]
  congr 1
  funext x
  exact decide_eq_decide.mpr ⟨w _ _,λz=>congrArg m z⟩
 unfold Cm;rw[any];split
 ·rw[Aw,Aw]
  refine By λx G=>?_
  show(if m x.1=m k then(m x.1,f v)else(m x.1,f x.2))=_
  by_cases c:x.1=k
  ·show _=(λx:κ×α=>(m x.1,f x.2)) (if x.1=k then(x.1,v)else x)
   rw[qX c,qX (by rw[c])]
  ·show _=(λx:κ×α=>(m x.1,f x.2)) (if x.1=k then(x.1,v)else x)
   rw[qY c,qY λz=>c (w _ _ z)]
 ext
theorem M5(x y:Int)(h:(Dq x:Key)=Dq y):x=y:=by cases h;rfl
theorem cN(x y:Int×Int)(h:kP x=kP y):x=y:=by
 obtain⟨a,b⟩:=x;obtain⟨c,d⟩:=y;unfold kP at h;cases h;rfl
section
def B2[DecidableEq κ](l:List (κ×α))(k:κ)(v:α):Option (List (κ×α)):=if l.length < 1000000 then some (Cm l k v)else none
noncomputable def kX(r:ZLi):Int×Int:=(r.getD 0 0,r.getD 1 0)
def F8(l:List ZPi):List ZPi:=(IM (l.map λx=>[x.1,x.2])).map kX
theorem XY(l:List ZPi):(IM (l.map λx=>[x.1,x.2])).map Uf=(F8 l).map (eP D.int D.int):=by
 unfold F8;rw[Aw]
 refine By λr m=>?_
 obtain⟨x,_,rfl⟩:=Ax.mp ((Cz _).mem_iff.mp m);rfl
end
end
section
variable{α ρ σ:Type}
theorem BH:AU (some (.nx s)) q=q s:=rfl
theorem dL:AU (some (.rt r)) q=some (.rt r):=rfl
theorem iE:BW (ρ:=ρ) g (some (.nx s))=some (.nx (g s)):=rfl
theorem Xm:Bv (some (.rt r:Fw ρ σ))=some r:=rfl
theorem GD{l:List α}{q:σ->α->Option (Fw ρ σ)}{s0:σ}(I:List α->σ->Prop)(w:I [] s0)(h:∀pre x s,x∈l->pre++[x] <+: l->I pre s->∃s',q s x=some (.nx s')/\I (pre++[x]) s'):∃s,BZ l s0 q=some (.nx s)/\I l s:=by
 have m:∀(r pre:List α) (s:σ),l=pre++r->I pre s->∃s',BZ r s q=some (.nx s')/\I l s':=by
  intro r
  induction r with
  | nil=>intro pre s e o;rw[BO]at e;subst e;exact⟨s,rfl,o⟩
  | cons x r A=>
   intro pre s e o;obtain⟨s',G,B⟩:=h pre x s (by rw[e];simp) ⟨r,by rw[e];simp⟩ o;obtain⟨C,H,E⟩:=A (pre++[x]) s' (by rw[e];simp) B;refine⟨C,?_,E⟩;unfold BZ;ext
 exact m l [] s0 rfl w
theorem cn(I:List α->σ->Prop)(R:ρ->Prop)(B:I [] s0)(h:∀pre x s,x∈l->pre++[x] <+: l->I pre s->(∃s',q s x=some (.nx s')/\I (pre++[x]) s')∨∃r,q s x=some (.rt r)/\R r):(∃s,BZ l s0 q=some (.nx s)/\I l s)∨∃r,BZ l s0 q=some (.rt r)/\R r:=by
 have m:∀(r pre:List α) (s:σ),l=pre++r->I pre s->(∃s',BZ r s q=some (.nx s')/\I l s')∨∃y,BZ r s q=some (.rt y)/\R y:=by
  intro r
  induction r with
  | nil=>intro pre s e o;rw[BO]at e;subst e;exact .inl ⟨s,rfl,o⟩
  | cons x r C=>
   intro pre s e o
   rcases h pre x s (by rw[e];simp) ⟨r,by rw[e];simp⟩ o with⟨s',w,A⟩ | ⟨y,w,A⟩
   ·have E:BZ (x :: r) s q=BZ r s' q:=by
     conv=>lhs;unfold BZ
     rw[w]
    rw[E];exact C (pre++[x]) s' (by rw[e];simp) A
   ·refine .inr ⟨y,?_,A⟩
    unfold BZ;rw[w]
 exact m l [] s0 rfl B
theorem dD(A:∀x∈l,c x=some (P x))(B:∀x∈l,P x=true->m x=some (f x)):Lz c m l=some ((l.filter P).map f):=by
 induction l with
 | nil=>rfl
 | cons x l w=>
  have w:=w (λy o=>A y (AM _ o)) λy o=>B y (AM _ o)
  unfold Lz
  grind
theorem K1(hl:l.length<=1000000)(o:∀x∈l,c x=some (P x))(w:∀x∈l,P x=true->m x=some (f x)):Bn l c m=some ((l.filter P).map f):=by
 unfold Bn;rw[qX hl,dD o w]
theorem EG(hl:l.length<=1000000)(o:∀x∈l,m x=some (f x)):Bn l (λG=>some true) m=some (l.map f):=by
 rw[K1 hl (λG G=>rfl) λx w G=>o x w,YR.mpr λG G=>rfl]
theorem E2(hl:l.length<=1000000)(m:∀x∈l,c x=some (P x)):Bn l c (λx=>some x)=some (l.filter P):=by
 rw[K1 hl m λx o G=>rfl,nh]
theorem PJ(h:l.length < 1000000):HW l x=some (l++[x]):=qX h
theorem LK(h:l.length+k.length<=1000000):GT l k=some (l++k):=qX h
theorem iT(h:l.length<=1000000):D7 l=some l:=qX h
theorem iU:D7 ([]:List α)=some []:=rfl
theorem mj(a:α):D7 [a]=some [a]:=qX ∅
theorem few2(a b:α):D7 [a,b]=some [a,b]:=qX ∅
theorem Mw(l:-1000000<=j)(m:j<=1000000):Ex j=some (CI 0 j.toNat):=qX ⟨l,m⟩
theorem gU(l:-1000000<=i)(m:i<=1000000)(o:-1000000<=j)(w:j<=1000000):Kl i j=some (CI i (j - i).toNat):=qX ⟨l,m,o,w⟩
theorem CQ{lo:Int}{n:Nat}{x:Int}:x∈CI lo n↔lo<=x/\x < lo+n:=by
 unfold CI;rw[Ax]
 constructor
 ·rintro⟨k,l,rfl⟩
  have:=B9.mp l
  lia
 ·rintro⟨m,o⟩
  exact⟨(x - lo).toNat,B9.mpr ∅,by lia⟩
theorem Ck(lo:Int)(n:Nat):(CI lo n).length=n:=by unfold CI;ext
theorem S4(lo:Int)(n:Nat):(CI lo n).Pairwise (· < ·):=by
 unfold CI;rw[BN]
 exact KC.imp λh=>by ext
theorem Ti(o:0<=i)(w:i < l.length):∃x,atI l i=some x/\l[i.toNat]?=some x:=by
 have m:i.toNat < l.length:=by ext
 exact⟨l[i.toNat],Hy o (AI m),AI m⟩
theorem Tj(h:atI l i=some x):x∈l:=by
 unfold atI at h;obtain⟨j,_,m⟩:=AR h;exact A2 m
theorem YB(k:Int)(h:l≠[]):∃x,atI l (k % (l.length:Int))=some x/\x∈l:=by
 have o:0 < (l.length:Int):=by have:=YQ.mpr h;ext
 obtain⟨x,m,_⟩:=Ti (i7 _ (by ext)) (Zx _ o);exact⟨x,m,Tj m⟩
theorem TK(h:0 < y):MD x y=some (x % y):=qX h
theorem OQ(P:α->Bool)(l:List α)(x:α):(l++[x]).filter P=if P x=true then l.filter P++[x]else l.filter P:=by
 grind
theorem Gr[DecidableEq α]:∀{l k:List α},l.Nodup->(∀x∈l,x∈k)->l.length<=k.length
 | [],_,_,_=>Bc _
 | x :: l,k,o,h=>by
  have m:=h x AW;obtain⟨w,A⟩:=BJ.mp o
  have:=Gr A λy B=>(W5 (λz:y=x=>w (by ext))).mpr (h y (AM _ B))
  rw[Tz m]at this;have:=VY m;rw[Am]
  grind
def Ok(p:Option α)(P:α->Prop):Prop:=∃v,p=some v/\P v
theorem Ok.pure(h:P v):Ok (some v) P:=⟨v,rfl,h⟩
theorem Ok.is(h:Ok p λr=>r=v):p=some v:=by
 obtain⟨_,l,rfl⟩:=h;exact l
theorem Ok.bind(h:Ok p P)(l:∀v,P v->Ok (q v) Q):Ok (p.bind q) Q:=by
 obtain⟨v,rfl,h⟩:=h;exact l v h
theorem Ok.imp(h:Ok p P)(i:∀v,P v->Q v):Ok p Q:=by
 obtain⟨v,rfl,h⟩:=h;exact⟨v,rfl,i v h⟩
def OkF(p:Option (Fw ρ σ))(N:σ->Prop)(R:ρ->Prop):Prop:=(∃s,p=some (.nx s)/\N s)∨∃r,p=some (.rt r)/\R r
theorem OkF.nx(h:N s):OkF (some (.nx s)) N R:=.inl ⟨s,rfl,h⟩
theorem OkF.rt(h:R r):OkF (some (.rt r)) N R:=.inr ⟨r,rfl,h⟩
theorem OkF.seq(h:OkF p N R)(l:∀s,N s->OkF (q s) N' R):OkF (AU p q) N' R:=by
 rcases h with⟨s,rfl,h⟩ | ⟨r,rfl,h⟩
 ·exact l s h
 ·exact .inr ⟨r,rfl,h⟩
theorem OkF.map(h:OkF p N R)(l:∀s,N s->N' (g s)):OkF (BW g p) N' R:=by
 rcases h with⟨s,rfl,h⟩ | ⟨r,rfl,h⟩
 ·exact .inl ⟨_,rfl,l s h⟩
 ·exact .inr ⟨r,rfl,h⟩
theorem OkF.of(h:Ok p P)(l:∀v,P v->OkF (q v) N R):OkF (p.bind q) N R:=by
 obtain⟨v,rfl,h⟩:=h;exact l v h
theorem OkF.ite(l:c=true->OkF a N R)(hb:c=false->OkF b N R):OkF (if c=true then a else b) N R:=by
 lia
theorem OkF.for(I:List α->σ->Prop)(m:I [] s0)(h:∀pre x s,x∈l->pre++[x] <+: l->I pre s->OkF (q s x) (I (pre++[x])) R):OkF (BZ l s0 q) (I l) R:=cn I R m h
theorem OkF.out(h:OkF p (λG=>False) R):Ok (Bv p) R:=by
 rcases h with⟨s,rfl,h⟩ | ⟨r,rfl,h⟩
 ·exact h.elim
 ·exact⟨r,rfl,h⟩
theorem OkF.imp(h:OkF p N R)(l:∀s,N s->N' s)(m:∀r,R r->R' r):OkF p N' R':=by
 rcases h with⟨s,rfl,h⟩ | ⟨r,rfl,h⟩
 ·exact .inl ⟨s,rfl,l s h⟩
 ·exact .inr ⟨r,rfl,m r h⟩
end
section
def F9(x y:Int):Option Int:=if nO x y then some (x * 2 ^ y.toNat)else none
noncomputable def Ie(x y:Int):Option Int:=if 0<=y then some (x / 2 ^ y.toNat)else none
end
end L4
namespace L2
theorem KVR.none{K}{ρ}{H}(f:Str):∀{x:List (Str×D)} {y:List (Str×V)},KVR K ρ H x y->x.lookup f=none->y.lookup f=none
 | _,_,.nil,_=>rfl
 | (g,a) :: x,(o,b) :: y,.cons r t,h=>by
  obtain⟨l,w⟩:=r;subst l;rw[CA]at h ⊢
  cases m:(f==g)with
  | true=>ext
  | false=>rw[m]at h;exact KVR.none f t h
section
def qB:V->List V->Hp->VK->Prop:=λx vs H Q=>∃i,x=.int i/\vs=[]/\Q (.int (Dy i)) H
theorem iB:MtR X "int.bit_length" qB:=by
 intro o s w H x vs v A Q I l m h;obtain⟨i,rfl,rfl,q⟩:=h;obtain⟨t,rfl⟩:=l;cases m;exact call_int_bit_length ⟨.int _,H,I.tok _,⟨_,rfl⟩,q⟩
end
section
def p8(K:AB):V->V->Hp->VK->Prop:=λo i H Q=>∃p l k z,o=.ref p/\i=.int k/\0<=k/\H p=some (.lst l)/\l[k.toNat]?=some z/\Q z H
theorem cg:qv X (p8 X.K):=by
 intro N s O H o i P R Q I m w h;obtain⟨p,S,k,z,rfl,rfl,A,B,l,q⟩:=h;cases m;obtain⟨t,rfl⟩:=w;obtain⟨C,n,r,E,G⟩:=I.lst B
 obtain⟨u,J,L⟩:∃u,C[k.toNat]?=some u/\RelV z u:=r.get l
 have T:=(AJ.mp l).1;have U:=Nk;exact getItem_listL ⟨_,E,rfl,n,rfl⟩ A ∅ J ⟨z,H,I,L,q⟩
end
open PySem.SeqAt
section
theorem Eg(l:autoParam N.Nodup yq8q)(m:autoParam (∀x∈ps,sc.names.lookup x=some .local∨sc.names.lookup x=some .cell) yq8q)(o:autoParam (∀y∈sc.names,y.2≠.free) yq8q)(w:autoParam (sc.kind=.function) yq0q)(A:autoParam (sc.isCoroutine=false) yq0q)(B:autoParam (sc.isGenerator=false) yq0q)(C:autoParam (N.take ps.length=ps) yq0q):HY N ps sc:=⟨w,A,B,l,C,m,o⟩
end
noncomputable abbrev Cx.q(X:Cx):Cx:={ X with xe:=λG G=>False }
end L2
abbrev sR(n:Nat):Option L2.D:=some (.ref n)
abbrev sI(i:Int):Option L2.D:=some (.int i)
noncomputable abbrev sF(l:ZLi):Option L2.D:=some (.fro (l.map L2.D.int))
namespace L7
open L2
open L4 (Fw AU BZ Bv BW AR)
section
variable{K:AB}{H H' tZ H0:Hp}{F F':AL->Prop}{σ:L2.St}{α β γ ρ τ:Type}
def Kp(H H':Hp):Prop:=∀a o,H a=some o->H' a=some o
theorem Kp.refl:Kp H H:=λG G h=>h
theorem Kp.trans(a:Kp H H')(b:Kp H' tZ):Kp H tZ:=λx o h=>b x o (a x o h)
structure Fr(F:AL->Prop)(H H':Hp):Prop where
 tup:∀a xs,H a=some (.tup xs)->H' a=some (.tup xs)
 frz:∀a o u,H a=some (.frz o u)->H' a=some (.frz o u)
 fix:∀a o,F a->H a=some o->H' a=some o
theorem Kp.fr(k:Kp H H'):Fr F H H':=⟨λa G h=>k a _ h,λa G G h=>k a _ h,λa o G h=>k a o h⟩
theorem Fr.trans(a:Fr F H H')(b:Fr F' H' tZ)(l:∀x,F x->F' x):Fr F H tZ:=
 ⟨λx G h=>b.tup _ _ (a.tup _ _ h),λx G G h=>b.frz _ _ _ (a.frz _ _ _ h),λx o f h=>b.fix x o (l x f) (a.fix x o f h)⟩
noncomputable abbrev RD(K:AB)(H:Hp)(d:D)(x:V):Prop:=DL K [] H d x
theorem Fr.rd(f:Fr F H H')(h:RD K H d x):RD K H' d x:=h.keep f.tup f.frz
theorem Kp.rd(k:Kp H H')(h:RD K H d x):RD K H' d x:=(k.fr (F:=λG=>False)).rd h
abbrev OB(K:AB)(H:Hp)(a:AL)(o:Ob):Prop:=OR K [] H a o
theorem Fr.ob(f:Fr F H H')(e:H' a=H a)(h:OB K H a o):OB K H' a o:=h.keep f.tup f.frz e
theorem OB.at(h:OB K H a o):∃u,H a=some u:=Option.ne_none_iff_exists'.mp h.has
theorem Kp.ob(k:Kp H H')(h:OB K H a o):OB K H' a o:=by
 obtain⟨u,l⟩:=h.at;exact(k.fr (F:=λG=>False)).ob (by rw[l,k a u l]) h
set_option genInjectivity true in
inductive Sl where
 | u | q (P:Hp->Hp->V->Prop) | g (P:Hp->(AL->Prop)->Hp->V->Prop)
def Sl.ok(H0:Hp)(F S:AL->Prop)(H:Hp):Sl->Option V->Prop
 | .u,_=>True
 | .q P,x=>∃y,x=some y/\∀H',Fr F H H'->P H0 H' y
 | .g P,x=>∃y,x=some y/\∀H',Fr F H H'->(∀a,S a->H' a=H a)->P H0 S H' y
structure VR(H0:Hp)(A:List Sl)(σ:L2.St)(F:AL->Prop)(G:Nat->AL->Prop)(H:Hp):Prop where
 kp:Kp H0 H
 f0:∀a o,H0 a=some o->F a
 fh:∀a,F a->∃o,H a=some o
 sl:∀(i:Nat) s,A[i]?=some s->∃x,σ[i]?=some x/\s.ok H0 F (G i) H x
 gn:∀i a,G i a->¬F a/\∃o,H a=some o
 ds:∀i j a,G i a->G j a->i=j
def Vs(H0:Hp)(A:List Sl)(σ:L2.St)(F:AL->Prop)(H:Hp):Prop:=∃G,VR H0 A σ F G H
def gF(F:AL->Prop)(H H':Hp):AL->Prop:=λa=>F a∨(H a=none/\∃o,H' a=some o)
structure Fe(F:AL->Prop)(H:Hp)(F':AL->Prop)(H':Hp):Prop where
 le:∀a,F a->F' a
 fr:Fr F H H'
theorem Fe.refl:Fe F H F H:=⟨λG h=>h,Kp.refl.fr⟩
theorem Fe.trans(a:Fe F H F' H')(b:Fe F' H' F'' tZ):Fe F H F'' tZ:=⟨λx h=>b.le x (a.le x h),a.fr.trans b.fr a.le⟩
theorem Kp.fe(k:Kp H H'):Fe F H (gF F H H') H':=⟨λG h=>.inl h,k.fr⟩
theorem Sl.mono{s:Sl}{S:AL->Prop}{x:Option V}(h:s.ok H0 F S H x)(e:Fe F H F' H')(hw:∀a,S a->H' a=H a):s.ok H0 F' S H' x:=by
 cases s with
 | u=>trivial
 | q P=>obtain⟨y,l,m⟩:=h;exact⟨y,l,λo f=>m o (e.fr.trans f e.le)⟩
 | g P=>obtain⟨y,l,m⟩:=h;exact⟨y,l,λo f z=>m o (e.fr.trans f e.le) λa w=>(z a w).trans (hw a w)⟩
theorem Vs.kp(h:Vs H0 A σ F H):Kp H0 H:=let ⟨_,h⟩:=h;h.kp
theorem VR.grow{A:List Sl}{G:Nat->AL->Prop}(h:VR H0 A σ F G H)(k:Kp H H'):VR H0 A σ (gF F H H') G H':=by
 refine⟨h.kp.trans k,λa o q=>.inl (h.f0 a o q),λa q=>?_,λi s w=>?_,λi a q=>?_,h.ds⟩
 ·rcases q with q | q
  ·obtain⟨o,l⟩:=h.fh a q;exact⟨o,k a o l⟩
  ·exact q.2
 ·obtain⟨x,m,B⟩:=h.sl i s w
  exact⟨x,m,Sl.mono B k.fe λa C=>let ⟨o,l⟩:=(h.gn i a C).2;by rw[l,k a o l]⟩
 ·obtain⟨m,o,l⟩:=h.gn i a q
  exact⟨λz=>z.elim m λz=>(by ext),o,k a o l⟩
theorem Vs.grow(h:Vs H0 A σ F H)(k:Kp H H'):Vs H0 A σ (gF F H H') H':=let ⟨G,h⟩:=h;⟨G,h.grow k⟩
theorem JY{A:List Sl}{s t:Sl}{i j:Nat}(h:(A.set i s)[j]?=some t):(i=j/\t=s/\i < A.length)∨(i≠j/\A[j]?=some t):=by
 by_cases c:i=j
 ·subst c
  rw[DT,qX rfl]at h;split at h
  ·cases h;exact .inl ⟨rfl,rfl,by assumption⟩
  ·cases h
 ext
theorem VR.has(h:VR H0 A σ F G H)(hi:i < A.length):i < σ.length:=by
 obtain⟨y,l,_⟩:=h.sl i (A[i]) (AI hi);exact(AJ.mp l).1
theorem VR.set{A:List Sl}{G:Nat->AL->Prop}(h:VR H0 A σ F G H){P:Hp->Hp->V->Prop}{x:V}(i:Nat)(m:∀H',Fr F H H'->P H0 H' x):VR H0 (A.set i (.q P)) (σ.set i (some x)) F G H:=by
 refine⟨h.kp,h.f0,h.fh,λj t l=>?_,h.gn,h.ds⟩
 rcases JY l with⟨rfl,rfl,o⟩ | ⟨c,l⟩
 ·exact⟨_,by rw[DT,qX rfl,qX (h.has o)],x,rfl,m⟩
 ·rw[Cr c];exact h.sl j t l
theorem Vs.set(h:Vs H0 A σ F H)(i:Nat)(l:∀H',Fr F H H'->P H0 H' x):Vs H0 (A.set i (.q P)) (σ.set i (some x)) F H:=let ⟨G,h⟩:=h;⟨G,h.set i l⟩
theorem Vs.at{A:List Sl}(h:Vs H0 A σ F H){i:Nat}{P:Hp->Hp->V->Prop}(hi:A[i]?=some (.q P)):∃y,σ[i]?=some (some y)/\∀H',Fr F H H'->P H0 H' y:=by
 obtain⟨G,h⟩:=h;obtain⟨x,l,y,rfl,m⟩:=h.sl i _ hi;exact⟨y,l,m⟩
abbrev sv(K:AB)(d:D):Sl:=.q λG H y=>RD K H d y
abbrev sz(K:AB)(o:Ob):Sl:=.q λG H y=>∃a,y=.ref a/\OB K H a o
abbrev sy(K:AB)(o:Ob):Sl:=.q λH0 H y=>∃a,y=.ref a/\H0 a=none/\OB K H a o
abbrev Rk(α:Type):=α->Hp->V->Hp->Prop
def rV(K:AB)(enc:α->D):Rk α:=λv G x H=>RD K H (enc v) x
def rN(K:AB)(ob:α->Ob):Rk α:=λv H x H'=>∃a,x=.ref a/\H a=none/\OB K H' a (ob v)
def rO(K:AB)(ob:α->Ob):Rk α:=λv G x H=>∃a,x=.ref a/\OB K H a (ob v)
def tE(A:List Sl)(R:Rk α)(v:α):TE:=λσ H Q=>∃H0 F,Vs H0 A σ F H/\∀x H',Kp H H'->R v H x H'->Q x H'
def VE(X:Cx)(A:List Sl)(e:Expr)(R:Rk α)(p:Option α):Prop:=∀v,p=some v->PE X e (tE A R v)
def VB(X:Cx)(A:List Sl)(e:Expr)(p:Option Bool):Prop:=∀v,p=some v->PT X e (λσ H Q=>∃H0 F,Vs H0 A σ F H/\∀H',Kp H H'->Q v H')
theorem ER{A:List Sl}{R:Rk α}{S:Rk β}{v:α}{u:β}{T:V->V->Hp->Prop}(h:∃H0 F,Vs H0 A σ F H/\∀x y l H2,Kp H l->Kp l H2->R v H x l->S u l y H2->T x y H2) :
  tE A R v σ H λx l=>tE A S u σ l λy H2=>T x y H2:=by
 obtain⟨H0,F,m,h⟩:=h;exact⟨H0,F,m,λx l o w=>⟨H0,_,m.grow o,λy H2 B C=>h x y l H2 o B w C⟩⟩
section
variable{X:Cx}{A:List Sl}{e a b:Expr}{pos:Pos}
theorem aH{i:Nat}{enc:α->D}{v:α}(h:autoParam (PE X e (DX i)) yq0q)(hi:autoParam (A[i]?=some (sv X.K (enc v))) yq0q):VE X A e (rV X.K enc) (some v):=λG l=>h.imp<|by
 rintro σ H Q ⟨H0,F,m,q⟩
 cases l;obtain⟨y,o,w⟩:=m.at hi;exact⟨y,o,q y H .refl (w H Kp.refl.fr)⟩
abbrev _root_.zIq(X:L2.Cx):=rV X.K D.int
theorem A4:VE X A (.Constant (.int i) j pos) (zIq X) (some i):=λG l=>lc.imp λσ H Q ⟨H0,F,m,q⟩=>by cases l;exact q _ H .refl (.int _)
theorem jD{op:NM}{r:R2}{m:α->D}{eb:β->D}{ec:γ->D}{pa:Option α}{o:Option β}{g:α->β->Option γ}(E:OpR X (EL op) r)(G:VE X A a (rV X.K m) pa)(hb:VE X A b (rV X.K eb) o)
  (I:∀x y z u v H Q,g x y=some z->RD X.K H (m x) u->RD X.K H (eb y) v->(∀w,RD X.K H (ec z) w->Q w H)->r u v H Q):VE X A (.BinOp a op b pos) (rV X.K ec) (pa.bind λx=>o.bind λy=>g x y):=λv l=>by
 obtain⟨x,J,l⟩:=AR l;obtain⟨y,L,N⟩:=AR l
 exact(ba E (G x J) (hb y L)).imp (by rintro σ H Q ⟨H0,F,O,q⟩;exact ER ⟨H0,F,O,λu w U B P C R S=>I x y v u w B Q N (C.rd R) S λz T=>q z B (P.trans C) T⟩)
theorem UO{op:NM}{C:Int->Int->Prop}[∀i j,Decidable (C i j)]{g:Int->Int->Int}{pa m:Option Int}(o:OpR X (EL op) (rI C λi j=>.int (g i j)))(w:VE X A a (zIq X) pa)(hb:VE X A b (zIq X) m) :
  VE X A (.BinOp a op b pos) (zIq X) (pa.bind λx=>m.bind λy=>if C x y then some (g x y)else none):=jD o w hb λx y z u v H Q l B E G=>by
 cases B;cases E;split at l
 ·cases l;exact⟨x,y,rfl,rfl,by assumption,G _ (.int _)⟩
 ·cases l
def tV(A:List Sl)(R:Rk ρ)(B:τ->List Sl)(f:Fw ρ τ):TS:=λD σ H=>∃H0 F,Vs H0 A σ F H/\match f with
 | .nx s=>∀l F' H',Vs H0 (B s) l F' H'->Fe F H F' H'->D.nx l H'
 | .ct s=>∀l F' H',Vs H0 (B s) l F' H'->Fe F H F' H'->D.ct l H'
 | .bk s=>∀l F' H',Vs H0 (B s) l F' H'->Fe F H F' H'->D.bk l H'
 | .rt r=>∀x H',Kp H0 H'->R r H0 x H'->D.rt x H'
def VS(X:Cx)(A:List Sl)(st:B6)(R:Rk ρ)(p:Option (Fw ρ τ))(B:τ->List Sl):Prop:=∀f,p=some f->PS X st (tV A R B f)
def VSs(X:Cx)(A:List Sl)(st:List B6)(R:Rk ρ)(p:Option (Fw ρ τ))(B:τ->List Sl):Prop:=∀f,p=some f->PSs X st (tV A R B f)
theorem Ms{w:List Sl}{R:Rk ρ}{B:τ->List Sl}{f:Fw ρ τ}{D:dQ}(h:∃H0 F m o,Vs H0 w σ F H/\Fe m o F H/\match f with
 | .nx s=>∀l F' H',Vs H0 (B s) l F' H'->Fe m o F' H'->D.nx l H'
 | .ct s=>∀l F' H',Vs H0 (B s) l F' H'->Fe m o F' H'->D.ct l H'
 | .bk s=>∀l F' H',Vs H0 (B s) l F' H'->Fe m o F' H'->D.bk l H'
 | .rt r=>∀x H',Kp H0 H'->R r H0 x H'->D.rt x H'):tV w R B f D σ H:=by
 obtain⟨H0,F,m,o,C,e,h⟩:=h;refine⟨H0,F,C,?_⟩
 cases f with
 | rt r=>exact h
 | nx s=>exact λl F' H' v z=>h l F' H' v (e.trans z)
 | bk s=>exact λl F' H' v z=>h l F' H' v (e.trans z)
 | ct s=>exact λl F' H' v z=>h l F' H' v (e.trans z)
theorem Aq{st:B6}{R:Rk ρ}{p:Option (Fw ρ τ)}{B:τ->List Sl}(h:VS X A st R p B):VSs X A [st] R p B:=λf l=>gX (h f l)
theorem Ah{m:Type}{st:B6}{l:List B6}{R:Rk ρ}{p:Option (Fw ρ τ)}{q:τ->Option (Fw ρ m)}{B:τ->List Sl}{C:m->List Sl}(G:VS X A st R p B)(hb:∀s,VSs X (B s) l R (q s) C):VSs X A (st :: l) R (AU p q) C:=λf o=>by
 cases p with
 | none=>cases o
 | some w=>cases w with
  | nx s=>exact(Ul (G _ rfl) (hb s f o)).imp (by rintro D σ H ⟨H0,F,E,k⟩;exact ⟨H0,F,E,λI F' H' v e=>Ms ⟨H0,F',F,H,v,e,k⟩⟩)
  | rt r=>cases o;exact(Ul (G _ rfl) (JH)).imp (by rintro D σ H ⟨H0,F,E,k⟩;exact ⟨H0,F,E,k⟩)
  | bk s=>cases o
  | ct s=>cases o
def VEA(X:Cx)(A:List Sl)(i:Nat)(st:B6)(R:Rk α)(p:Option α):Prop:=∀v,p=some v->PS X st (gJ (tE A R v) (IT i))
theorem aa(h:VE X A e R p)(m:X.N.Nodup)(hi:X.N[i]?=some x)(o:Loc X.env.scope x)(hs:Bb e (some (.Name x l)) pos.line X.env=pure false)(w:zFn X x):VEA X A i (.Assign [.Name x l] e pos) R p:=λv B=>bT m hi o (h v B) hs w
theorem vsa{st:B6}{enc:α->D}{R:Rk ρ}{p:Option α}{i:Nat}(h:VEA X A i st (rV X.K enc) p):VS X A st R (p.bind λv=>some (.nx v)) (λv=>A.set i (sv X.K (enc v))):=λf m=>by
 obtain⟨v,o,w⟩:=AR m;cases w
 exact(h v o).imp (by rintro D σ H ⟨H0,F,l,k⟩;exact ⟨H0,F,l,λx H' kp r=>k _ _ _ ((l.grow kp).set i λB f=>f.rd r) kp.fe⟩)
theorem DW{x:Str}{l:Pos}{enc:α->D}{R:Rk ρ}{p:Option α}(i:Nat)(h:VE X A e (rV X.K enc) p)(m:autoParam X.N.Nodup yq6q)(hi:autoParam (X.N[i]?=some x) yq0q)(o:autoParam (Loc X.env.scope x) yq4q)
  (hs:autoParam (Bb e (some (.Name x l)) pos.line X.env=pure false) yq0q) (w:autoParam (zFn X x) yq3q) :
  VS X A (.Assign [.Name x l] e pos) R (p.bind λv=>some (.nx v)) (λv=>A.set i (sv X.K (enc v))):=vsa (aa h m hi o hs w)
theorem CH(h:VE X A e R p)(m:∀v H H' x H2,Kp H H'->R v H' x H2->R v H x H2:=by exact λG G G G G G h=>h):VS X A (.Return (some e) pos) R (p.bind λv=>some (.rt v)) B:=λf o=>by
 obtain⟨v,w,C⟩:=AR o;cases C
 exact(S9 (h v w)).imp λD σ H ⟨H0,F,l,k⟩=>⟨H0,F,l,λx H' kp r=>k x H' (l.kp.trans kp) (m _ _ _ _ _ l.kp r)⟩
def JOk(P:α->Hp->V->Prop)(l:List α)(F:AL->Prop)(H:Hp)(J:It):Prop:=∀F' H',Fe F H F' H'->∀i:Nat,(l[i]?=none->J.stop i H')/\∀v,l[i]?=some v->J.go i H'/\∀x m,J.yld i H' x m->Kp H' m/\∀o,Fr (gF F' H' m) m o->P v o x
def rd(K:AB)(enc:α->D):α->Hp->V->Prop:=λv H x=>RD K H (enc v) x
def VI(X:Cx)(A:List Sl)(tg e:Expr)(P:α->Hp->V->Prop)(p:Option (List α)):Prop:=∀l,p=some l->PI X tg e (λσ H R=>∃H0 F,Vs H0 A σ F H/\∀J m,Kp H m->JOk P l (gF F H m) m J->R J m)
def VT(g:TG)(P:α->Hp->V->Prop)(t:α->List Sl->List Sl):Prop:=∀H0 A σ F H v x Q,Vs H0 A σ F H->(∀H',Fr F H H'->P v H' x)->(∀l,Vs H0 (t v A) l F H->Q l H)->g x σ H Q
theorem CJ:VT (IT i) (rd K enc) (λv A=>A.set i (sv K (enc v))):=λH0 A σ F H v x Q l r k=>k _ (l.set i r)
def Wk(A B:List Sl):Prop:=∀H0 σ F H,Vs H0 A σ F H->∃F',Vs H0 B σ F' H/\Fe F H F' H
theorem Wk.refl:Wk A A:=λG G F G h=>⟨F,h,.refl⟩
theorem Hk(hi:VI X A tg iter P p)(hg:PG X tg g)(ht:VT g P t)
  (w0:Wk A (B s0)) (hb:∀s x,VSs X (t x (B s)) C R (q s x) B) (hx:autoParam (X.xe=λJ J=>False) yq0q) (hc:autoParam (X.calm=true) yq0q) (hs:autoParam (∀x,B5 iter X.env x=pure x) yq2q) :
  VS X A (.For tg iter C [] pos) R (p.bind λl=>BZ l s0 q) B:=λf hf=>by
 obtain⟨l,h1,h2⟩:=AR hf
 have Z:PSs X C (λD σ H=>∃s x E,q s x=some E/\tV (t x (B s)) R B E D σ H):=by rintro ζ s σ H D I ⟨L,x,E,e,h⟩;exact hb L x E e ζ s σ H D I h
 refine(lR (good_none hx).own hc (hi l h1) hg Z hs).imp λD σ H ⟨H0,F,hs,k⟩=>?_
 refine⟨H0,F,hs,λJ T kp xU=>?_⟩;obtain⟨F1,vH,fe1⟩:=w0 _ _ _ _ (hs.grow kp);refine⟨λi m w H'=>m=l.length - i/\i<=l.length/\∃F' s,Vs H0 (B s) w F' H'/\Fe (gF F H T) T F' H'/\BZ (l.drop i) s q=some f,⟨_,rfl,Bc _,_,s0,vH,fe1,by trivial⟩,?_⟩;rintro i m w H' ⟨rfl,hle,F',s,hv,fe,o⟩;obtain⟨j1,j2⟩:=xU F' H' fe i
 cases U:l[i]? with
 | none=>
  have hn:=CY.mp U;rw[Vb hn]at o;cases o;exact .inl ⟨j1 U,k w F' H' hv (kp.fe.trans fe)⟩
 | some v=>
  obtain⟨rk,sO⟩:=AJ.mp U;obtain⟨j3,j4⟩:=j2 v U;rw[Dx rk,sO]at o;unfold BZ at o;refine .inr ⟨j3,λσ2 N=>∃Y,Y < l.length - i/\Y=l.length - (i+1)/\i+1<=l.length/\∃F' s,Vs H0 (B s) σ2 F' N/\Fe (gF F H T) T F' N/\BZ (l.drop (i+1)) s q=some f,by rintro _ _ ⟨Y,a,b⟩;exact ⟨Y,a,b⟩,λx N hy=>?_⟩;obtain⟨k2,r2⟩:=j4 x N hy
  refine ht H0 (B s) w _ N v x _ (hv.grow k2) r2 λσ3 hv3=>?_
  have w6:=fe.trans (k2.fe)
  cases hq:q s v with
  | none=>ext
  | some E=>
   rw[hq]at o;refine⟨s,v,E,hq,H0,_,hv3,?_⟩
   cases E with
   | nx L=>exact λG O H4 Q S=>⟨_,by grind,rfl,rk,O,L,Q,w6.trans S,o⟩
   | ct L=>exact λG O H4 Q S=>⟨_,by omega,rfl,rk,O,L,Q,w6.trans S,o⟩
   | bk L=>cases o;exact λG O H4 Q S=>k G O H4 Q (kp.fe.trans (w6.trans S))
   | rt r=>cases o;exact k
end
end
open L2
section
variable{K:AB}{H H' H0:Hp}{F F' S:AL->Prop}{σ:L2.St}{A B:List Sl}
theorem Wk.trans(a:Wk A B)(b:Wk B C):Wk A C:=λH0 σ F H h=>by
 obtain⟨l,m,o⟩:=a H0 σ F H h;obtain⟨w,E,G⟩:=b H0 σ l H m;exact⟨w,E,o.trans G⟩
set_option genInjectivity true in
inductive Ws:List Sl->List Sl->Prop where
 | nil:Ws [] []
 | same {a:Sl} {A B:List Sl}:Ws A B->Ws (a :: A) (a :: B)
 | drop {a:Sl} {A B:List Sl}:Ws A B->Ws (a :: A) (.u :: B)
 | less {P Q:Hp->Hp->V->Prop} {A B:List Sl} (h:∀H0 H x,P H0 H x->Q H0 H x):Ws A B->Ws (.q P :: A) (.q Q :: B)
 | lesg {P Q:Hp->(AL->Prop)->Hp->V->Prop} {A B:List Sl} (h:∀H0 S H x,P H0 S H x->Q H0 S H x):Ws A B->Ws (.g P :: A) (.g Q :: B)
theorem Ws.ok{a b:Sl}{A B:List Sl}(w:Ws A B):∀{i:Nat},B[i]?=some b->∃a,A[i]?=some a/\∀x,a.ok H0 F S H x->b.ok H0 F S H x:=by
 induction w with
 | nil=>intro i h;simp at h
 | same w l=>intro i h;cases i with
  | zero=>cases h;exact⟨_,rfl,λG z=>z⟩
  | succ i=>exact l h
 | drop w l=>intro i h;cases i with
  | zero=>cases h;exact⟨_,rfl,λG G=>trivial⟩
  | succ i=>exact l h
 | less z w l=>intro i h;cases i with
  | zero=>cases h;exact⟨_,rfl,by rintro x ⟨y,m,o⟩;exact ⟨y,m,λH' f=>z _ _ _ (o H' f)⟩⟩
  | succ i=>exact l h
 | lesg z w l=>intro i h;cases i with
  | zero=>cases h;exact⟨_,rfl,by rintro x ⟨y,m,o⟩;exact ⟨y,m,λH' f k=>z _ _ _ _ (o H' f k)⟩⟩
  | succ i=>exact l h
theorem Ws.vr{G:Nat->AL->Prop}(w:Ws A B)(h:VR H0 A σ F G H):VR H0 B σ F G H:=by
 refine⟨h.kp,h.f0,h.fh,λi b hb=>?_,h.gn,h.ds⟩;obtain⟨a,l,m⟩:=w.ok (a:=b) hb;obtain⟨x,o,C⟩:=h.sl i a l;exact⟨x,o,m x C⟩
theorem Ws.vs(w:Ws A B)(h:Vs H0 A σ F H):Vs H0 B σ F H:=let ⟨G,h⟩:=h;⟨G,w.vr h⟩
theorem Ws.wk(w:Ws A B):Wk A B:=λH0 σ F H h=>⟨F,w.vs h,.refl⟩
theorem VR.own(h:VR H0 A σ F G H)(i:Nat)(fe:Fe F H F' H')(N:∀b o,H b=some o->¬G i b->H' b=some o)(Q:∀b,F' b->F b∨H b=none)(R:∀b,F' b->∃o,H' b=some o)
  (O:∀b,S' b->(G i b∨H b=none)/\¬F' b/\∃o,H' b=some o) (T:∀J,Fr F' H' J->(∀a,S' a->J a=H' a)->P H0 S' J y):VR H0 (A.set i (.g P)) (σ.set i (some y)) F' (λj=>if j=i then S' else G j) H':=by
 have m:∀j a,j≠i->G j a->H' a=H a/\∃o,H a=some o:=λj a c z=>by
  obtain⟨o,w⟩:=(h.gn j a z).2;exact⟨by rw[w,N a o w λq=>c (h.ds j i a z q)],o,w⟩
 refine⟨λb o e=>N b o (h.kp b o e) λz=>(h.gn i b z).1 (h.f0 b o e),λb o e=>fe.le b (h.f0 b o e),R,λj s L=>?_,λj a z=>?_,λj l a E C=>?_⟩
 ·rcases JY L with⟨rfl,rfl,U⟩ | ⟨c,L⟩
  ·exact⟨_,by rw[DT,qX rfl,qX (h.has U)],y,rfl,by rw[qX rfl];exact T⟩
  ·obtain⟨x,X,Y⟩:=h.sl j s L
   rw[Cr c,qY (CO c)];exact⟨x,X,Sl.mono Y fe λa Z=>(m j a (CO c) Z).1⟩
 ·by_cases c:j=i
  ·ext
  ·rw[qY c]at z
   obtain⟨e,o,w⟩:=m j a c z;exact⟨λq=>(Q a q).elim (h.gn j a z).1 λq=>(by ext),o,e.trans w⟩
 ·by_cases c:j=i
  ·by_cases I:l=i
   ·ext
   ·rw[qX c]at E
    rw[qY I]at C;obtain⟨e,o,w⟩:=m l a I C;exact c.trans (((O a E).1.elim (λq=>h.ds i l a q C) λq=>by ext))
  ·rw[qY c]at E
   by_cases I:l=i
   ·rw[qX I]at C
    obtain⟨e,o,w⟩:=m j a c E;exact((O a C).1.elim (λq=>h.ds j i a E q) λq=>by ext).trans I.symm
   ·rw[qY I]at C
    exact h.ds j l a E C
def pa(K:AB)(Z:AL->Prop)(o:Ob):Hp->(AL->Prop)->Hp->V->Prop:=λG S H y=>∃a,y=.ref a/\S=(λb=>b=a)/\OB K H a o/\Z a
abbrev sw(K:AB)(o:Ob):Sl:=.g (pa K (λG=>True) o)
abbrev sx(K:AB)(x:AL)(o:Ob):Sl:=.g (pa K (λa=>a=x) o)
theorem VR.atG(h:VR H0 A σ F G H)(hi:A[i]?=some (.g P)):∃y,σ[i]?=some (some y)/\∀H',Fr F H H'->(∀a,G i a->H' a=H a)->P H0 (G i) H' y:=by
 obtain⟨x,l,y,rfl,m⟩:=h.sl i _ hi;exact⟨y,l,m⟩
set_option tactic.hygienic true in
theorem Z0(hi:A[i]?=some (.g P))(I:∀S H0 H y,(∀a,S a->H0 a=none)->P H0 S H y->Q H0 H y):Wk A (A.set i (.q Q)):=by
 rintro H0 σ F H ⟨G,h⟩
 obtain⟨y,J,L⟩:=h.atG hi;have fe:Fe F H (λb=>F b∨G i b) H:=⟨λM z=>.inl z,Kp.refl.fr⟩;refine⟨_,⟨λj=>if j=i then λM=>False else G j,h.kp,λb o e=>.inl (h.f0 b o e),λb f=>f.elim (h.fh b) λz=>(h.gn i b z).2,λj s m=>?_,λj a z=>?_,λj l a w C=>?_⟩,fe⟩
 ·rcases JY m with⟨rfl,rfl,R⟩ | ⟨c,m⟩
  ·refine⟨_,J,y,rfl,λH' f=>I (G i) _ _ _ (λa z=>?_) (L H' ⟨f.tup,f.frz,λb o z=>f.fix b o (.inl z)⟩ λa z=>?_)⟩
   ·cases e:H0 a with
    | none=>rfl
    | some o=>exact zX (h.f0 a o e) (h.gn i a z).1
   ·obtain⟨o,E⟩:=(h.gn i a z).2
    rw[E,f.fix a o (.inr z) E]
  ·obtain⟨x,N,O⟩:=h.sl j s m
   rw[qY (CO c)];exact⟨x,N,Sl.mono O fe λM M=>rfl⟩
 ·split at z
  ·exact z.elim
  ·rename_i c
   exact⟨λq=>q.elim (h.gn j a z).1 λq=>c (h.ds j i a z q),(h.gn j a z).2⟩
 ·split at w
  ·exact w.elim
  ·split at C
   ·exact C.elim
   ·exact h.ds j l a w C
theorem JT(hi:A[i]?=some (sw K o)):Wk A (A.set i (sy K o)):=Z0 hi (by rintro S H0 H y l ⟨a,m,w,C,_⟩;exact ⟨a,m,l a (by rw[w]),C⟩)
theorem Vs.own(h:Vs H0 A σ F H)(k:Kp H H')(i:Nat)(m:H a=none)(l:OB K H' a o):Vs H0 (A.set i (sw K o)) (σ.set i (some (.ref a))) (λb=>gF F H H' b/\b≠a) H'/\Fe F H (λb=>gF F H H' b/\b≠a) H':=by
 obtain⟨G,h⟩:=h
 have ne:∀b ob,H b=some ob->b≠a:=λb ob e c=>by ext
 have fe:Fe F H (λb=>gF F H H' b/\b≠a) H':=⟨λb f=>⟨.inl f,let ⟨ob,e⟩:=h.fh b f;ne b ob e⟩,k.fr⟩;obtain⟨u,w⟩:=l.at;refine⟨⟨_,h.own i (S':=λb=>b=a) fe (λb o e I=>k b o e) (λb f=>f.1.imp id λz=>z.1) (λb f=>f.1.elim (λz=>let ⟨o,e⟩:=h.fh b z;⟨o,k b o e⟩) λz=>z.2) (λb e=>by ext) λC f z=>⟨a,rfl,rfl,f.ob (z a rfl) l,trivial⟩⟩,fe⟩
theorem Vs.put(h:Vs H0 A σ F H)(hi:A[i]?=some (.g (pa K Z o))):∃a,σ[i]?=some (some (.ref a))/\OB K H a o/\Z a/\∀{H':Hp} {o':Ob} {u:HO},H'=upd H a u->OB K H' a o'->(∀xs,H a≠some (.tup xs))->(∀ob z,H a≠some (.frz ob z))->Vs H0 (A.set i (.g (pa K Z o'))) σ F H'/\Fe F H F H':=by
 obtain⟨G,h⟩:=h;obtain⟨y,m,C⟩:=h.atG hi
 obtain⟨a,rfl,l,E,w⟩:=C H Kp.refl.fr λM M=>rfl
 refine⟨a,m,E,w,λ{H' o' u} e I J L=>?_⟩;subst e;have N:=(h.gn i a (by rw[l])).1
 have ne:∀b,F b->b≠a:=λb hb c=>N (c▸hb)
 have fe:Fe F H F (upd H a u):=⟨λM z=>z,λb xs e=>by rw[AO (show b≠a from λc=>J xs (c▸e))];exact e,λb ob z e=>by rw[AO (show b≠a from λc=>L ob z (c▸e))];exact e,λb ob f e=>by rw[AO (ne b f)];exact e⟩
 have:=h.own i (S':=G i) (P:=pa K Z o') fe (λb o e z=>by rw[AO (λc=>z (by rw[l,c]))];exact e) (λb f=>.inl f) (λb f=>by rw[AO (ne b f)];exact h.fh b f) (λb z=>⟨.inl z,(h.gn i b z).1,by rw[l]at z;cases z;exact⟨u,Ar⟩⟩) λQ f z=>⟨a,rfl,l,f.ob (z a (by rw[l])) I,w⟩
 have e:σ.set i (some (.ref a))=σ:=by
  obtain⟨O,e⟩:=AJ.mp m;rw[<-e];exact K8 O
 rw[e]at this;exact⟨⟨_,this⟩,fe⟩
end
open L2
open L4 (Fw AU BZ Bv Je BW AR HW eT oL Lb Nm D7)
section
variable{X:Cx}{A A':List Sl}{e a b c:Expr}{es:List Expr}{pos:Pos}{α β γ ρ τ τ':Type}
theorem oj(w:Wk A A')(h:VSs X A' sts R p B):VSs X A sts R p B:=λf m=>(h f m).imp<|by
 rintro D o H ⟨l,F,C,k⟩
 obtain⟨E,G,I⟩:=w l o F H C;exact Ms ⟨l,E,F,H,G,I,k⟩
theorem Si{st:B6}{R:Rk ρ}{p:Option (Fw ρ τ)}{B:τ->List Sl}(w:Wk A A')(h:VS X A' st R p B):VS X A st R p B:=λf m=>(h f m).imp<|by
 rintro D o H ⟨l,F,C,k⟩
 obtain⟨E,G,I⟩:=w l o F H C;exact Ms ⟨l,E,F,H,G,I,k⟩
theorem EV(h:VE X A e (rN X.K ob) q):VE X A e (rO X.K ob) q:=λv l=>(h v l).imp λE H Q ⟨m,F,o,k⟩=>⟨m,F,o,λx w kp ⟨a,B,_,C⟩=>k x w kp ⟨a,B,C⟩⟩
theorem ka(w:∀s,Wk (B s) (C (g s)))(J:BW g p=some f) :
  ∃E,p=some E/\∀D G H,tV A R C f D G H->tV A R B E D G H:=by
 have I:∀{k:L2.St->Hp->Prop} {o H F s},(∀l m H',Vs o (C (g s)) l m H'->Fe F H m H'->k l H')->∀l m H',Vs o (B s) l m H'->Fe F H m H'->k l H':=λ{k o H F s} h l m H' v z=>by
  obtain⟨L,N,O⟩:=w s o l m H' v;exact h l L H' N (z.trans O)
 cases p with
 | none=>cases J
 | some E=>
  refine⟨E,rfl,λD G H ⟨o,F,P,k⟩=>⟨o,F,P,?_⟩⟩
  cases E <;> cases J <;> first | exact k | exact I k
theorem Gi{st:B6}{R:Rk ρ}{p:Option (Fw ρ τ)}{B:τ->List Sl}{C:τ'->List Sl}{g:τ->τ'}(h:VS X A st R p B)(w:∀s,Wk (B s) (C (g s))):VS X A st R (BW g p) C:=λf l=>by
 obtain⟨m,o,E⟩:=ka w l;exact(h m o).imp E
theorem Cq(w:Wk A (B s)):VSs X A [] R (some (.nx s)) B:=λf m=>by
 cases m
 exact gY.imp λD l H ⟨o,F,C,k⟩=>let ⟨E,G,I⟩:=w o l F H C;k l E H G I
theorem Ln(C:VB X A c pt)(I:VSs X A J R p B)(hb:VSs X A L R q B):VS X A (.If c J L pos) R (pt.bind λc=>if c=true then p else q) B:=λf N=>by
 obtain⟨v,E,G⟩:=AR N
 cases v with
 | true=>exact(Xg (C _ E) (I f G) JH).imp λD o H ⟨l,F,m,k⟩=>⟨l,F,m,λw kp=>by show tV A R B f D o w;exact Ms ⟨l,_,F,H,m.grow kp,kp.fe,k⟩⟩
 | false=>exact(Xg (C _ E) JH (hb f G)).imp λD o H ⟨l,F,m,k⟩=>⟨l,F,m,λw kp=>by show tV A R B f D o w;exact Ms ⟨l,_,F,H,m.grow kp,kp.fe,k⟩⟩
section
variable{x:Str}{pos':Pos}{ob:α->Ob}{R:Rk ρ}{p:Option α}
theorem UF{st}{i}(h:VEA X A i st (rN X.K ob) p):VS X A st R (p.bind λv=>some (.nx v)) (λv=>A.set i (sy X.K (ob v))):=λf E=>by
 obtain⟨v,G,I⟩:=AR E;cases I
 refine(h v G).imp λD N H ⟨B,F,l,k⟩=>⟨B,F,l,λx O kp ⟨a,J,m,C⟩=>?_⟩
 obtain⟨u,w⟩:=C.at;refine k _ _ _ ((l.grow kp).set i λP f=>⟨a,J,?_,f.ob (by rw[w,f.fix a u (.inr ⟨m,u,w⟩) w]) C⟩) kp.fe
 cases L:B a with
 | none=>rfl
 | some o=>rw[l.kp a o L]at m;cases m
theorem og{st}{i}(h:VEA X A i st (rN X.K ob) p):VS X A st R (p.bind λv=>some (.nx v)) (λv=>A.set i (sw X.K (ob v))):=λf w=>by
 obtain⟨v,B,C⟩:=AR w;cases C
 exact(h v B).imp λD I H ⟨E,F,l,k⟩=>⟨E,F,l,λx J kp ⟨a,G,m,o⟩=>by subst G;exact k _ _ _ (l.own kp i m o).1 (l.own kp i m o).2⟩
theorem HS(i:Nat)(h:VE X A e (rN X.K ob) p)(l:autoParam X.N.Nodup yq6q)(hi:autoParam (X.N[i]?=some x) yq0q)(m:autoParam (Loc X.env.scope x) yq4q)(hs:autoParam (Bb e (some (.Name x pos')) pos.line X.env=pure false) yq0q)(o:autoParam (zFn X x) yq3q):VS X A (.Assign [.Name x pos'] e pos) R (p.bind λv=>some (.nx v)) (λv=>A.set i (sy X.K (ob v))):=UF (aa h l hi m hs o)
theorem D9(i:Nat)(h:VE X A e (rN X.K ob) p)(l:autoParam X.N.Nodup yq6q)(hi:autoParam (X.N[i]?=some x) yq0q)(m:autoParam (Loc X.env.scope x) yq4q)(hs:autoParam (Bb e (some (.Name x pos')) pos.line X.env=pure false) yq0q)(o:autoParam (zFn X x) yq3q):VS X A (.Assign [.Name x pos'] e pos) R (p.bind λv=>some (.nx v)) (λv=>A.set i (sw X.K (ob v))):=og (aa h l hi m hs o)
end
theorem Ej(h:autoParam (PE X e (DX i)) yq0q)(hi:autoParam (A[i]?=some (sw X.K (ob v))) yq0q):VE X A e (rO X.K ob) (some v):=λG l=>h.imp<|by
 rintro B H Q ⟨C,F,m,q⟩
 cases l;obtain⟨a,o,w,_⟩:=m.put hi;exact⟨_,o,q _ H .refl ⟨a,rfl,w⟩⟩
theorem C6(h:autoParam (PE X e (DX i)) yq0q)(hi:autoParam (A[i]?=some (sz X.K (ob v))) yq0q):VE X A e (rO X.K ob) (some v):=λG l=>h.imp<|by
 rintro B H Q ⟨C,F,m,q⟩
 cases l;obtain⟨y,o,w⟩:=m.at hi;exact⟨_,o,q _ H .refl (w H Kp.refl.fr)⟩
theorem Dk(h:autoParam (PE X e (DX i)) yq0q)(hi:autoParam (A[i]?=some (sy X.K (ob v))) yq0q):VE X A e (rO X.K ob) (some v):=λI l=>h.imp<|by
 rintro E H Q ⟨G,F,m,q⟩
 cases l;obtain⟨y,o,w⟩:=m.at hi;obtain⟨a,B,_,C⟩:=w H Kp.refl.fr;exact⟨_,o,q _ H .refl ⟨a,B,C⟩⟩
theorem LA(h:PE X e (DX i))(hi:A[i]?=some (sw X.K (ob v))∨A[i]?=some (sy X.K (ob v)):=by first | exact .inl rfl | exact .inr rfl):VS X A (.Return (some e) pos) (rN X.K ob) (some (.rt v)) B:=λf w=>by
 cases w
 refine(S9 h).imp λD C H ⟨E,F,l,k⟩=>?_
 rcases hi with hi | hi
 ·obtain⟨I,m,_⟩:=JT hi E C F H l
  obtain⟨y,o,G⟩:=m.at (by rw[DT,qX rfl,qX (AJ.mp hi).1]);exact⟨_,o,k _ H l.kp (G H Kp.refl.fr)⟩
 ·obtain⟨y,m,o⟩:=l.at hi
  exact⟨_,m,k _ H l.kp (o H Kp.refl.fr)⟩
theorem ZX(h:HW l v=some m):l.length < 1000000/\m=l++[v]:=by
 unfold HW at h;ext
abbrev _root_.zSq(X:L2.Cx)(e:Expr):Prop:=AH [e] X.env=(false,A6 e X.env) :: AH [] X.env
theorem NU(Q:PE X o (DX i))(h:VE X A e (rV X.K enc) p)(hi:autoParam (A[i]?=some (sw X.K (oL enc l))) yq0q)(S:autoParam (Bi o "append" X.env (A6 o X.env)=A6 o X.env) yq0q)
  (T:autoParam (((Cu m (AH [e] X.env)).all (λx=>!x.1)&&(NI m (IB [] X.env)).all (λx=>x.1.isSome)
    &&decide ([e].length+([]:List KD).length+(if ([]:List KD).isEmpty then 0 else 1) < 30))=true) yq0q)
  (U:autoParam ((w.endLine==m.line)=true) yq0q) (hs:autoParam (zSq X e) yq0q) (Y:autoParam ((Cu m (AH [] X.env)).any (·.1)=false) yq0q) (Z:autoParam (Bb (.Call (.Attribute o "append" w) [e] [] m) none pos.line X.env=pure false) yq0q) :
  VS X A (.Expr (.Call (.Attribute o "append" w) [e] [] m) pos) R (p.bind λv=>(HW l v).bind λB=>some (.nx B)) (λB=>A.set i (sw X.K (oL enc B))):=λf G=>by
 obtain⟨v,h1,G⟩:=AR G;obtain⟨B,h2,h3⟩:=AR G;cases h3;obtain⟨hl,rfl⟩:=ZX h2
 refine(O2 (bi Iw Q5 Q4 Nj Q (B3 (h v h1) ET hs) S T U hs Y) Z).imp λD σ H ⟨H0,F,hs,k⟩=>?_
 obtain⟨a,I,g3,_⟩:=hs.put hi;obtain⟨vs,J,g5⟩:=id g3;refine⟨_,I,.inl ⟨rfl,vs,.inl (.inl J)⟩,H0,F,hs,λy C kp r=>?_⟩;have g6:=kp a _ J;have L:=g5.keep (λb M z=>kp b _ z) (λb M M z=>kp b _ z);refine⟨a,vs,y,rfl,rfl,g6,by rw[<-L.length,AF];exact Lb hl,?_⟩
 have N:∀b E,C b=some (.tup E)->upd C a (.lst (vs++[y])) b=some (.tup E):=λb E z=>by rw[AO (λc=>by ext)];exact z
 have O:∀b ob u,C b=some (.frz ob u)->upd C a (.lst (vs++[y])) b=some (.frz ob u):=λb ob u z=>by rw[AO (λc=>by ext)];exact z
 obtain⟨a',P,_,_,up⟩:=(hs.grow kp).put hi;rw[I]at P;cases P;have:=up (o':=oL enc (l++[v])) rfl ⟨_,Ar,by rw[Be];exact(L.keep N O).append (.cons (r.keep N O) .nil)⟩ (λE z=>by ext) (λob z q=>by ext);exact k _ _ _ this.1 (kp.fe.trans this.2)
theorem kL{op:T2}{r:R2}{m:α->D}{eb:β->D}{pa:Option α}{o:Option β}{g:α->β->Option Bool}(E:OpR X (Bo op) r)(G:VE X A a (rV X.K m) pa)(hb:VE X A b (rV X.K eb) o)
  (I:∀x y z u v H Q,g x y=some z->RD X.K H (m x) u->RD X.K H (eb y) v->Q (.bl z) H->r u v H Q) (J:autoParam (BF op b=false) yq9q):VB X A (.Compare a [op] [b] pos) (pa.bind λx=>o.bind λy=>g x y):=λv l=>by
 obtain⟨x,L,l⟩:=AR l;obtain⟨y,N,O⟩:=AR l
 exact(O0 E (G x L) (hb y N) J).imp λY H Q ⟨P,F,R,q⟩=>ER ⟨P,F,R,λu w Z B S C T U=>I x y v u w B _ O (C.rd T) U ⟨v,rfl,q B (S.trans C)⟩⟩
theorem KU(h:VB X A a p):VB X A (.UnaryOp .Not a pos) (p.bind λb=>some (!b)):=λv l=>by
 obtain⟨x,m,o⟩:=AR l;cases o
 exact(bP (h x m)).imp (by rintro C H Q ⟨w,F,B,q⟩;exact ⟨w,F,B,q⟩)
def VL(X:Cx)(A:List Sl)(es:List Expr)(enc:α->D)(p:Option (List α)):Prop:=∀v,p=some v->PA X es (λo H Q=>∃w F,Vs w A o F H/\∀m l,Kp H l->A8 X.K [] l (v.map enc) m->Q m l)
theorem DQ:VL X A [] enc (some []):=by rintro v l pos m s o H Q I ⟨w,F,B,q⟩;cases l;exact ET pos m s o H Q I (q [] H .refl .nil)
theorem Ei(h:VE X A e (rV X.K enc) p)(hl:VL X A es enc q)(hs:autoParam (zSp X e es) yq0q):VL X A (e :: es) enc (p.bind λx=>q.bind λl=>some (x :: l)):=by
 rintro v o pos E s G H Q I ⟨w,F,m,k⟩
 obtain⟨x,J,o⟩:=AR o;obtain⟨l,L,N⟩:=AR o;cases N;exact B3 (h x J) (hl l L) hs pos E s G H Q I ⟨w,F,m,λy S B O=>⟨w,_,m.grow B,λT P C R=>k _ P (B.trans C) (.cons (C.rd O) R)⟩⟩
theorem BX(h:H p=none):Kp H (upd H p o):=λb ob z=>by rw[AO (λc=>by lia)];exact z
set_option tactic.hygienic true in
theorem Ia(h:VL X A es enc p):VE X A (.Tuple es k pos) (rV X.K (eT enc)) (p.bind D7):=λv w=>by
 obtain⟨l,B,m⟩:=AR w;unfold D7 at m
 split at m <;> cases m
 rename_i C
 exact(WO (h v B)).imp (by rintro I H Q ⟨E,F,G,q⟩;exact ⟨E,F,G,λJ L kp r=>⟨by rw[<-r.length,AF];exact Nm C,λp o=>q _ _ (kp.trans (BX o)) (.tup Ar (r.keep (λb J z=>BX o b _ z) λb J J z=>BX o b _ z))⟩⟩)
set_option tactic.hygienic true in
theorem FY(h:VL X A es enc p):VE X A (.List es pos) (rN X.K (oL enc)) (p.bind D7):=λv B=>by
 obtain⟨l,C,w⟩:=AR B;unfold D7 at w
 split at w <;> cases w
 rename_i E
 refine(bb (h v C)).imp λL H Q ⟨G,F,I,q⟩=>⟨G,F,I,λN O kp r=>⟨by rw[<-r.length,AF];exact Nm E,λp m=>q _ _ (kp.trans (BX m)) ⟨p,rfl,?_,_,Ar,r.keep (λb M z=>BX m b _ z) λb M M z=>BX m b _ z⟩⟩⟩
 cases J:H p with
 | none=>rfl
 | some o=>rw[kp p o J]at m;cases m
def dU(l:List (Hp->V->Prop))(H:Hp)(xs:List V):Prop:=l.length=xs.length/\∀(i:Nat) P x,l[i]?=some P->xs[i]?=some x->∀m,Kp H m->P m x
def spV(m:List (Hp->V->Prop))(R:Rk α)(p:Option α):Sp:=λvs H Q E=>∃v,p=some v/\dU m H vs/\∀x l,Kp H l->R v H x l->Q x l
noncomputable def asl(l:List (Hp->V->Prop))(n:Nat):List Sl:=l.map (λP=>.q λG H y=>P H y)++Bk (n - l.length) .u
theorem Vs.start(h:dU B H vs):Vs H (asl B N.length) (L2.start N vs) (λa=>∃o,H a=some o) H:=by
 refine⟨λG G=>False,.refl,λa o e=>⟨o,e⟩,λa e=>e,λi s m=>?_,λi a z=>z.elim,λi j a z=>z.elim⟩
 ·unfold asl at m
  unfold L2.start
  by_cases l:i < B.length
  ·rw[Br (by simpa using l),Ab,AI l]at m
   cases m;have w:=h.1▸l;exact⟨some vs[i],by rw[Br (by simpa using w)];simp[w],_,rfl,λC f=>h.2 i _ _ (AI l) (AI w) C λb o e=>f.fix b o ⟨o,e⟩ e⟩
  ·rw[Bl (by simpa using l),AF]at m
   obtain⟨E,e⟩:=AJ.mp m;rw[List.getElem_replicate]at e;subst e;rw[K9]at E;rw[Bl (by simpa[<-h.1]using l),AF,<-h.1];exact⟨none,by ext,trivial⟩
theorem fnV{P:Al}{w:A1}{K:AB}{T:Str->Option AD}{base:BI}{x o:Str}{st:B6}{f:AL}{fd:D1}{N O:List Str}{k:Nat}{S:List (Hp->V->Prop)}{R:Rk ρ}{q:Option (Fw ρ τ)}{B:τ->List Sl}(F:Fun K x o st f fd)(U:HY N O (Bw st))(Z:S.length=O.length)
  (sH:∀(G:AD) (A:BP) (l:List Env) (s:AK) (H:Hp) (E:XK),FC k (A.deeper (HD o (Bw st) s.heap.objs.size f G))->(A.deeper (HD o (Bw st) s.heap.objs.size f G)).units+64 < Bd->N.Nodup ->
   VSs (Qa (CXG P w) P w K T base N o (Bw st) f G A l s H E).q (asl S N.length) (FB st) R q B):CT P w K T base (CXG P w) (k+1) f fd O (spV S R (Bv q)):=by
 obtain⟨oc,od,kV,doc,pm,an,G,ct,tK,rfl,lk,sP⟩:=F.ex
 refine SA lk sP U (by rintro vs H Q E ⟨v,_,h,_⟩;rw[<-Z,h.1]) ?_;rintro A l s H vs Q E Y ⟨v,L,h2,h3⟩
 have hq:q=some (.rt v):=by
  unfold Bv at L;split at L
  ·cases L;rfl
  ·cases L
 have hb:=sH G A l s H E Y Y.units U.nd _ hq;refine⟨_,λζ s' σ H' D I q=>DP (hb ζ s' σ H' D (I.with _) q) (λfl s1 z=>?_) λe s1 z=>z.elim,H,_,Vs.start h2,h3⟩
 cases fl with
 | next=>obtain⟨m,C,J,z⟩:=z;exact⟨m,C,J.without,z⟩
 | brk=>obtain⟨m,C,J,z⟩:=z;exact⟨m,C,J.without,z⟩
 | cont=>obtain⟨m,C,J,z⟩:=z;exact⟨m,C,J.without,z⟩
 | ret u=>obtain⟨v,m,C,J,r,z⟩:=z;exact⟨v,m,C,J.without,r,z⟩
def VA(X:Cx)(A:List Sl)(es:List Expr)(p:Option γ)(o:γ->List (Hp->V->Prop)):Prop:=∀z,p=some z->PA X es (λw H Q=>∃B F,Vs B A w F H/\∀m l,Kp H l->dU (o z) l m->Q m l)
theorem Bs:VA X A [] (some ()) (λG=>[]):=by rintro v o pos l s m H Q I ⟨w,F,B,q⟩;exact ET pos l s m H Q I (q [] H .refl ⟨rfl,λi P x h=>by simp at h⟩)
theorem Cn{R:Rk α}{P:α->Hp->V->Prop}{p:Option α}{q:Option γ}{B:γ->List (Hp->V->Prop)}(h:VE X A e R p)(T:∀v H x H',R v H x H'->∀o,Kp H' o->P v o x)(hl:VA X A es q B)(hs:autoParam (zSp X e es) yq0q) :
  VA X A (e :: es) (p.bind λx=>q.bind λy=>some (x,y)) (λz=>P z.1 :: B z.2):=by
 rintro v w pos U s Y H Q I ⟨C,F,m,k⟩
 obtain⟨x,Z,w⟩:=AR w;obtain⟨l,h2,h3⟩:=AR w;cases h3;refine B3 (h x Z) (hl l h2) hs pos U s Y H Q I ⟨C,F,m,λy H1 E r1=>⟨C,_,m.grow E,λys o G J=>k _ o (E.trans G) ⟨congrArg (· + 1) J.1,λi P' z L N O S=>?_⟩⟩⟩
 cases i with
 | zero=>cases L;cases N;exact T _ _ _ _ r1 O (G.trans S)
 | succ i=>exact J.2 i P' z L N O S
theorem arV{K}{enc}(v:α)(H:Hp)(x:V)(H':Hp)(h:rV K enc v H x H')(l:Hp)(k:Kp H' l):RD K l (enc v) x:=k.rd h
theorem arO{K}{ob}(v:α)(H:Hp)(x:V)(H':Hp)(h:rO K ob v H x H')(l:Hp)(k:Kp H' l):∃a,x=.ref a/\OB K l a (ob v):=let ⟨a,m,o⟩:=h;⟨a,m,k.ob o⟩
theorem Bj{x l:Str}{st:B6}{B:List Str}{k k':Nat}{pc:Pos}{p:Option γ}{q:γ->Option α}{C:γ->List (Hp->V->Prop)}{R:Rk α}(D:Dfn X.K X.mg x l st B)(F:∀z,CT X.prog X.w X.K X.mg X.base (CXG X.prog X.w) k D.f D.fd B (spV (C z) R (q z)))(E:FC k' X.A)(G:VA X A (e :: es) p C)
  (I:∀v H H' x o,Kp H H'->R v H' x o->R v H x o) (J:autoParam (k<=k') yq1q) (L:autoParam (X.xe=λM M=>False) yq0q) (N:autoParam (Gl X x) yq0q) (O:autoParam ((x==("__debug__" : Str))=false) yq1q) (P:autoParam (zSp X e es) yq0q) (S:autoParam ((Cu pos (AH es X.env)).any (·.1)=false) yq0q) :
  VE X A (.Call (.Name x pc) (e :: es) [] pos) R (p.bind q):=λv T=>by
 obtain⟨z,U,Y⟩:=AR T
 exact(TC (F z) (E.mono J) N D.m D.kp D.b .nil (good_none L).pass (G z U) O P S).imp (by rintro σ H Q ⟨Z,F,hs,k⟩;exact ⟨Z,F,hs,λxs H' kp r=>by symm;rw[BO];exact⟨v,Y,r,λy o k2 r2=>k y o (kp.trans k2) (I _ _ _ _ _ kp r2)⟩⟩)
end
open L2
open L4 (Fw AU BZ Bv Je BW AR HW GT eT oL Lb Nm Ex Kl CI F9)
section
variable{X:Cx}{A:List Sl}{e a b tg:Expr}{p pos:Pos}{α:Type}
theorem NT(i:Nat)(o:PIp X op (ipI g))(h:VE X A e (zIq X) q)(w:autoParam (A[i]?=some (sv X.K (D.int v))) yq0q)(B:autoParam X.N.Nodup yq6q)(hi:autoParam (X.N[i]?=some x) yq0q)(C:autoParam (Loc X.env.scope x) yq4q)
  (E:autoParam (zFn X x) yq3q):VS X A (.AugAssign (.Name x m) op e pos) R (q.bind λy=>some (.nx (g v y))) (λz=>A.set i (sv X.K (D.int z))):=λf G=>by
 obtain⟨y,I,J⟩:=AR G;cases J
 refine(lS B hi C (h y I) o E).imp λD Q H ⟨L,F,l,k⟩=>?_
 obtain⟨z,O,P⟩:=l.at w;cases P H Kp.refl.fr;refine⟨_,O,L,F,l,λu S kp r=>?_⟩;cases r;exact⟨_,_,rfl,rfl,k _ _ _ ((l.grow kp).set i λM M=>.int _) kp.fe⟩
theorem Xu{K:AB}{enc:α->D}{l:List α}{F:AL->Prop}{H:Hp}{J:It}{sq:Hp->List V->Prop}(m:∀i H xs x,sq H xs->xs[i]?=some x->J.go i H)(C:∀i H xs,sq H xs->xs.length<=i->J.stop i H)(E:∀i H x H',J.yld i H x H'->H'=H/\∀xs,sq H xs->xs[i]?=some x)
  (h:∀H',Fr F H H'->∃vs,sq H' vs/\A8 K [] H' (l.map enc) vs):JOk (rd K enc) l F H J:=λO H' fe i=>by
 obtain⟨vs,o,w⟩:=h H' fe.fr;refine⟨λP=>C i H' vs o (by rw[<-w.length,AF];ext),λv G=>?_⟩;obtain⟨y,B,I⟩:=w.get (by rw[Ab,G];rfl);refine⟨m i H' vs y o B,λx L q=>?_⟩;obtain⟨rfl,N⟩:=E i H' x L q;have:=N vs o;rw[B]at this;cases this;exact⟨.refl,λQ f=>f.rd I⟩
theorem iL{K:AB}{enc:α->D}{l:List α}{F:AL->Prop}{H:Hp}{a:AL}{vs:List V}(m:H a=some (.tup vs))(o:A8 K [] H (l.map enc) vs):JOk (rd K enc) l F H (Itt K a):=
 Xu (λi H w x m o=>⟨w,x,m,o⟩) (λi H w m o=>⟨w,m,o⟩) (λi H x B h=>h) λB f=>⟨vs,.inl (.inl (f.tup _ _ m)),o.keep f.tup f.frz⟩
theorem TV{K:AB}{enc:α->D}{l:List α}{F:AL->Prop}{H:Hp}{a:AL}(h:∀H',Fr F H H'->OB K H' a (oL enc l)):JOk (rd K enc) l F H (Itl K a):=
 Xu (λi H w x m o=>⟨w,x,m,o⟩) (λi H w m o=>⟨w,m,o⟩) (λi H x H' h=>h) λH' f=>by
  obtain⟨vs,m,o⟩:=h H' f;exact⟨vs,.inl (.inl m),o⟩
theorem Hl{enc:α->D}{q:Option (List α)}(h:VE X A e (rV X.K (eT enc)) q):VI X A tg e (rd X.K enc) q:=λl o=>(lV (h l o)).imp (by rintro G H R ⟨w,F,B,k⟩;exact ⟨w,F,B,λx C kp r=>by
 cases r with
 | @tup _ a vs m E=>exact⟨a,rfl,⟨vs,.inl (.inl m)⟩,k _ C kp (iL m E)⟩⟩)
theorem aD{enc:α->D}{l:List α}{i:Nat}{P:Hp->Hp->V->Prop}(h:PE X e (DX i))(m:∀w H y,P w H y->∃a,y=.ref a/\OB X.K H a (oL enc l))(hi:autoParam (A[i]?=some (.q P)) yq0q):VI X A tg e (rd X.K enc) (some l):=λL C=>(O4 h).imp<|by
 rintro N H R ⟨w,F,E,k⟩
 cases C;obtain⟨y,G,B⟩:=E.at hi;obtain⟨a,rfl,vs,I,O⟩:=m _ _ _ (B H Kp.refl.fr);refine⟨_,G,a,rfl,⟨vs,.inl (.inl I)⟩,k _ H .refl (TV λJ f=>?_)⟩;obtain⟨Q,e,S⟩:=m _ _ _ (B J ⟨f.tup,f.frz,λb o z=>f.fix b o (.inl z)⟩)
 ext
theorem F6{enc:α->D}{l:List α}{i:Nat}(h:PE X e (DX i))(hi:autoParam (A[i]?=some (sy X.K (oL enc l))) yq0q):VI X A tg e (rd X.K enc) (some l):=aD h (by rintro _ _ _ ⟨a,m,_,o⟩;exact ⟨a,m,o⟩) hi
theorem Sk{enc:α->D}{l:List α}{i:Nat}(h:PE X e (DX i))(hi:autoParam (A[i]?=some (sz X.K (oL enc l))) yq0q):VI X A tg e (rd X.K enc) (some l):=aD h (λG G G z=>z) hi
theorem Pb{enc:α->D}{q:Option (List α)}(h:VE X A e (rN X.K (oL enc)) q):VI X A tg e (rd X.K enc) q:=λl o=>(O4 (h l o)).imp λJ H R ⟨w,F,B,k⟩=>⟨w,F,B,λx C kp ⟨a,E,G,vs,m,I⟩=>⟨a,E,⟨vs,.inl (.inl m)⟩,k _ C kp (TV λL f=>⟨vs,f.fix a _ (.inr ⟨G,_,m⟩) m,I.keep f.tup f.frz⟩)⟩⟩
theorem Xv{K}{lo}{n}{F}{H}:JOk (rd K D.int) (CI lo n) F H (Itr lo n):=λE G fe i=>by
 have m:(CI lo n).length=n:=by unfold CI;simp
 refine⟨λw=>by rw[<-m];exact CY.mp w,λv l=>?_⟩
 have o:i < n:=by rw[<-m];exact(AJ.mp l).1
 refine⟨o,λx I ⟨B,C⟩=>?_⟩;subst B C
 have:lo+i=v:=by
  unfold CI at l;rw[Ab,EM o]at l;cases l;rfl
 rw[this];exact⟨.refl,λJ J=>.int _⟩
set_option tactic.hygienic true in
theorem Db(o:X.mg "range" = none) (h:VE X A a (zIq X) q) (w:autoParam (Gl X "range") yq0q) (hs:autoParam (AH [a] X.env=[(false,A6 a X.env)]) yq0q):VI X A tg (.Call (.Name "range" p) [a] [] pos) (rd X.K D.int) (q.bind Ex):=λl B=>by
 obtain⟨j,C,m⟩:=AR B;unfold Ex at m
 split at m <;> cases m
 rename_i I
 exact(Yu w o (B3 (h j C) ET hs) hs).imp λJ H R ⟨E,F,hs,k⟩=>⟨E,F,hs,λx G kp r=>by
  cases r
  exact⟨j,rfl,by lia,by omega,k _ G kp Xv⟩⟩
end
open L2
open L4 (Fw AU BZ Bv Je BW AR eT oL eP Nm)
section
variable{K:AB}{H H':Hp}
theorem mJ(l:Le K [] H [] H'):Kp H H':=λa o h=>(l.oth a o h ∅).1
theorem lI:Og K [] [] H:=⟨rfl,λi j a h=>by simp at h,λn o a h=>by simp at h⟩
theorem lL(h:f x y []=.ok d [])(m:RD K H x u)(o:RD K H y v)(k:∀z H',Kp H H'->RD K H' d z->Q z H'):rD K f u v H Q:=
 ⟨[],[],x,y,d,[],lI,m,o,h,λw H' z l s r=>by cases DN s.len;exact k z H' (mJ l) r⟩
end
section
variable{X:Cx}{A:List Sl}{e a b c:Expr}{p pos:Pos}{α β γ:Type}{ea:α->D}{eb:β->D}{pa:Option α}{pb:Option β}
theorem jL(o:f (ea x) (eb y) []=.ok d [])(h:∃l F,Vs l A B F H/\∀z H',Kp H H'->RD X.K H' d z->T z H') :
  tOp (rD X.K f) (tE A (rV X.K ea) x) (tE A (rV X.K eb) y) B H T:=by
 obtain⟨l,F,C,k⟩:=h;exact ER ⟨l,F,C,λu w O P E m G I=>lL o (m.rd G) I λz J L N=>k z J (E.trans (m.trans L)) N⟩
theorem UR{op:T2}{f:D->D->Sto->Res D}{g:α->β->Option Bool}(m:OpR X (Bo op) (rD X.K f))(o:∀x y z,g x y=some z->f (ea x) (eb y) []=.ok (.bl z) [])(w:VE X A a (rV X.K ea) pa)(hb:VE X A b (rV X.K eb) pb)(B:autoParam (BF op b=false) yq9q) :
  VB X A (.Compare a [op] [b] pos) (pa.bind λx=>pb.bind λy=>g x y):=λv l=>by
 obtain⟨x,C,l⟩:=AR l;obtain⟨y,E,G⟩:=AR l
 exact(O0 m (w x C) (hb y E) B).imp λL H Q ⟨I,F,J,q⟩=>jL (o x y v G) ⟨I,F,J,λz N k r=>by cases r;ext⟩
theorem kH{op:T2}{f:D->D->Sto->Res D}{g:α->β->Option Bool}(m:OpR X (Bo op) (rD X.K f))(o:∀x y z,g x y=some z->f (ea x) (eb y) []=.ok (.bl z) [])(w:VE X A a (rV X.K ea) pa)(hb:VE X A b (rV X.K eb) pb)(B:autoParam (BF op b=false) yq9q) :
  VE X A (.Compare a [op] [b] pos) (rV X.K D.bl) (pa.bind λx=>pb.bind λy=>g x y):=λv l=>by
 obtain⟨x,C,l⟩:=AR l;obtain⟨y,E,G⟩:=AR l
 exact(O5 m (w x C) (hb y E) B).imp λL H Q ⟨I,F,J,q⟩=>jL (o x y v G) ⟨I,F,J,q⟩
theorem Tl(h:atI l i=some v):atI (l.map ea) i=some (ea v):=by
 unfold atI at h ⊢;rw[AF]
 cases m:ixN l.length i with
 | none=>ext
 | some j=>ext
theorem Sr(hl:VE X A a (rV X.K (eT ea)) pl)(hi:VE X A b (zIq X) pi)(hs:autoParam (LQ b) yq7q):VE X A (.Subscript a b pos) (rV X.K ea) (pl.bind λl=>pi.bind λi=>atI l i):=λv m=>by
 obtain⟨l,B,m⟩:=AR m;obtain⟨i,C,E⟩:=AR m
 refine(Uq cR (hl l B) (hi i C) hs).imp λT H Q ⟨G,F,hs,q⟩=>ER ⟨G,F,hs,λu w U I J o L N=>?_⟩
 cases N
 cases L with
 | @tup _ p vs O P=>
  obtain⟨y,R,S⟩:=PH P (Tl E);exact⟨p,vs,i,y,rfl,rfl,.inl (.inl (o _ _ O)),R,q y I (J.trans o) (o.rd S)⟩
theorem Hm(hl:VE X A a (rO X.K (oL ea)) pl)(hi:VE X A b (zIq X) pi)(hs:autoParam (LQ b) yq7q):VE X A (.Subscript a b pos) (rV X.K ea) (pl.bind λl=>pi.bind λi=>atI l i):=λv m=>by
 obtain⟨l,B,m⟩:=AR m;obtain⟨i,C,E⟩:=AR m
 refine(Uq ix_list (hl l B) (hi i C) hs).imp λT H Q ⟨G,F,hs,q⟩=>ER ⟨G,F,hs,λu w U I J o L N=>?_⟩
 cases N;obtain⟨p,rfl,vs,O,P⟩:=L;obtain⟨y,R,S⟩:=PH P (Tl E);exact⟨p,vs,i,y,rfl,rfl,.inl (.inl (o _ _ O)),R,q y I (J.trans o) (o.rd S)⟩
theorem KR{x:Str}{id:String}{r:List V->Hp->VK->Prop}{R:Rk α}{S:Rk γ}{g:α->Option γ}(B:G8 X (.builtin id) r)(C:EK x=some (.builtin id))(E:X.mg x=none)(h:VE X A e R pa)(G:∀v z H u l Q,g v=some z->R v H u l->(∀y H',Kp l H'->S z l y H'->Q y H')->r [u] l Q)
  (I:∀v H H' x m,Kp H H'->S v H' x m->S v H x m) (J:autoParam (Gl X x) yq0q) (L:autoParam (x≠"__name__") yq1q) (N:autoParam ((x==("__debug__" : Str))=false) yq1q) (o:autoParam (zSq X e) yq0q) (O:autoParam ((Cu pos (AH [] X.env)).any (·.1)=false) yq0q) :
  VE X A (.Call (.Name x p) [e] [] pos) S (pa.bind g):=λv P=>by
 obtain⟨y,T,U⟩:=AR P
 exact(QA B J E C (B3 (h y T) ET o) L N o O).imp λσ H Q ⟨Y,F,Z,q⟩=>⟨Y,F,Z,λu l w r1=>G y v H u l Q U r1 λz m k2 r2=>q z m (w.trans k2) (I _ _ _ _ _ w r2)⟩
theorem Su(B:G8 X (.type T) r)(C:EK x=some (.type T))(E:X.mg x=none)(h:VE X A e R pa)(G:∀v z H u l Q,g v=some z->R v H u l->(∀y H',Kp l H'->S z l y H'->Q y H')->r [u] l Q)
  (I:∀v H H' x m,Kp H H'->S v H' x m->S v H x m) (J:autoParam (Gl X x) yq0q) (L:autoParam (x≠"__name__") yq1q) (N:autoParam ((x==("__debug__" : Str))=false) yq1q) (o:autoParam (zSq X e) yq0q) (O:autoParam ((Cu pos (AH [] X.env)).any (·.1)=false) yq0q) :
  VE X A (.Call (.Name x p) [e] [] pos) S (pa.bind g):=λv P=>by
 obtain⟨y,U,Y⟩:=AR P
 exact(Yw B J E C (B3 (h y U) ET o) L N o O).imp λσ H Q ⟨Z,F,hs,q⟩=>⟨Z,F,hs,λu l w r1=>G y v H u l Q Y r1 λz m k2 r2=>q z m (w.trans k2) (I _ _ _ _ _ w r2)⟩
theorem upV{K}(v:α)(H H':Hp)(x:V)(H2:Hp)(_:Kp H H')(h:rV K ea v H' x H2):rV K ea v H x H2:=h
theorem upN{K}{ob}(v:α)(H H':Hp)(x:V)(H2:Hp)(k:Kp H H')(h:rN K ob v H' x H2):rN K ob v H x H2:=by
 obtain⟨a,m,l,w⟩:=h;refine⟨a,m,?_,w⟩
 cases e:H a with
 | none=>rfl
 | some o=>rw[k a o e]at l;cases l
theorem Ov{pl:Option (List α)}(m:X.mg "len" = none) (h:VE X A e (rO X.K (oL ea)) pl) (o:autoParam (Gl X "len") yq0q) (w:autoParam (zSq X e) yq0q):VE X A (.Call (.Name "len" p) [e] [] pos) (zIq X) (pl.bind λl=>some (l.length:Int)):=
 KR Jn LW m h (λv z H u B Q C E k=>by
  cases C;obtain⟨q,rfl,vs,G,I⟩:=E;refine⟨q,vs,rfl,.inl (.inl (.inl G)),?_⟩;rw[<-I.length,AF]
  exact k _ B .refl (.int _)) upV o ∅ (by rfl) w
theorem fR{pl:Option (List α)}(m:X.mg "len" = none) (h:VE X A e (rV X.K (eT ea)) pl) (o:autoParam (Gl X "len") yq0q) (w:autoParam (zSq X e) yq0q):VE X A (.Call (.Name "len" p) [e] [] pos) (zIq X) (pl.bind λl=>some (l.length:Int)):=
 KR Jn LW m h (λv z H u B Q C E k=>by
  cases C
  cases E with
  | @tup _ q vs G I=>
   refine⟨q,vs,rfl,.inr (.inl (.inl G)),?_⟩;rw[<-I.length,AF]
   exact k _ B .refl (.int _)) upV o ∅ (by rfl) w
theorem Gk{pl}(o:X.mg "tuple" = none) (h:VE X A e (rO X.K (oL ea)) pl) (w:autoParam (Gl X "tuple") yq0q) (B:autoParam (zSq X e) yq0q):VE X A (.Call (.Name "tuple" p) [e] [] pos) (rV X.K (eT ea)) pl:=by
 have:=Su (g:=some) (pos:=pos) (p:=p) RP boot_tuple o h (λv z H u J Q C E k=>by
  cases C;obtain⟨q,rfl,vs,G,I⟩:=E
  exact⟨q,vs,rfl,.inl ⟨.inl (.inl G),λl m=>k _ _ (BX m) (.tup Ar (I.keep (λb M z=>BX m b _ z) λb M M z=>BX m b _ z))⟩⟩) upV w ∅ (by rfl) B
 rwa [Option.bind_fun_some]at this
theorem aN(C:VB X A c pt)(J:VE X A a R pa)(hb:VE X A b R q)(E:∀v H H' x l,Kp H H'->R v H' x l->R v H x l):VE X A (.IfExp c a b pos) R (pt.bind λt=>if t=true then pa else q):=λv L=>by
 obtain⟨t,G,I⟩:=AR L
 cases t with
 | true=>exact(Ur (C _ G) (J v I) (tb:=λM M M=>False) (λM M M M M M h=>h.elim)).imp λw H Q ⟨m,F,o,k⟩=>⟨m,F,o,λH' kp=>by show tE A R v w H' Q;exact⟨m,_,o.grow kp,λx l B r=>k x l (kp.trans B) (E _ _ _ _ _ kp r)⟩⟩
 | false=>exact(Ur (C _ G) (ta:=λM M M=>False) (λM M M M M M h=>h.elim) (hb v I)).imp λw H Q ⟨m,F,o,k⟩=>⟨m,F,o,λH' kp=>by show tE A R v w H' Q;exact⟨m,_,o.grow kp,λx l B r=>k x l (kp.trans B) (E _ _ _ _ _ kp r)⟩⟩
end
open L2
open L4 (Fw AR eT oL Lz Bn Lb)
section
variable{K:AB}{H H' H0:Hp}{F F':AL->Prop}{σ:L2.St}{A:List Sl}{α β:Type}
theorem VR.upd(h:VR H0 A σ F G H)(m:¬F p)(hw:∀i,¬G i p)(o:∀xs,H p≠some (.tup xs))(w:∀ob z,H p≠some (.frz ob z)) :
  VR H0 A σ F G (L2.upd H p u)/\Fe F H F (L2.upd H p u):=by
 have ne:∀b,F b->b≠p:=λb hb c=>m (c▸hb)
 have l:∀i b,G i b->b≠p:=λi b hb c=>hw i (c▸hb)
 have fe:Fe F H F (L2.upd H p u):=⟨λI z=>z,λb xs e=>by rw[AO (show b≠p from λc=>o xs (c▸e))];exact e,λb ob z e=>by rw[AO (show b≠p from λc=>w ob z (c▸e))];exact e,λb ob f e=>by rw[AO (ne b f)];exact e⟩;refine⟨⟨λb ob e=>by rw[AO (ne b (h.f0 b ob e))];exact h.kp b ob e,h.f0,λb f=>by rw[AO (ne b f)];exact h.fh b f,λj s B=>?_,λi b z=>⟨(h.gn i b z).1,by rw[AO (l i b z)];exact(h.gn i b z).2⟩,h.ds⟩,fe⟩;obtain⟨y,C,E⟩:=h.sl j s B;exact⟨y,C,Sl.mono E fe λb hb=>AO (l j b hb)⟩
theorem VR.pre{G}{k}{pre}(h:VR H0 A σ F G H)(m:pre.length=k):VR H0 (Bk k .u++A) (pre++σ) F (λi a=>k<=i/\G (i - k) a) H:=by
 refine⟨h.kp,h.f0,h.fh,λi s l=>?_,λi a z=>h.gn _ a z.2,λi j a o w=>by have:=h.ds _ _ a o.2 w.2;grind⟩
 by_cases c:i < k
 ·rw[Br (by simpa using c),Js,qX c]at l
  cases l;exact⟨pre[i]'∅,by rw[Br ∅];simp,trivial⟩
 ·rw[Bl (by simpa using c),K9]at l
  obtain⟨x,B,C⟩:=h.sl _ s l;refine⟨x,by rw[Bl (by ext),m];exact B,?_⟩;ext
def VIf(X:Cx)(A:List Sl)(l:List Expr)(p:Option Bool):Prop:=∀v,p=some v->Wv X l (λσ H Q=>∃H0 F,Vs H0 A σ F H/\∀H',Kp H H'->Q v H')
theorem Du:VIf X A [] (some true):=λv l m s σ H Q I ⟨H0,F,o,q⟩=>by cases l;exact Um m s σ H Q I (q H .refl)
theorem HU(h:VB X A c p):VIf X A [c] p:=λv l=>bW (h v l)
def VP(g:TG)(P:α->Hp->V->Prop)(k:Nat)(A:List Sl)(T:α->List Sl):Prop:=∀H0 (pre σ:L2.St) F G H v x (Q:L2.St->Hp->Prop),pre.length=k->VR H0 (Bk k .u++A) (pre++σ) F G H->(∀H',Fr F H H'->P v H' x)->(∀l:L2.St,l.length=k->VR H0 (T v) (l++σ) F G H->Q (l++σ) H)->g x (pre++σ) H Q
theorem LB:VP (IT 0) (rd K enc) 1 A (λv=>sv K (enc v) :: A):=λH0 pre σ F G H v x Q l m r k=>by
 obtain⟨y,rfl⟩:=VZ.mp l;exact k [some x] rfl (m.set 0 r)
theorem aC:VP (IT 0) P 1 A (λv=>(.q λI H y=>P v H y) :: A):=λH0 pre σ F G H v x Q l m r k=>by
 obtain⟨y,rfl⟩:=VZ.mp l;exact k [some x] rfl (m.set 0 r)
set_option tactic.hygienic true in
theorem X7{n:Nat}{P:α->Hp->V->Prop}{eb:β->D}{g:TG}{T:α->List Sl}{l:List α}{pc:α->Option Bool}{pm:α->Option β}{out:List β}(ht:VP g P n A T)(hT:∀v,Ws (T v) (Bk n .u++A))(h2:Bn l pc pm=some out){σ:L2.St}{H:Hp}{Q:VK}(h:tE A (rN K (oL eb)) out σ H Q) :
  XV n (λσ H R=>∃H0 F,Vs H0 A σ F H/\∀J E,Kp H E->JOk P l (gF F H E) E J->R J E) g (λσ H Q=>∃x v,pc x=some v/\∃H0 F,Vs H0 (T x) σ F H/\∀H',Kp H H'->Q v H') (λσ H Q=>∃x v,pm x=some v/\tE (T x) (rV K eb) v σ H Q) σ H Q:=by
 obtain⟨H0,F,hv0,q⟩:=h;refine⟨H0,F,hv0,λJ E kp xU p hp=>?_⟩;unfold Bn at h2;split at h2
 rotate_left
 ·cases h2
 rename_i hlen;obtain⟨G0,hv0⟩:=hv0;have g1:=hv0.grow kp
 have p0:¬gF F H E p:=λz=>by obtain⟨o,e⟩:=g1.fh p z;ext
 have pg:∀i,¬G0 i p:=λi z=>by obtain⟨o,e⟩:=(g1.gn i p z).2;lia
 have h0p:H p=none:=by
  cases e:H p with
  | none=>rfl
  | some o=>rw[kp p o e]at hp;cases hp
 have st:=(g1.pre (k:=n) (pre:=Bk n none) ∅).upd (u:=.lst []) p0 (λi z=>pg _ z.2) (λI z=>by ext) (λob z y=>by ext)
 refine⟨λi m Y H' I=>m=l.length - i/\i<=l.length/\∃(pre:L2.St) (F':AL->Prop) (G:Nat->AL->Prop) (B w:List β),Y=pre++σ/\pre.length=n/\VR H0 (Bk n .u++A) (pre++σ) F' G H'/\(∀i,¬G i p)/\Fe (gF F H E) E F' H'/\Kp E H'/\¬F' p/\H' p=some (.lst I) /\
  A8 K [] H' (B.map eb) I/\B.length<=i/\Lz pc pm (l.drop i)=some w/\B++w=out,⟨_,rfl,Bc _,_,_,_,[],out,rfl,by simp,st.1,λi z=>pg _ z.2,st.2,BX hp,p0,Ar,.nil,AN _,by trivial,rfl⟩,?_⟩
 rintro i m Y H' I ⟨rfl,hle,pre,F',G,B,w,rfl,hk,hv,ng,fe,kq,np,L,rd,hal,C,ur⟩;refine⟨L,?_⟩;obtain⟨j1,j2⟩:=xU F' H' fe i
 cases hl:l[i]? with
 | none=>
  have hn:=CY.mp hl;rw[Vb hn]at C;cases C;rw[BO]at ur;subst ur;exact .inl ⟨j1 hl,q _ _ (kp.trans kq) ⟨p,rfl,h0p,I,L,rd⟩⟩
 | some v=>
  obtain⟨rk,sO⟩:=AJ.mp hl;obtain⟨j3,j4⟩:=j2 v hl;rw[Dx rk,sO]at C;unfold Lz at C;obtain⟨b,hb,C⟩:=AR C;refine .inr ⟨j3,by rw[<-rd.length,AF];exact Lb ∅,λx Z hy=>?_⟩;obtain⟨S,r2⟩:=j4 x Z hy
  have gn:∀{F:AL->Prop} {H H':Hp},¬F p->H p=some (.lst I)->¬gF F H H' p:=λ{F H H'} a b z=>z.elim a λy=>by ext
  have e2:=S _ _ L
  refine ht H0 pre σ _ _ Z v x _ hk (hv.grow S) r2 λtM sT N=>⟨v,b,hb,H0,_,⟨G,N⟩,λH3 O=>?_⟩
  have n3:=gn (H':=H3) (gn (H':=Z) np L) e2;have e3:=O _ _ e2;have f3:=(fe.trans (S.fe)).trans (O.fe);have rd3:=rd.keep (λa M z=>O a _ (S a _ z)) (λa M M z=>O a _ (S a _ z))
  cases b with
  | false=>exact⟨_,by grind,rfl,rk,tM,_,G,B,w,rfl,sT,(hT v).vr (N.grow O),ng,f3,kq.trans (S.trans O),n3,e3,rd3,by lia,C,ur⟩
  | true=>
   obtain⟨y,hy',C⟩:=AR C;obtain⟨ys,hys,e⟩:=AR C;cases e;refine⟨v,y,hy',H0,_,⟨G,N.grow O⟩,λz X U r4=>⟨U _ _ e3,_,by omega,rfl,rk,tM,gF (gF (gF F' H' Z) Z H3) H3 X,G,B++[y],ys,rfl,sT,?_⟩⟩;have e4:=U _ _ e3;have n4:=gn (H':=X) n3 e3
   have kt:∀b uE,X b=some (.tup uE)->L2.upd X p (.lst (I++[z])) b=some (.tup uE):=λb uE q=>by rw[AO (λc=>by ext)];exact q
   have kf:∀b ob u,X b=some (.frz ob u)->L2.upd X p (.lst (I++[z])) b=some (.frz ob u):=λb ob u q=>by rw[AO (λc=>by ext)];exact q
   have up:=((hT v).vr ((N.grow O).grow U)).upd (u:=.lst (I++[z])) n4 ng (λuE q=>by ext) (λob u q=>by ext);refine⟨up.1,ng,(f3.trans U.fe).trans up.2,λb o e=>?_,n4,Ar,?_,by simp;omega,hys,by simp[<-ur]⟩
   ·rw[AO (λc=>by ext)]
    exact U _ _ (O _ _ (S _ _ (kq b o e)))
   ·rw[Be]
    exact((rd3.keep (λa M q=>U a _ q) (λa M M q=>U a _ q)).keep kt kf).append (.cons (r4.keep kt kf) .nil)
theorem Ow{X:Cx}{E J iter:Expr}{G:List Expr}{scope:LV}{pos:Pos}{own N':List Str}{P:α->Hp->V->Prop}{eb:β->D}{g:TG}{T:α->List Sl}{pl:Option (List α)}{pc:α->Option Bool}{O:α->Option β}
  (R:K7 X scope own N') (hi:VI X A J iter P pl) (S:∀w C m o B pn,PG (C3 X scope N' w C m o B pn) J g) (U:VP g P own.length A T) (Y:∀v,Ws (T v) (Bk own.length .u++A))
  (Z:∀x w C m o B pn,VIf (C3 X scope N' w C m o B pn) (T x) G (pc x)) (he:∀x w C m o B pn,VE (C3 X scope N' w C m o B pn) (T x) E (rV X.K eb) (O x))
  (sJ:autoParam (X.calm=true) yq0q) (hs:autoParam (∀x,B5 iter X.env x=pure x) yq2q):VE X A (.ListComp E [⟨J,iter,G,0⟩] scope pos) (rN X.K (oL eb)) (pl.bind λl=>Bn l pc O):=λout hv=>by
 obtain⟨l,h1,h2⟩:=AR hv
 exact(gu sJ R (hi l h1) S (by rintro w C s H B pn L N σ H' Q I ⟨x,v,e,q⟩;exact Z x w C s H B pn v e L N σ H' Q I q) (by rintro w C s H B pn L N σ H' Q I ⟨x,v,e,q⟩;exact he x w C s H B pn v e L N σ H' Q I q) hs).imp λσ H Q h=>X7 U Y h2 h
theorem XS{X:Cx}{E J iter:Expr}{G:List Expr}{scope:LV}{pos R S:Pos}{y:Str}{i:Nat}{own N':List Str}{P:α->Hp->V->Prop}{eb:β->D}{g:TG}{T:α->List Sl}{pl:Option (List α)}{pc:α->Option Bool}{U:α->Option β}
  (Y:K7 X scope own N') (hi:VI X A J iter P pl) (Z:∀w C m o B pn,PG (C3 X scope N' w C m o B pn) J g) (ht:VP g P own.length A T) (hT:∀v,Ws (T v) (Bk own.length .u++A))
  (hc:∀x w C m o B pn,VIf (C3 X scope N' w C m o B pn) (T x) G (pc x)) (he:∀x w C m o B pn,VE (C3 X scope N' w C m o B pn) (T x) E (rV X.K eb) (U x))
  (sJ:autoParam (X.calm=true) yq0q) (hs:autoParam (∀x,B5 iter X.env x=pure x) yq2q) (hN:autoParam X.N.Nodup yq6q) (hy:autoParam (X.N[i]?=some y) yq0q) (hx:autoParam (Loc X.env.scope y) yq4q) (um:autoParam (Bb (.ListComp E [⟨J,iter,G,0⟩] scope pos) (some (.Name y R)) S.line X.env=pure true) yq0q) (hf:autoParam (X.fn y=true∨X.env.scope.names.lookup y=some .local) yq3q):VEA X A i (.Assign [.Name y R] (.ListComp E [⟨J,iter,G,0⟩] scope pos) S) (rN X.K (oL eb)) (pl.bind λl=>Bn l pc U):=λout hv=>by
 obtain⟨l,h1,h2⟩:=AR hv
 exact(Xh sJ um hN hy hx Y (hi l h1) Z (λw C s H B pn L O σ H' Q I ⟨x,v,e,q⟩=>hc x w C s H B pn v e L O σ H' Q I q) (λw C s H B pn L O σ H' Q I ⟨x,v,e,q⟩=>he x w C s H B pn v e L O σ H' Q I q) hs hf).imp λD σ H h=>X7 ht hT h2 h
end
end L7
namespace L4
open L2
noncomputable abbrev inG{m:Type}[DecidableEq m](x:m)(l:List m):Bool:=decide (x∈l)
section
variable{ρ σ:Type}
noncomputable def whF(c:σ->Option Bool)(q:σ->Option (Fw ρ σ)):Nat->σ->Option (Fw ρ σ)
 | 0,_=>none
 | n+1,s=>(c s).bind λt=>if t=true then match q s with
   | some (.nx l)=>whF c q n l
   | some (.ct l)=>whF c q n l
   | some (.bk l)=>some (.nx l)
   | some (.rt r)=>some (.rt r)
   | none=>none
  else some (.nx s)
end
end L4
namespace L7
open L2
open L4 (Fw AR Bv BW whF)
section
variable{X:Cx}{A:List Sl}{e o:Expr}{es:List Expr}{pos:Pos}{α γ:Type}
theorem KS:VE X A (.Constant (.bool b) j pos) (rV X.K D.bl) (some b):=λG l=>qD.imp λm H Q ⟨w,F,B,q⟩=>by cases l;exact q _ H .refl (.bl _)
theorem Sm:VE X A (.Constant (.str x) j pos) (rV X.K D.str) (some x):=λG l=>lY.imp λm H Q ⟨w,F,B,q⟩=>by cases l;exact q _ H .refl (.str _)
theorem UP(l:X.mg x=some (.int i m))(w:autoParam (Gl X x) yq0q)(B:autoParam ((x==("__debug__" : Str))=false) yq1q):VE X A (.Name x pos) (zIq X) (some i):=λJ C=>(gr (v:=.int i) w l ⟨m,rfl⟩ B).imp λE H Q ⟨G,F,I,q⟩=>by cases C;exact q _ H .refl (.int _)
def rP(P:α->Hp->V->Prop):Rk α:=λv G x H=>∀l,Kp H l->P v l x
theorem IK(h:PE X e (DX i))(hi:autoParam (A[i]?=some (.q λI H y=>P v H y)) yq0q):VE X A e (rP P) (some v):=λI l=>h.imp<|by
 rintro E H Q ⟨G,F,m,q⟩
 cases l;obtain⟨y,w,B⟩:=m.at hi;exact⟨y,w,q y H .refl λC k=>B C k.fr⟩
theorem fI(h:VE X A e S q)(hs:autoParam (Bb e none pos.line X.env=pure false) yq0q):VS X A (.Expr e pos) R (q.bind λG=>some (.nx ())) (λG=>A):=λf l=>by
 obtain⟨v,m,w⟩:=AR l;cases w
 exact(O2 (h v m) hs).imp (by rintro D B H ⟨C,F,hs,k⟩;exact ⟨C,F,hs,λx E kp G=>k B _ E (hs.grow kp) kp.fe⟩)
theorem PZ(n:Nat)(w0:Wk A (B s0))(hc:∀s,VB X (B s) c (pc s))(hb:∀s,VSs X (B s) w R (q s) B)(hx:autoParam (X.xe=λM M=>False) yq0q):VS X A (.While c w [] pos) R (whF pc q n s0) B:=λf hf=>by
 have t5:PT X c (λl H Q=>∃s v,pc s=some v/\∃E F,Vs E (B s) l F H/\∀N,Kp H N->Q v N):=by rintro Y s l H Q I ⟨C,v,e,h⟩;exact hc C v e Y s l H Q I h
 have Z:PSs X w (λD l H=>∃s G,q s=some G/\tV (B s) R B G D l H):=by rintro Y s l H D I ⟨C,G,e,h⟩;exact hb C G e Y s l H D I h
 refine(bR (good_none hx).own t5 Z).imp λD l H ⟨E,F,hs,k⟩=>?_
 obtain⟨F1,h1,e1⟩:=w0 E l F H hs;refine⟨λm J N=>∃U s,Vs E (B s) J U N/\Fe F H U N/\whF pc q m s=some f,⟨n,F1,s0,h1,e1,hf⟩,?_⟩;rintro m J N ⟨U,s,hv,fe,hw⟩
 cases m with
 | zero=>cases hw
 | succ m=>
  unfold L4.whF at hw;obtain⟨t,ht,hw⟩:=AR hw;refine⟨s,t,ht,E,U,hv,λH1 kp=>?_⟩
  cases t with
  | false=>cases hw;exact k J _ H1 (hv.grow kp) (fe.trans kp.fe)
  | true=>
   refine⟨λO H2=>∃F2 s2,Vs E (B s2) O F2 H2/\Fe F H F2 H2/\whF pc q m s2=some f,λO H2 z=>⟨m,FP m,z⟩,?_⟩;rw[qX rfl]at hw
   cases hq:q s with
   | none=>ext
   | some G=>
    rw[hq]at hw;refine⟨s,G,hq,E,_,hv.grow kp,?_⟩;have w6:=fe.trans (kp.fe)
    cases G with
    | nx C=>exact λL P H4 S T=>⟨P,C,S,w6.trans T,hw⟩
    | ct C=>exact λL P H4 S T=>⟨P,C,S,w6.trans T,hw⟩
    | bk C=>cases hw;exact λL P H4 S T=>k L P H4 S (w6.trans T)
    | rt r=>cases hw;exact k
theorem JU{C:AL}{f:Str}{ob:α->Ob}{q:Option α}{ec:γ->D}{g:α->γ}(m:Cls X.K C)(w:Cj X.K C f)(h:VE X A e (rO X.K ob) q)(B:∀v,∃fs,ob v=.ins C fs/\fs.lookup f=some (ec (g v)))(hb:autoParam (Bi e f X.env (A6 e X.env)=A6 e X.env) yq0q) :
  VE X A (.Attribute e f pos) (rV X.K ec) (q.bind λv=>some (g v)):=λz E=>by
 obtain⟨v,G,I⟩:=AR E;cases I;obtain⟨fs,J,L⟩:=B v
 refine(Ja (h v G) hb).imp λσ H Q ⟨N,F,O,k⟩=>⟨N,F,O,λx P kp ⟨a,R,l⟩=>?_⟩
 rw[J]at l;obtain⟨S,T,U,Y⟩:=l;obtain⟨y,Z,r6⟩:=KVR.lookup f Y L;exact⟨a,C,S,T,y,R,U,m,w,Z,k y P kp r6⟩
theorem fU{C:AL}{f:Str}{P:α->Hp->V->Prop}{q:Option α}{R:Rk γ}{g:α->γ}(B:Cls X.K C)(E:Cj X.K C f)(h:VE X A e (rP P) q)(G:∀v H x,P v H x->∃a l fs y,x=.ref a/\H a=some (.ins C l fs)/\fs.lookup f=some y/\∀w,Kp w H->R (g v) w y H)(hb:autoParam (Bi e f X.env (A6 e X.env)=A6 e X.env) yq0q) :
  VE X A (.Attribute e f pos) R (q.bind λv=>some (g v)):=λz I=>by
 obtain⟨v,J,L⟩:=AR I;cases L
 refine(Ja (h v J) hb).imp λZ H Q ⟨N,F,O,k⟩=>⟨N,F,O,λx m kp r=>?_⟩
 obtain⟨a,l,fs,y,S,T,U,Y⟩:=G v m x (r m .refl);exact⟨a,C,l,fs,y,S,T,B,E,U,k y m kp (Y H kp)⟩
theorem Vv(L:Cls X.K C)(N:Cj X.K C f)(O:PE X o (DX i))(h:VE X A e (rV X.K enc) q)(hi:autoParam (A[i]?=some (.g (pa X.K Z (.ins C fs)))) yq0q)(hl:autoParam (fs.length < 1000) yq1q)(hs:autoParam (Bb e (some (.Attribute o f l)) pos.line X.env=pure false) yq0q) :
  VS X A (.Assign [.Attribute o f l] e pos) R (q.bind λv=>some (.nx v)) (λv=>A.set i (.g (pa X.K Z (.ins C (bN f (enc v) fs))))):=λg P=>by
 obtain⟨v,Q,S⟩:=AR P;cases S
 refine(bU O (h v Q) hs).imp λD σ H ⟨T,F,hs,k⟩=>⟨T,F,hs,λy m kp r=>?_⟩
 obtain⟨a,U,Y,_,up⟩:=(hs.grow kp).put hi;obtain⟨w,E,g3,G⟩:=Y;refine⟨_,U,a,C,w,E,rfl,g3,L,N,by rw[<-Cw G];exact hl,?_⟩
 have I:∀b B,m b=some (.tup B)->L2.upd m a (.ins C w (putF f y E)) b=some (.tup B):=λb B z=>by rw[AO (λc=>by ext)];exact z
 have J:∀b ob u,m b=some (.frz ob u)->L2.upd m a (.ins C w (putF f y E)) b=some (.frz ob u):=λb ob u z=>by rw[AO (λc=>by ext)];exact z
 have:=up (o':=.ins C (bN f (enc v) fs)) rfl ⟨w,_,Ar,KVR.putF f (r.keep I J) (Er.mapP G λM M z=>⟨z.1,z.2.keep I J⟩)⟩ (λB z=>by ext) (λob z q=>by ext);exact k _ _ _ this.1 (kp.fe.trans this.2)
noncomputable def EU(H:Hp)(x:AL):Hp:=λa=>if a=x then none else H a
theorem FZ(h:a≠x):EU H x a=H a:=qY h
theorem MH:EU H x x=none:=qX rfl
theorem G6{H}{x a}{o}(h:EU H x a=some o):a≠x/\H a=some o:=by
 by_cases c:a=x
 ·rw[c,MH]at h;cases h
 ·exact⟨c,by rwa [FZ c]at h⟩
def spI(K:AB)(C:AL)(w:List (Hp->V->Prop))(ob:α->Ob)(q:Option α):Sp:=λvs H Q E=>∃x B l v,vs=.ref x :: l/\H x=some (.ins C B [])/\q=some v/\dU w (EU H x) l/\∀m,Kp (EU H x) m->OB K m x (ob v)->Q .non m
noncomputable def OZ(q:Option (Fw Unit α)):Option α:=match q with
 | some (.nx v)=>some v
 | _=>none
abbrev _root_.Czq(P:Al)(w:A1)(K:AB)(mg:Str->Option AD)(base:BI):=CT P w K mg base (CXG P w)
theorem fnI{P:Al}{w:A1}{K:AB}{mg:Str->Option AD}{base:BI}{x G:Str}{st:B6}{f:AL}{fd:D1}{N Z:List Str}{k:Nat}{C:AL}{U:List (Hp->V->Prop)}{R:Rk Unit}{q:Option (Fw Unit α)}{ob:α->Ob}{B:AL->α->List Sl}(F:Fun K x G st f fd)(Sc:HY N Z (Bw st))(hn:U.length+1=Z.length)(hB:∀z v,(B z v)[0]?=some (sx K z (ob v)))
  (sH:∀(z:AL) (S:AD) (A:BP) (m:List Env) (s:AK) (H:Hp) (E:XK),FC k (A.deeper (HD G (Bw st) s.heap.objs.size f S))->(A.deeper (HD G (Bw st) s.heap.objs.size f S)).units+64 < Bd->N.Nodup ->
   VSs (Qa (CXG P w) P w K mg base N G (Bw st) f S A m s H E).q (sx K z (.ins C []) :: asl U (N.length - 1)) (FB st) R q (B z)):Czq P w K mg base (k+1) f fd Z (spI K C U ob (OZ q)):=by
 obtain⟨oc,od,kV,doc,pm,an,S,ct,tK,rfl,lk,sP⟩:=F.ex
 refine SA lk sP Sc (by rintro vs H Q E ⟨x,dx,args,v,e,_,_,h,_⟩;rw[<-hn,e,Am,h.1]) ?_;rintro A m s H vs Q E hr ⟨x,dx,args,v,e,hx,Y,h2,h3⟩
 subst e
 have hq:q=some (.nx v):=by
  unfold OZ at Y;split at Y
  ·cases Y;rfl
  ·cases Y
 have hb:=sH x S A m s H E hr hr.units Sc.nd _ hq
 have hl:1<=N.length:=by
  have:=congrArg Dg Sc.pre;rw[CV]at this;lia
 obtain⟨_,g⟩:=Vs.start h2
 have fe:∀a o,EU H x a=some o->H a=some o:=λa o z=>(G6 z).2
 have e0:L2.start N (.ref x :: args)=some (.ref x) :: L2.start N.tail args:=by
  unfold L2.start;rw[Jp,Am,show N.length - (args.length+1)=N.length - 1 - args.length by grind];rfl
 have hv:Vs (EU H x) (sx K x (.ins C []) :: asl U (N.length - 1)) (L2.start N (.ref x :: args)) (λa=>∃o,EU H x a=some o) H:=by
  refine⟨λi a=>i=0/\a=x,fe,λa o z=>⟨o,z⟩,by rintro a ⟨o,z⟩;exact ⟨o,fe a o z⟩,λi s T=>?_,λi a ⟨_,z⟩=>?_,λi j a z1 z2=>z1.1.trans z2.1.symm⟩
  ·rw[e0]
   cases i with
   | zero=>
    cases T;exact⟨_,rfl,.ref x,rfl,λO f z=>⟨x,rfl,funext λa=>propext ⟨λq=>q.2,λq=>⟨rfl,q⟩⟩,⟨dx,[],by ext,.nil⟩,rfl⟩⟩
   | succ i=>
    rw[<-Jp]at T;obtain⟨y,q1,q2⟩:=g.sl i s T;refine⟨y,q1,?_⟩
    cases s with
    | u=>trivial
    | q P=>obtain⟨y,r1,r2⟩:=q2;exact⟨y,r1,λO f=>r2 O ⟨λa xs z=>f.tup a xs (fe _ _ z),λa o u z=>f.frz a o u (fe _ _ z),λa o M z=>f.fix a o ⟨o,z⟩ (fe _ _ z)⟩⟩
    | g P=>
     unfold asl at T
     rcases Ak.mp (A2 T)with q | q
     ·obtain⟨_,_,q⟩:=Ax.mp q;cases q
     ext
  ·subst z
   exact⟨by rintro ⟨o,q⟩;exact (by rw[MH]at q;cases q),_,hx⟩
 refine⟨_,λζ s' σ O D I q=>DP (hb ζ s' σ O D (I.with _) q) (λfl s1 z=>?_) λe s1 z=>z.elim,EU H x,_,hv,λl F' O v' e'=>?_⟩
 ·cases fl with
  | next=>obtain⟨l,L,J,z⟩:=z;exact⟨l,L,J.without,z⟩
  | brk=>obtain⟨l,L,J,z⟩:=z;exact⟨l,L,J.without,z⟩
  | cont=>obtain⟨l,L,J,z⟩:=z;exact⟨l,L,J.without,z⟩
  | ret u=>obtain⟨v,l,L,J,r,z⟩:=z;exact⟨v,l,L,J.without,r,z⟩
 ·obtain⟨a,g1,g2,g3,_⟩:=v'.put (hB x v)
  subst g3;exact h3 O v'.kp g2
theorem fQ(M:Mk X.K C f)(F:∀z,CT X.prog X.w X.K X.mg X.base (CXG X.prog X.w) k f fd J (spI X.K C (L z) ob (g z)))(hb:Binds X.K fd J [])(N:X.mg x=some (.ref C))(O:FC (k'+1) X.A)(R:VA X A (e :: es) q L)
  (hk:autoParam (k<=k') yq1q) (S:autoParam (X.xe=λ_ _=>False) yq0q) (T:autoParam (Gl X x) yq0q) (U:autoParam ((x==("__debug__" : Str))=false) yq1q) (Y:autoParam (zSp X e es) yq0q) (Z:autoParam ((Cu pos (AH es X.env)).any (·.1)=false) yq0q) :
  VE X A (.Call (.Name x pc) (e :: es) [] pos) (rN X.K ob) (q.bind g):=λv hv=>by
 obtain⟨z,h1,h2⟩:=AR hv
 refine(Xj M (F z) (O.mono (by ext)) T N hb .nil (good_none S).pass (R z h1) U Y Z).imp λσ H Q ⟨H0,F,hs,kq⟩=>⟨H0,F,hs,λxs B kp r y dx E hdx sf=>?_⟩
 rw[BO]
 have G:Kp B (EU (L2.upd (L2.upd B dx (.own y)) y (.ins C dx [])) y):=λa o e=>by
  have I:a≠y:=λc=>by lia
  have n2:a≠dx:=λc=>by lia
  rw[FZ I,AO I,AO n2];exact e
 refine⟨y,dx,xs,v,rfl,Ar,h2,⟨r.1,λi P u e1 e2 l m=>r.2 i P u e1 e2 l (G.trans m)⟩,λl m ho=>⟨rfl,kq _ l (kp.trans (G.trans m)) ⟨y,rfl,?_,ho⟩⟩⟩
 cases e0:H y with
 | none=>rfl
 | some o=>rw[kp y o e0]at E;cases E
end
end L7
namespace PySem.SetTable
def Up(xs:Array Nat):Prop:=xs.toList.Pairwise (· < ·)
theorem Up.lt(u:Up xs)(h:i < k)(l:k < xs.size):xs[i] < xs[k]:=by
 have:=Ip.mp u i k (by rw[Ac];omega) (by rw[Ac];exact l) h;trivial
structure At(xs:Array Nat)(j r:Nat):Prop where
 le:r<=xs.size
 lo:∀i (h:i < xs.size),i < r->xs[i] < j
 hi:∀i (h:i < xs.size),r<=i->j<=xs[i]
theorem At.eq(a:At xs j r)(b:At xs j r'):r=r':=by
 rcases dZ r r' with h | h | h
 ·have l:=Aa h b.le
  have m:=b.lo r l h;have o:=a.hi r l (AN _);lia
 ·exact h
 ·have l:=Aa h a.le
  have m:=a.lo r' l h;have o:=b.hi r' l (AN _);lia
theorem Ql(u:Up xs)(j:Nat):∀(fuel lo hi:Nat),lo<=hi->hi<=xs.size->hi - lo<=fuel ->
  (∀i (h:i < xs.size),i < lo->xs[i] < j)->(∀i (h:i < xs.size),hi<=i->j<=xs[i])->At xs j (FK.go xs j fuel lo hi)
 | 0,lo,hi,E,l,G,m,o=>by
  have:lo=hi:=by grind
  subst this;exact⟨l,m,o⟩
 | fuel+1,lo,hi,E,l,G,m,o=>by
  unfold FK.go
  by_cases h:lo < hi
  ·rw[qX h]
   have A:(lo+hi) / 2 < xs.size:=by lia
   have e:xs.getD ((lo+hi) / 2) j=xs[(lo+hi) / 2]:=by simp[RC,A]
   simp only[e]
   by_cases w:xs[(lo+hi) / 2] < j
   ·rw[qX w]
    refine Ql u j fuel _ _ ∅ l (by grind) (λi B H=>?_) o
    by_cases C:i=(lo+hi) / 2
    ·ext
    ·exact OV (u.lt (by lia:i < (lo+hi) / 2) A) w
   ·rw[qY w]
    refine Ql u j fuel _ _ ∅ ∅ (by grind) m λi B H=>?_
    by_cases C:i=(lo+hi) / 2
    ·subst C;ext
    ·have:=u.lt (by lia:(lo+hi) / 2 < i) B;lia
  ·rw[qY h]
   have:lo=hi:=by lia
   subst this;exact⟨l,m,o⟩
theorem K3(u:Up xs)(j:Nat):At xs j (FK xs j):=
 Ql u j _ _ _ (Bc _) (AN _) (by ext) (λG G h=>zX h (by ext)) λi h l=>zX h ∅
theorem Wn(u:Up xs):FK xs 0=0:=(K3 u 0).eq ⟨Bc _,λG G h=>zX h (by ext),λG G G=>Bc _⟩
theorem Wo(u:Up xs)(h:i < xs.size):FK xs (xs[i]+1)=i+1:=
 (K3 u _).eq ⟨h,λk l m=>by
  by_cases e:k=i
  ·subst e;ext
  ·have:=u.lt (by lia:k < i) h;lia,λk l m=>u.lt (by trivial:i < k) l⟩
theorem Yb(u:Up xs)(h:xs[FK xs j]?≠some j):Up (insertAt xs (FK xs j) j):=by
 have a:=K3 u j;unfold Up;rw[toList_insertAt,BC,Fx];refine⟨oQ u,⟨λy o=>?_,oR u⟩,λx B y o=>?_⟩
 ·obtain⟨k,l,e⟩:=FF.mp o
  have m:FK xs j+k < xs.size:=by simp at l;grind
  have A:xs[FK xs j+k]=y:=by simpa using e
  have C:=a.hi _ m (by ext)
  by_cases E:k=0
  ·subst E
   grind
  ·have hb:FK xs j < xs.size:=by lia
   have H:=a.hi _ hb (AN _);have I:=u.lt (by lia:FK xs j < FK xs j+k) m
   grind
 ·have G:x < j:=by
   obtain⟨k,l,e⟩:=FF.mp B
   have m:k < xs.size:=by simp at l;grind
   have w:k < FK xs j:=by simp at l;grind
   have A:xs[k]=x:=by simpa using e
   have:=a.lo k m w
   ext
  rcases Aj.mp o with e | o
  ·ext
  ·obtain⟨k,l,e⟩:=FF.mp o
   have m:FK xs j+k < xs.size:=by simp at l;grind
   have A:xs[FK xs j+k]=y:=by simpa using e
   have C:=a.hi _ m ∅
   lia
end PySem.SetTable
namespace PySem
open SetTable
theorem iI{mask finger moves}{led plain}{hs}{t}{o}(e:laid mask finger moves led plain hs=some (t,o)):Up t.place/\t.led=led:=by
 unfold laid at e
 cases l:layClean mask hs with
 | none=>rw[l]at e;cases e
 | some w=>
  rw[l]at e;cases e;refine⟨?_,rfl⟩;unfold Up;simp only[Zi];refine N7 _ (λa A h b hb B m=>?_) KC;ext
theorem MG{m:Type}:∀(l:List m) (i:Nat) (h:i < l.length),EN (l[i] :: l.eraseIdx i) l
 | [],i,h=>zX h (Q6 _)
 | a :: l,0,_=>.rfl
 | a :: l,i+1,h=>(YS _ _ _).trans ((MG l i (Nat.lt_of_succ_lt_succ h)).cons a)
theorem Xi{m:Type}(next:Nat->Nat):∀(fuel k:Nat) (left:List m) (out:Array m),left.length=fuel->EN (Q2 next fuel k left out).toList (out.toList++left)
 | 0,k,left,out,h=>by
  have:left=[]:=DN h;subst this;simp[Q2]
 | fuel+1,k,left,out,h=>by
  unfold Q2;have l:next k % left.length < left.length:=NN _ (by ext);rw[AI l];refine(Xi next fuel (k+1) _ _ (by rw[Rb l];ext)).trans ?_;rw[GS,Bf];refine GO _ ?_;exact MG _ _ l
theorem Ys{l:Type}(next:Nat->Nat)(xs:Array l):EN (Za next xs).toList xs.toList:=by
 have:=Xi next xs.size 0 xs.toList #[] ∅
 assumption
open PySem.Sem (wp)
open SetTable
theorem R3:Manifest.owners.lookup (String.ofList ['r','o','t','a','r','e','t','i','_','t','e','s'].reverse)=some Manifest.sig_set_iterator:=by kernel_rfl
theorem Cd:Slot "set_iterator" "__next__" "set_iterator.__next__" :=
 .of (owner:="set_iterator") (n:="__next__") (by rfl) (by rfl) (by rfl) (by rfl)
  (by first | exact .inl (by rfl) | exact .inr ∅) (by rfl)
theorem Lr:Slot "set_iterator" "__iter__" "set_iterator.__iter__" :=
 .of (owner:="set_iterator") (n:="__iter__") (by rfl) (by rfl) (by rfl) (by rfl)
  (by first | exact .inl (by rfl) | exact .inr ∅) (by rfl)
theorem GG:entryFor table "set_iterator.__next__" = some Builtin.«set_iterator.__next__»:=entryFor_of_tree (by kernel_rfl)
theorem QW:entryFor table "set_iterator.__iter__" = some Builtin.«dict_keyiterator.__iter__»:=entryFor_alias (id':="dict_keyiterator.__iter__") (by kernel_rfl) rfl ∅ (by kernel_rfl)
theorem QX:entryFor table "set.__iter__" = some Builtin.«frozenset.__iter__»:=entryFor_alias (id':="frozenset.__iter__") (by kernel_rfl) rfl ∅ (by kernel_rfl)
theorem Gz(a:AD):argsOk "set_iterator.__next__" ⟨[a],[]⟩:=by
 unfold argsOk;rw[signature?_of (n:=['_','_','t','x','e','n','_','_']) (by kernel_rfl) R3];kernel_rfl
theorem RT(a:AD):argsOk "set_iterator.__iter__" ⟨[a],[]⟩:=by
 unfold argsOk;rw[signature?_of (n:=['_','_','r','e','t','i','_','_']) (by kernel_rfl) R3];kernel_rfl
def Nv(h:BI)(a:AL)(es:Array (Int×AD))(ep:Nat)(t:Dz):Prop:=∃o,h.get? a=some o/\o.ExactSet/\o.data=.set es ep t/\t.fits es.size=true
def SIt(h:BI)(it:AL)(f:AD)(i:Nat)(a:AL)(n ep:Nat):Prop:=h.get? it=some { cls:=.type "set_iterator",dict:=none,data:=.fields #[f,.int i 0,.ref a,.int n 0,.int ep 0],slots:=#[] }
theorem Nv.at'(x:Nv h a es ep t)(e:∀o,h.get? a=some o->h'.get? a=some o):Nv h' a es ep t:=let ⟨o,l,r⟩:=x;⟨o,e _ l,r⟩
section
variable{prog:Al}{w:A1}{A:BP}{E:AD->AK->Prop}{s:AK}{a it:AL}{es:Array (Int×AD)}{ep i:Nat}{t:Dz}
theorem SIt.ty(x:SIt s.heap it f i a n ep):s.TypeIs (.ref it) "set_iterator":=⟨_,x,rfl⟩
def Nxt(prog:Al)(w:A1)(a:AL)(es:Array (Int×AD))(ep:Nat)(t:Dz)(l i:Nat)(r:Option (AD×Nat)):Prop:=
 ∀(A:BP) (E:AD->AK->Prop) (s:AK) (Q:Option (AD×Nat)->AK->Prop),Nv s.heap a es ep t->Q r s->AZ (AY prog w) A (setNext a l i ep) Q E s
theorem Uu(hb:w.params.followText "set-order" = true):Nxt prog w a es ep t 0 i (((Za (w.params.setOrder a ep) es)[i]?).map λe=>(e.2,0)):=by
 intro A E s Q C G;obtain⟨o,l,hex,m,B⟩:=C;unfold setNext;refine AA (C9 l m B ?_);unfold Vg;refine AA (AA (Fl (AC ?_)));rw[show(AY prog w).w.params.followText "set-order" = true from hb];simp only[if_true,bne_self_eq_false,A5,if_false];unfold setWalk Vg;refine AA ?_;refine AA (C9 l m B ?_);refine AA (AA (Fl (AC ?_)));rw[show(AY prog w).w.params.followText "set-order" = true from hb];refine AA (Fl (AC ?_));exact AC G
theorem Uv(hb:w.params.followText "set-order" = false) (hl:t.led=true) (l:t.plain=true∨es.size<=1) (m:Nat) :
  Nxt prog w a es ep t m i (match es[FK t.place m]?,t.place[FK t.place m]? with | some (_,x),some j=>some (x,j+1) | _,_=>none):=by
 intro A E s Q C G;obtain⟨o,H,hex,I,J⟩:=C;unfold setNext;refine AA (C9 H I J ?_);unfold Vg;refine AA (AA (Fl (AC ?_)));rw[show(AY prog w).w.params.followText "set-order" = false from hb]
 have B:(!t.plain&&decide (es.size > 1))=false:=by
  rcases l with l | l
  ·rw[l];rfl
  ·ext
 refine(show AZ _ _ (if (!t.plain&&decide (es.size > 1))=true then _ else _) _ _ s from ?_);rw[B];refine AA (show AZ _ _ (if (!t.led&&!es.isEmpty)=true then _ else _) _ _ s from ?_);rw[hl];exact AC (AC G)
theorem a6{m B:Nat}{x:AD}{Q:Option AD->AK->Prop}(l:SIt s.heap it (.int m 0) i a es.size ep)(C:Nv s.heap a es ep t)(G:Nxt prog w a es ep t m i (some (x,B)))
  (H:∀h',SIt h' it (.int B 0) (i+1) a es.size ep->DM it s.heap h'->Q (some x) { s with heap:=h' }):AZ (AY prog w) A (F3 (.ref it)) Q E s:=by
 obtain⟨o,I,hex,J,L⟩:=id C;unfold F3;refine AA (FD (BM l.ty Cd (BL Cd l.ty GG ?_ (Gz _))));unfold Builtin.«set_iterator.__next__» Vf;refine AA (AC ?_);refine AA (Eb l rfl ?_);refine AA (Fy I J L ?_);rw[qY (by ext)];refine AA (G _ _ _ _ C ?_);refine AA (JN l ∅ λR N O=>?_);refine AA (JN N ∅ λS T P=>?_);refine AC ⟨_,rfl,AC (H _ ?_ (O.trans P))⟩
 assumption
theorem gP{m:Nat}{Q:Option AD->AK->Prop}(C:A.handled=none)(l:SIt s.heap it (.int m 0) i a es.size ep)(B:Nv s.heap a es ep t)(G:Nxt prog w a es ep t m i none)
  (H:∀h',Ll it s.heap h'->Q none { s with heap:=h' }):AZ (AY prog w) A (F3 (.ref it)) Q E s:=by
 obtain⟨o,I,hex,J,L⟩:=id B;unfold F3;refine AA (FD (BM l.ty Cd (BL Cd l.ty GG ?_ (Gz _))));unfold Builtin.«set_iterator.__next__» Vf;refine AA (AC ?_);refine AA (Eb l rfl ?_);refine AA (Fy I J L ?_);rw[qY (by ext)];refine AA (G _ _ _ _ B ?_);refine AA (HC l rfl ∅ (AA ?_));refine AA (BD (AA (J7 (by first | rfl | (simp only[NG];rfl)) (BD ?_ (by size_fits)))) (by size_fits));refine AA (Oh ?_);rw[show A.in1.handled=none from C];refine AA (AC (Tr ?_));refine AA (Dt ⟨_,AQ _ rfl,rfl⟩ NF (AC ?_));exact H _ (((B4 ..).extBut.push _).push _)
end
section
theorem RE(m:n≠0)(h:∀d',Q (M.w.draws l (s.drawn.get l) % n) { s with drawn:=d' }):AZ M A (choose l n) Q E s:=λG G G=>⟨m,h _⟩
theorem SE{B:Type}:∀(n:Nat) (xs:List B) (s:AK) (Q:List B->AK->Prop),xs.length=n->(∀o d',EN o xs->Q o { s with drawn:=d' })->AZ (AY prog w) A (oG n xs) Q E s
 | 0,xs,s,Q,l,h=>by
  have:xs=[]:=DN l;subst this;unfold oG;exact AC (h [] s.drawn .nil)
 | n+1,[],s,Q,l,h=>by cases l
 | n+1,x :: xs,s,Q,l,h=>by
  unfold oG;refine AA (RE (by simp) λd1=>?_);have m:(AY prog w).w.draws NB (s.drawn.get NB) % (x :: xs).length < (x :: xs).length:=NN _ (by simp);generalize (AY prog w).w.draws NB (s.drawn.get NB) % (x :: xs).length=i at m;rw[AI m];refine AA (SE n _ _ _ (by rw[Rb m];ext) λo d' C=>?_);exact AC (h _ d' ((C.cons _).trans (MG _ _ m)))
def TP(h:BI)(T:AL)(l:List Nat):Prop:=∃o c,h.get? T=some o/\o.data=.seq (l.map λ(i:Nat)=>Ft i 0).toArray c
theorem TP.at'(x:TP h T ps)(e:∀o,h.get? T=some o->h'.get? T=some o):TP h' T ps:=let ⟨o,c,l,r⟩:=x;⟨o,c,e _ l,r⟩
theorem Yk(l:SIt s.heap it (.ref T) i a es.size ep)(H:Nv s.heap a es ep t)(I:TP s.heap T m)(J:m[i]?=some p)(L:es[p]?=some e)
  (N:∀h',SIt h' it (.ref T) (i+1) a es.size ep->DM it s.heap h'->Q (some e.2) { s with heap:=h' }):AZ (AY prog w) A (F3 (.ref it)) Q E s:=by
 obtain⟨o,B,hex,C,G⟩:=id H;obtain⟨U,c,O,P⟩:=I;unfold F3;refine AA (FD (BM l.ty Cd (BL Cd l.ty GG ?_ (Gz _))));unfold Builtin.«set_iterator.__next__» Vf;refine AA (AC ?_);refine AA (Eb l rfl ?_);refine AA (Fy B C G ?_);rw[qY ∅];refine AA (Ea O P ?_);symm
 have R:(m.map λ(i:Nat)=>Ft i 0).toArray[(Int.toNat (i:Int))]?=some (.int p 0):=by
  rw[Ay];simp[J]
 rw[R];unfold setNextDrawn;refine AA (AA (C9 B C G ?_));symm;rw[qY (by ext),Ay,L];refine AC ?_;refine AA (JN l ∅ λX Y S=>?_);refine AC ⟨_,rfl,AC (N _ ?_ S)⟩
 assumption
theorem a7(C:A.handled=none)(l:SIt s.heap it (.ref T) i a es.size ep)(G:Nv s.heap a es ep t)(H:TP s.heap T m)(B:m[i]?=none)
  (I:∀h',Ll it s.heap h'->Q none { s with heap:=h' }):AZ (AY prog w) A (F3 (.ref it)) Q E s:=by
 obtain⟨o,J,hex,L,N⟩:=id G;obtain⟨X,c,O,P⟩:=H;unfold F3;refine AA (FD (BM l.ty Cd (BL Cd l.ty GG ?_ (Gz _))));unfold Builtin.«set_iterator.__next__» Vf;refine AA (AC ?_);refine AA (Eb l rfl ?_);refine AA (Fy J L N ?_);rw[qY (by ext)];refine AA (Ea O P ?_);symm
 have R:(m.map λ(i:Nat)=>Ft i 0).toArray[(Int.toNat (i:Int))]?=none:=by
  rw[Ay];simp at B ⊢;exact B
 rw[R];refine AA (JN l ∅ λY S U=>?_);refine AA (HC S rfl ∅ (AA ?_));refine AA (BD (AA (J7 (by first | rfl | (simp only[NG];rfl)) (BD ?_ (by size_fits)))) (by size_fits));refine AA (Oh ?_);rw[show A.in1.handled=none from C];refine AA (AC (Tr ?_));refine AA (Dt ⟨_,AQ _ rfl,rfl⟩ NF (AC ?_));exact I _ (((U.trans (B4 ..)).extBut.push _).push _)
theorem Ua(l:SIt s.heap it f i a n ep)(h:Q (.ref it) s):AZ (AY prog w) A (PM (.ref it)) Q E s:=by
 refine Qx l.ty Lr (BL Lr l.ty QW ?_ (RT _));exact AC ⟨_,rfl, "set_iterator",_,l.ty,Cd.lookup,h⟩
theorem UE(I:A.handled=none)(J:a≠it)(B:Nat->Nat)(ord:List AD)(H:ord.length=es.size)
  (L:∀i x,ord[i]?=some x->Nxt prog w a es ep t (B i) i (some (x,B (i+1)))) (N:Nxt prog w a es ep t (B es.size) es.size none) :
  Walks prog w A it [it,a] [it] es.size (λi v=>ord[i]?=some v) (λi h=>SIt h it (.int (B i) 0) i a es.size ep/\Nv h a es ep t) where
 sub:=λx C=>by ext
 frame:=λM M M st keep=>⟨keep it ∅ _ st.1,st.2.at' λo e=>keep a ∅ o e⟩
 item:=λi s Q E R st l=>by
  have C:ord[i]?=some ord[i]:=AI (by omega)
  exact a6 st.1 st.2 (L i _ C) λG O m=>l _ G s.toks C ⟨O,st.2.at' λo e=>m.extBut a o J e⟩ λb o hb e=>m.extBut b o (λh=>hb (by simp[h])) e
 done:=λs Q E st l=>gP I st.1 st.2 N λG P=>l G s.toks λb o hb e=>P b o (λh=>hb (by simp[h])) e
 self:=λM M M M st l=>Ua st.1 l
theorem YV(J:A.handled=none)(L:a≠it)(N:T≠it)(m:List Nat)(C:EN m (A0 es.size)) :
  Walks prog w A it [it,a,T] [it] es.size (λi v=>(m.filterMap λp=>(es[p]?).map (·.2))[i]?=some v) (λi h=>SIt h it (.ref T) i a es.size ep/\Nv h a es ep t/\TP h T m) where
 sub:=λx hx=>by ext
 frame:=λM M M st keep=>⟨keep it ∅ _ st.1,st.2.1.at' λo e=>keep a ∅ o e,st.2.2.at' λo e=>keep T ∅ o e⟩
 item:=λi s Q E hi st G=>by
  have O:m.length=es.size:=by have:=C.length_eq;simpa using this
  have P:∀p∈m,p < es.size:=λp h=>by simpa using C.mem_iff.mp h
  have H:m[i]?=some (m[i]'∅):=AI ∅;have R:=P _ (CB (by lia:i < m.length));have S:=Bq R
  have U:∀(l:List Nat),(∀p∈l,p < es.size)->(l.filterMap λp=>(es[p]?).map (·.2))=l.map λp=>(es.getD p (0,.none)).2:=λl=>by
   induction l with
   | nil=>intro _;rfl
   | cons p l X=>
    intro h;have C:=h p AW;rw[List.filterMap_cons_some (b:=(es[p]).2) (by simp[C]),X λq Y=>h q (AM _ Y)];simp[RC,C]
  refine Yk st.1 st.2.1 st.2.2 H S λI Z B=>G _ I s.toks ?_ ⟨Z,st.2.1.at' λo e=>B.extBut a o L e,st.2.2.at' λo e=>B.extBut T o N e⟩ λb o hb e=>B.extBut b o (λh=>hb (by simp[h])) e
  ext
 done:=λs Q E st G=>by
  have O:m.length=es.size:=by have:=C.length_eq;simpa using this
  exact a7 J st.1 st.2.1 st.2.2 (List.getElem?_eq_none (by ext)) λI vX=>G I s.toks λb o hb e=>vX b o (λh=>hb (by simp[h])) e
 self:=λM M M M st G=>Ua st.1 G
theorem PY(l:Nv s.heap a es ep t)(m:Q (!(w.params.followText "set-order")&&(!t.plain&&decide (es.size > 1))) s):AZ (AY prog w) A (setDrawn a) Q E s:=by
 obtain⟨o,B,hex,C,G⟩:=l;unfold setDrawn Vg;refine AA (C9 B C G ?_);refine AA (AA (Fl (AC ?_)));exact AC m
noncomputable def WE(t:Dz):Nat->Nat
 | 0=>0
 | i+1=>t.place.getD i 0+1
theorem Qk(l:Up t.place):∀{i:Nat},i<=t.place.size->FK t.place (WE t i)=i
 | 0,_=>Wn l
 | i+1,h=>by
  have:t.place.getD i 0=t.place[i]'∅:=by simp[RC,show i < t.place.size by lia]
  show FK t.place (t.place.getD i 0+1)=i+1;rw[this];exact Wo l _
theorem a9(N:A.handled=none)(C:Nv s.heap a es ep t)(Y:Up t.place)(hl:t.led=(!(w.params.followText "set-order"))) (hz:es.size<=sizeLine)
  (O:∀(h':BI) (d':_) (I:AL) (Z:List AL) (St:Nat->BI->Prop) (ord:List AD),EN ord (es.toList.map (·.2))->(∀b o,s.heap.get? b=some o->h'.get? b=some o) ->
   (∀b∈Z,b=a∨s.heap.objs.size<=b)->s.heap.objs.size<=I->Walks prog w A I Z [I] es.size (λi v=>ord[i]?=some v) St->St 0 h'->Q (.ref I) { s with heap:=h',drawn:=d' }) :
  AZ (AY prog w) A (PM (.ref a)) Q E s:=by
 obtain⟨o,G,hex,P,l⟩:=id C;have hT:s.TypeIs (.ref a) "set":=⟨o,G,hex.1⟩;have R:=AX G
 have hps:t.place.size=es.size:=by
  unfold Qr at l;simp at l;exact l.1
 refine Qx hT ny (BL ny hT QX ?_ (F.args_set_iter_1 _));unfold Builtin.«frozenset.__iter__» eJ Vf eQ eM;refine AA (AC ?_);refine AA (AA (Fy G P l (AC ?_)));refine AA (PY C ?_)
 by_cases hb:(!(w.params.followText "set-order")&&(!t.plain&&decide (es.size > 1)))=true
 ·rw[qX hb]
  refine AA (SE es.size (A0 es.size) s _ ∅ λS d' m=>?_)
  have U:S.length=es.size:=by have:=m.length_eq;simpa using this
  unfold newTuple;refine AA (BD ?_ (show _<=sizeLine by ext));unfold setEpoch;refine AA (AA (C9 (AG _ G) P l (AC ?_)));unfold newFields;refine AA (BD (AC ⟨_,rfl, "set_iterator",_,⟨_,AQ _ rfl,rfl⟩,Cd.lookup,?_⟩) (by size_fits));refine O _ d' _ _ _ (S.filterMap λp=>(es[p]?).map (·.2)) ?_ (λb o e=>AG _ (AG _ e)) ?_ ?_ (YV N (a:=a) (T:=s.heap.objs.size) (t:=t) (ep:=ep) ?_ ?_ S m) ⟨?_,?_,?_⟩
  ·refine(m.filterMap _).trans ?_
   have:(A0 es.size).filterMap (λp=>(es[p]?).map (·.2))=es.toList.map (·.2):=by
    have e:=filterMap_getElem?_range es;rw[<-e,Zi]
   rw[this]
  ·simp
  ·ext
  ·rw[C2];exact Ao (D6 R)
  ·ext
  ·exact AQ _ rfl
  ·exact C.at' λo e=>AG _ (AG _ e)
  ·exact⟨_,_,AG _ (AQ _ rfl),rfl⟩
 ·rw[qY hb]
  refine AA (AC ?_);unfold setEpoch;refine AA (AA (C9 G P l (AC ?_)));unfold newFields;refine AA (BD (AC ⟨_,rfl, "set_iterator",_,⟨_,AQ _ rfl,rfl⟩,Cd.lookup,?_⟩) (by size_fits))
  have zT:∀b∈[s.heap.objs.size,a],b=a∨s.heap.objs.size<=b:=λb hb=>by
   grind
  cases B:w.params.followText "set-order" with
  | true=>
   have m:=Ys (w.params.setOrder a ep) es
   have X:(Za (w.params.setOrder a ep) es).size=es.size:=by have:=m.length_eq;simpa using this
   refine O _ s.drawn _ _ _ ((Za (w.params.setOrder a ep) es).toList.map (·.2)) (m.map _) (λb o e=>AG _ e) zT (AN _)
    (UE N (Ao R) (λM=>0) _ (by simp[X]) (λi x H=>?_) ?_) ⟨AQ _ rfl,C.at' λo e=>AG _ e⟩
   ·have:=Uu (prog:=prog) (a:=a) (es:=es) (ep:=ep) (i:=i) (t:=t) B
    rw[Ab,CF]at H
    grind
   ·have:=Uu (prog:=prog) (a:=a) (es:=es) (ep:=ep) (i:=es.size) (t:=t) B
    ext
  | false=>
   have J:t.led=true:=by rw[hl,B];rfl
   have U:t.plain=true∨es.size<=1:=by
    rw[B]at hb
    cases hh:t.plain with
    | true=>exact .inl rfl
    | false=>ext
   refine O _ s.drawn _ _ _ (es.toList.map (·.2)) .rfl (λb o e=>AG _ e) zT (AN _)
    (UE N (Ao R) (WE t) _ ∅ (λi x H=>?_) ?_) ⟨AQ _ rfl,C.at' λo e=>AG _ e⟩
   ·have:=Uv (prog:=prog) (a:=a) (ep:=ep) (i:=i) B J U (WE t i)
    rw[Ab,CF]at H
    have hi:i < es.size:=by
     rcases Gf i es.size with h | h
     ·exact h
     ·ext
    have L:FK t.place (WE t i)=i:=Qk Y ∅;rw[L,Bq hi,Bq (by simp_all:i < t.place.size)]at this;rw[Bq hi]at H;cases H
    have e2:t.place.getD i 0=t.place[i]'∅:=by simp[RC,show i < t.place.size by lia]
    show Nxt prog w a es ep t (WE t i) i (some (_,t.place.getD i 0+1));rw[e2];exact this
   ·have:=Uv (prog:=prog) (a:=a) (ep:=ep) (i:=es.size) B J U (WE t es.size)
    have L:FK t.place (WE t es.size)=es.size:=Qk Y (by ext);ext
end
section
theorem RO(a:AD) 
  (h:Q₁ (.ref s.heap.objs.size) { s with heap:=s.heap.push { cls:=.type "set",dict:=none,data:=.set #[] 0 (.fresh 0 0 (!(w.params.followText "set-order"))) } }) :
  HE (AY prog w) A (.call (.builtin "set.__new__") ⟨[.type "set",a],[]⟩) (wants Q₁ E) s:=by
 refine rB ?_;refine AA (J7 (F.newCall_set_1 a) (AC ⟨KF n9 _,GU F.entry_set_new ?_⟩));rw[E3 n9 _];unfold Builtin.«set.__new__» eN;have l:=sub_set_self;obtain⟨m,g,d,o,os⟩:=s
 wp_walk
 refine Fl (AC ?_);refine AA (wpAny_alloc (AC ?_));exact AC h
end
section
theorem cZ(m:s.TypeIs (.ref a) "set") (h:Q false s):AZ (AY prog w) A (Mf (.ref a)) Q E s:=by
 unfold Mf;refine AA (E4 m PySem.F.slot_set_len.lookup ?_);generalize l:("set.__len__" : String)=id0
 wp_delta
 rw[show splitId id0=some ("set", "__len__")from by subst l;rfl];subst l;refine AA (Dt (b:=true) m (by rfl) ?_);refine T3 (λo=>zX o (by contradiction)) (λG=>?_);refine T3 (λG=>?_) (λo=>zX (by rfl) o);refine AA (Iq m ?_);exact AC h
theorem WI(hh:A.handled=none)(Q:Nv s.heap a es ep t)(hu:Up t.place)(hl:t.led=(!(w.params.followText "set-order"))) (Z:es.size<=sizeLine)
  (S:AL) (T:S≠a) (res:AD) (B:Nat) (hL:s.heap.get? S=some { cls:=.type "list",data:=.seq #[] B })
  (hR:∀h' P d' (E:Array AD) H (ord:List AD),EN ord (es.toList.map (·.2))->(∀b o,b≠S->s.heap.get? b=some o->h'.get? b=some o)->h'.get? S=some { cls:=.type "list",dict:=none,data:=.seq E H,slots:=#[] } ->
   E.toList=ord->R (.ok (.ret res)) { s with heap:=h',toks:=P,drawn:=d' }) :
  AZ (AY prog w) A.in1 (Mg (.ref S) (.ref a) res)
   (λfin s'=>match fin with | .done f=>R (.ok f) s' | .again H=>H.quiet=true/\HE (AY prog w) A H R s') (λe s'=>R (.error e) s') s:=by
 have hT:s.TypeIs (.ref a) "set":=let ⟨o,U,hex,_⟩:=Q;⟨o,U,hex.1⟩
 have hSl:=AX hL;unfold Mg;refine AA (Iq hT ?_)
 have h1:N8 (.ref S) (.ref a)=false:=by simp[N8,T]
 simp only[h1,show(Fo "set"==Fo "list")=false by decide,show(Fo "set"==Fo "tuple")=false by decide,Bool.or_false,A5,if_false];refine AA (a9 hh Q hu hl Z λh1 d1 I fp St ord hp J zT hI W st=>?_)
 have w8:S∉fp:=λh=>by
  grind
 have L:∀(h:BI) (l P:Nat),St 0 h->(∀b o,b≠S->s.heap.get? b=some o->h.get? b=some o) ->
   h.get? S=some { cls:=.type "list",data:=.seq #[] l }->HE (AY prog w) A (.builtin "list.extend.loop" ⟨[.ref S,.ref I,res],[]⟩) R { s with heap:=h,toks:=P,drawn:=d1 }:=by
  intro h l P tW J N
  refine codeAny_extend_loopS W.toS Z S w8 res es.size 0 _ #[] l rfl (Bc _) tW N (ItemsOf.nil _) λs' E H hm tN X=>?_
  rw[Moved.eq_with hm];refine hR s'.heap s'.toks d1 E H ord hp (λb o hb e=>hm.heap b o (λC=>?_) (J b o hb e)) tN ?_
  ·rcases Aj.mp C with e' | C
   ·exact hb e'
   ·exact zX (AX e) ∅
  ·have vY:ord.length=es.size:=by have:=hp.length_eq;simpa using this
   apply D5
   intro j
   by_cases hj:j < es.size
   ·have Y:j < E.size:=by rw[X.1];exact hj
    have:=X.2 j E[j] (by simp[Y]);rw[this];simp[Y]
   ·have Y:¬j < E.size:=by rw[X.1];exact hj
    ext
 have N:=J S _ hL;refine AA (Cp (cZ (let ⟨o,U,hex,_⟩:=Q;⟨o,J _ _ U,hex.1⟩) ?_));refine T3 (λM=>?_) (λM=>AC ⟨KF Qu _,L _ B _ st (λb o M e=>J b o e) N⟩);refine AA (JO ?_);refine AA ?_;refine AA (qz N rfl ?_);have m:=Ch (Ec (·.push C0)) N rfl;refine qz m rfl ?_;have G:=Ch (Ec (·.pop)) m rfl;refine AC ⟨KF Qu _,L _ _ _ ?_ (λb o hb e=>?_) G⟩
 ·refine W.frame 0 _ _ st λb hb o e=>?_
  have O:b≠S:=λh=>w8 (h▸hb)
  exact(Dc _ _ (CO O)).trans ((Dc _ _ (CO O)).trans e)
 ·exact(Dc _ _ (CO hb)).trans ((Dc _ _ (CO hb)).trans (J b o e))
end
end PySem
namespace L2
open Srt
theorem Inv.drew(I:Inv X l m H s):Inv X l m H { s with drawn:=d' }:=⟨I.ok,I.os,I.bare,I.base,I.loc,I.cell,I.free,I.freeC,I.pin,I.hok,I.len⟩
section
variable{X:Cx}{E:EW}{tg e:Expr}{K:AB}{ζ:List (AL×Obj)}{σ:St}{H:Hp}{s:AK}
def Itk(a:AL)(ob:Obj)(u:HO)(xs:List V):It:=
 ⟨λi H=>H a=some (.frz ob u)/\i < xs.length,λi H x l=>l=H/\xs[i]?=some x,λi H=>H a=some (.frz ob u)/\xs.length<=i⟩
theorem Rj(T:ob.ExactDict)(U:ob.data=.dict es ep)(B:Bp xs (es.toList.map (·.key))):RU P w K tg (Itk a ob u xs) [it] it (λi h=>h.IsKeyIter it a i es.size ep) where
 mem:=by simp
 obj:=λi h st b hb=>by
  have e:b=it:=by simpa using hb
  subst e;obtain⟨o,e,c,d⟩:=st
  ext
 keep:=λi h Y st k=>st.at λo e=>k it ∅ o e
 item:=by
  intro X C hw G Z i ζ s σ H E I m st J;subst C hw G;obtain⟨L,A⟩:=J;obtain⟨g,_⟩:=(I.hok a _ L)
  have hs:xs.length=es.size:=by have:=B.length;rw[AF,Ac]at this;exact this
  have xH:i < es.size:=by rw[<-hs];exact A
  obtain⟨v,h1,h2⟩:=B.get (AI A);rw[Ab,CF,Bq xH]at h1;cases h1;obtain⟨N,O,f2,Q,R,S⟩:=m it ∅
  refine Srt.Uh st ⟨ob,g,T,U⟩ xH λY l sb=>?_
  have I1:=I.turned (t':=s.toks) (λb o hb e=>(sb.2 b hb).trans e) N O Q R S;obtain⟨o,e,c,d⟩:=id l;exact⟨_,rfl,U8 e c d (by rfl) ⟨_,H,I1,h2,⟨rfl,AI A⟩,l,λb hb=>(m b hb).1⟩⟩
 done:=by
  intro X C hw G Z i ζ s σ H E I m st J;subst C hw G;obtain⟨L,A⟩:=J;obtain⟨g,_⟩:=(I.hok a _ L)
  have hs:xs.length=es.size:=by have:=B.length;rw[AF,Ac]at this;exact this
  obtain⟨N,O,f2,Q,R,S⟩:=m it ∅
  exact Srt.Xd (I.ok.hd Z) st ⟨ob,g,T,U⟩ (by ext) λY eb=>⟨rfl,I.turned (t':=s.toks) (λb o hb e=>eb b o hb e) N O Q R S⟩
 self:=λM M M M M st h=>dh st h
theorem iY:∀{l:List LZ} {us:List (Key×AD)} {kvs:List (Key×V)},Pairs (Dm P w) l us->KV kvs us->Bp (kvs.map λx=>kV x.1) (l.map (·.key)):=by
 intro l us kvs A
 induction A generalizing kvs with
 | nil=>intro h;cases h;exact .nil
 | cons B G _ C=>
  intro h
  cases h with
  | cons r t=>
   refine .cons ?_ (C t);symm;rw[r.1]
   rcases DK B with⟨i,t,m,o⟩ | ⟨x,t,m,o⟩
   ·rw[m,o];exact⟨t,rfl⟩
   ·rw[m,o];exact⟨t,rfl⟩
theorem cy:∀{kvs:List (List Key×V)} {xs:List (List Key×AL×AD)},Er (λ(p:List Key×V) (q:List Key×AL×AD)=>p.1=q.1/\H q.2.1=some (.tup (p.1.map kV))/\RelV p.2 q.2.2) kvs xs->Er (λ(k:List Key×V) b=>H b=some (.tup (k.1.map kV))) kvs (xs.map (·.2.1)):=by
 intro kvs xs h
 induction h with
 | nil=>exact .nil
 | cons r _ l=>exact .cons r.2.1 l
theorem Rt(l:List AL):Bp (l.map V.ref) (l.map AV):=by
 induction l with
 | nil=>exact .nil
 | cons a l m=>exact .cons rfl m
def iDct(o:TE):TI:=λσ H R=>o σ H λx m=>∃a ob,x=.ref a/\((∃l,m a=some (.frz ob (.dK l))/\R (Itk a ob (.dK l) (l.map λx=>kV x.1)) m) ∨
 ∃l,m a=some (.frz ob (.dT l))/\∀bs,Er (λ(k:List Key×V) b=>m b=some (.tup (k.1.map kV))) l bs->R (Itk a ob (.dT l) (bs.map V.ref)) m)
theorem gj(hl:PE X l T):PI X tg l (iDct T):=by
 intro ζ s σ H R I h
 refine thn (hl ζ s σ H _ I h) ?_;rintro v s1 ⟨x,S,C,U,Y⟩
 obtain⟨a,ob,e,q⟩:=Y;subst e;cases U
 have fin:∀{u:HO} {N:List V} {G:Array LZ} {O:Nat},(a==B0)=false->s1.heap.get? a=some ob->ob.ExactDict->ob.data=.dict G O->Bp N (G.toList.map (·.key))->R (Itk a ob u N) S ->
   AZ (AY X.prog X.w) X.A (PM (.ref a)) (PIE X ζ σ tg R) X.xe s1:=λJ g m B Z q=>by
  refine Srt.P2 J ⟨ob,g,m,B⟩ ?_;refine⟨s1.heap.objs.size,[s1.heap.objs.size],_,_,S,rfl,C.kept (t':=s1.toks) λb o e=>AG _ e,Rj m B Z,⟨_,AQ _ rfl,rfl,rfl⟩,λb hb=>?_,q⟩
  have e:b=s1.heap.objs.size:=by simpa using hb
  subst e;exact C.fpOk (AN _) (C.hok.fresh (AN _))
 rcases q with⟨P,Q,q⟩ | ⟨P,Q,q⟩
 ·obtain⟨g,hz,J,us,kv,o,G,O,L,m,B,g5,g6,_⟩:=(C.hok a _ Q)
  rw[g]at L;cases L;exact fin J g m B (iY g6 kv) q
 ·obtain⟨g,hz,J,N,rr,o,G,O,L,m,B,g4,_⟩:=(C.hok a _ Q)
  rw[g]at L;cases L
  have hk:G.toList.map (·.key)=(N.map (·.2.1)).map AV:=by
   rw[g4,Aw,Aw];rfl
  exact fin J g m B (by rw[hk];exact Rt _) (q _ (cy rr))
theorem Inv.fz(I:Inv X ζ σ H s)(C:s.heap.get? a=some ob)(G:H a=some u)(Q:Mut (some u)):Inv X ζ σ (upd H a (.frz ob u)) s:=by
 have m:∀b,H b=none->b≠a:=λb h z=>by ext
 have l:∀b o,H b=some o->¬Mut (some o)->b≠a:=λb o h n z=>by ext
 have st:∀b o,CS X.prog X.w H s.heap b o->CS X.prog X.w (upd H a (.frz ob u)) s.heap b o:=λb o x=>
  x.stay (λM M M q=>q) (λc r=>by rw[AO (l c _ r λz=>z)];exact r) λc A r=>by rw[AO (l c _ r λz=>z)];exact r
 refine⟨I.ok,I.os,I.bare,⟨I.base.keep,I.base.slot,λb o q n J=>?_,I.base.there,λb A q=>?_,λb o A q=>?_,λb L q=>?_⟩,I.loc,I.cell,?_,λx c q=>?_,λp N=>?_,λb o q=>?_,I.len⟩
 ·have:=I.base.free b o q n J
  rw[AO (m b this)];exact this
 ·have:=I.base.tups b A q
  rw[AO (l b _ this λz=>z)];exact this
 ·have:=I.base.frzs b o A q
  rw[AO (l b _ this λz=>z)];exact this
 ·obtain⟨more,this⟩:=I.base.tbls b L q
  exact⟨more,by rw[AO (l b _ this λz=>z)];exact this⟩
 ·rw[AO (m _ I.free)];exact I.free
 ·rw[AO (m _ (I.freeC x c q))];exact I.freeC x c q
 ·obtain⟨O,B,P⟩:=I.pin p N
  exact⟨O,by rw[AO (m _ B)];exact B,P⟩
 ·by_cases hb:b=a
  ·subst hb
   rw[Ar]at q;cases q;exact⟨C,st b u (I.hok b u G)⟩
  ·rw[AO hb]at q
   exact st b o (I.hok b o q)
end
end L2
namespace L4
open L2
section
variable{α:Type}{enc:α->D}
noncomputable def oFK(enc:α->D)(l:List (Int×α)):Ob:=.fK (l.map λx=>(Dq x.1,enc x.2))
end
open L2
noncomputable def kR(r:ZLi):List Key:=r.map Dq
def oDR(enc:m->D)(l:List (ZLi×m)):Ob:=.dT (l.map λx=>(kR x.1,enc x.2))
theorem cM(x y:ZLi)(h:kR x=kR y):x=y:=by
 have:∀r:ZLi,(kR r).map (λk:Key=>match k with | .inl i=>i | .inr _=>0)=r:=λr=>by
  unfold kR;rw[Aw]
  conv=>rhs;rw[<-PR r]
  rfl
 grind
end L4
namespace L7
open L2
open L4 (Fw AR eT eP oDK oDP oDR kP kR KZ P6 M5 cN Lb)
section
variable{β κ ρ:Type}[DecidableEq κ]
structure N1(ob:List (κ×β)->Ob)(ek:κ->D)(enc:β->D):Prop where
 nil:ob []=.dK []∨ob []=.dT []
 get:∀(K:AB) (H:Hp) (a:AL) l k y,OB K H a (ob l)->RD K H (ek k) y->∃o,K6 H a y o/\(AT l k=none->o=none)/\∀v,AT l k=some v->∃x,o=some x/\RD K H (enc v) x
 put:∀(K:AB) (H:Hp) (a:AL) l k y v x,OB K H a (ob l)->RD K H (ek k) y->RD K H (enc v) x->l.length < 1000000->(∀xs,H a≠some (.tup xs))/\(∀o z,H a≠some (.frz o z))/\∃u,Tq H a y x (upd H a u)/\OB K (upd H a u) a (ob (Cm l k v))
theorem TU{K:AB}{H:Hp}{a:AL}{u:HO}{l:Type}{x:List (l×D)}{y:List (l×V)}(m:∀xs,H a≠some (.tup xs))(A:∀o z,H a≠some (.frz o z))(h:KVR K [] H x y):KVR K [] (upd H a u) x y:=
 Er.mapP h λG G z=>⟨z.1,z.2.keep (λb xs e=>by rw[AO (show b≠a from λc=>m xs (c▸e))];exact e) λb o w e=>by rw[AO (show b≠a from λc=>A o w (c▸e))];exact e⟩
theorem dkK{enc:β->D}:N1 (oDK enc) D.int enc where
 nil:=.inl rfl
 get:=by
  rintro K H a l k y ⟨w,A,m⟩ r
  cases r;obtain⟨B,I⟩:=KVR.val (Dq k) m;rw[KZ M5]at B I;refine⟨_,K6.k (k:=Dq k) A,λe=>B (by rw[e];rfl),λv e=>?_⟩
  ext
 put:=by
  rintro K H a l k y v x ⟨w,A,m⟩ r J L
  cases r
  have C:∀E,H a≠some (.tup E):=λE z=>by ext
  have G:∀o z,H a≠some (.frz o z):=λo z q=>by ext
  refine⟨C,G,_,Tq.k (k:=Dq k) A (by rw[<-KVR.length m,AF];exact Lb L),_,Ar,?_⟩;have:=KVR.put (Dq k:Key) J m;rw[P6 M5]at this;exact TU C G this
noncomputable def kD:Key->D
 | .inl i=>.int i
 | .inr x=>.str x
theorem keys_rel{K}{H}:∀{ks:List Key} {vs:List V},A8 K [] H (ks.map kD) vs->vs=ks.map kV
 | [],_,h=>by cases h;rfl
 | k :: ks,_,h=>by
  cases h with
  | cons r t=>
   rw[keys_rel t]
   cases k <;> cases r <;> rfl
theorem dkT{enc:β->D}{m:κ->List Key}{G:κ->D}(I:∀x y,m x=m y->x=y)(J:∀k,G k=.tup ((m k).map kD)):N1 (λl=>.dT (l.map λx=>(m x.1,enc x.2))) G enc where
 nil:=.inr rfl
 get:=by
  rintro K H a l k y ⟨A,B,w⟩ r
  rw[J]at r
  cases r with
  | @tup _ b vs C E=>
   obtain⟨L,Q⟩:=KVR.val (m k) w;rw[KZ I]at L Q;refine⟨_,K6.t B (by rw[<-keys_rel E];exact C),λe=>L (by rw[e];rfl),λv e=>?_⟩
   ext
 put:=by
  rintro K H a l k y v x ⟨A,B,w⟩ r R S
  rw[J]at r
  cases r with
  | @tup _ b vs C E=>
   have N:∀O,H a≠some (.tup O):=λO z=>by ext
   have P:∀o z,H a≠some (.frz o z):=λo z q=>by ext
   refine⟨N,P,_,Tq.t B (by rw[<-keys_rel E];exact C) (by rw[<-KVR.length w,AF];exact Lb S),_,Ar,?_⟩;have:=KVR.put (m k) R w;rw[P6 I]at this;exact TU N P this
theorem dkP{enc:β->D}:N1 (oDP enc) (eP D.int D.int) enc:=dkT cN λk=>rfl
section
variable{X:Cx}{A:List Sl}{e i o:Expr}{p pos:Pos}{ob:List (κ×β)->Ob}{ek:κ->D}{enc:β->D}{pl:Option (List (κ×β))}{pk:Option κ}
theorem IL(d:N1 ob ek enc):VE X A (.Dict [] [] pos) (rN X.K ob) (some []):=λG m=>by
 cases m
 by_cases c:ob []=.dK []
 ·exact(Us).imp (by rintro w H Q ⟨B,F,C,q⟩ p l;exact q _ _ (BX l) ⟨p,rfl,l,by rw[c];exact⟨[],Ar,.nil⟩⟩)
 ·have c:=d.nil.resolve_left c
  exact(be).imp (by rintro w H Q ⟨B,F,C,q⟩ p l;exact q _ _ (BX l) ⟨p,rfl,l,by rw[c];exact⟨[],Ar,.nil⟩⟩)
theorem Mn(d:N1 ob ek enc)(C:X.A.units+1 < Bd)(E:VE X A o (rO X.K ob) pl)(hi:VE X A i (rV X.K ek) pk)(hs:autoParam (ZY i) yq7q):VE X A (.Subscript o i pos) (rV X.K enc) (pl.bind λl=>pk.bind λk=>AT l k):=λv m=>by
 obtain⟨l,G,m⟩:=AR m;obtain⟨k,I,J⟩:=AR m
 refine(Xk C (E l G) (hi k I) hs).imp λZ H Q ⟨L,F,hs,q⟩=>ER ⟨L,F,hs,λu w H1 N O B P R=>?_⟩
 obtain⟨a,rfl,S⟩:=P;obtain⟨_,T,_,U⟩:=d.get _ _ _ _ _ _ (B.ob S) R;obtain⟨x,rfl,Y⟩:=U v J;exact⟨a,x,rfl,T,q x N (O.trans B) Y⟩
theorem aZ(d:N1 ob ek enc)(E:X.A.units+1 < Bd)(hi:VE X A i (rV X.K ek) pk)(G:VE X A o (rO X.K ob) pl)(I:autoParam (BF .In o=false) yq5q):VB X A (.Compare i [.In] [o] pos) (pk.bind λk=>pl.bind λl=>some (AT l k).isSome):=λv m=>by
 obtain⟨k,J,m⟩:=AR m;obtain⟨l,L,N⟩:=AR m;cases N
 refine(bQ (lq E (hi k J) (G l L)) I).imp λσ H Q ⟨O,F,P,q⟩=>ER ⟨O,F,P,λu w H1 R S B T U=>?_⟩
 obtain⟨a,rfl,Y⟩:=U;obtain⟨C,Z,g0,g2⟩:=d.get _ _ _ _ _ _ Y (B.rd T);refine⟨a,C,rfl,Z,_,rfl,?_⟩
 have:C.isSome=(AT l k).isSome:=by
  cases e:AT l k with
  | none=>rw[g0 e];rfl
  | some v=>obtain⟨x,rfl,_⟩:=g2 v e;rfl
 rw[this];exact q R (S.trans B)
set_option tactic.hygienic true in
theorem fJ{Z:AL->Prop}{n:Nat}{m:Pos}{l:List (κ×β)}{pv:Option β}{R:Rk ρ}(d:N1 ob ek enc)(N:X.A.units+1 < Bd)(O:PE X o (DX n))(hi:VE X A i (rV X.K ek) pk)(P:VE X A e (rV X.K enc) pv)(E:autoParam (A[n]?=some (.g (pa X.K Z (ob l)))) yq0q)(hs:autoParam (Bb e (some (.Subscript o i m)) pos.line X.env=pure false) yq0q) :
  VS X A (.Assign [.Subscript o i m] e pos) R (pv.bind λv=>pk.bind λk=>if l.length < 1000000 then some (.nx (Cm l k v))else none) (λQ=>A.set n (.g (pa X.K Z (ob Q)))):=λf w=>by
 obtain⟨v,S,w⟩:=AR w;obtain⟨k,T,w⟩:=AR w;split at w
 rotate_left
 ·cases w
 rename_i U;cases w
 refine(TB N O (hi k T) (P v S) hs).imp λD σ H ⟨G,F,hs,q⟩=>⟨G,F,hs,λx H1 I Y=>?_⟩
 have B:=hs.grow I;obtain⟨a,J,g2,_,_⟩:=B.put E;refine⟨_,J,G,_,B,λy H2 C r2=>?_⟩;obtain⟨a',L,vE,_,up⟩:=(B.grow C).put E;rw[J]at L;cases L;obtain⟨nt,nf,u,g3,g4⟩:=d.put _ _ _ _ _ _ _ _ vE r2 (C.rd Y) U;have:=up rfl g4 nt nf;exact⟨a,_,rfl,g3,q _ _ _ this.1 ((I.fe.trans C.fe).trans this.2)⟩
end
end
open L2
open L4 (Fw AR eT oL GT Nm)
section
variable{X:Cx}{A:List Sl}{e a b c o:Expr}{rest:List Expr}{p pos apos cpos:Pos}{α:Type}
def VW(X:Cx)(A:List Sl)(e:Expr)(p:Option Bool):Prop:=∀v,p=some v->PW X e (λm H Q=>∃w F,Vs w A m F H/\∀l,Kp H l->Q v l)
theorem YY(h:VW X A e q):VB X A e q:=λv l=>(h v l).pt
theorem PW.imp(h:PW X e t)(i:∀l H Q,t' l H Q->t l H Q):PW X e t':=λw m s l H Q I q=>h w m s l H Q I (i l H Q q)
theorem Ot(h:VB X A a q):VW X A (.BoolOp .And [a] pos) q:=λv l=>Xf (h v l)
theorem Z1(h:VB X A a q):VW X A (.BoolOp .Or [a] pos) q:=λv l=>lM (h v l)
theorem TJ(h:∀l H Q,t l H Q->False):PW X e t:=λw m s l H Q I q=>(h l H Q q).elim
theorem Sh(w:VB X A a q)(hb:VW X A (.BoolOp .And (b :: rest) pos) r):VW X A (.BoolOp .And (a :: b :: rest) pos) (q.bind λt=>if t=true then r else some false):=λv E=>by
 obtain⟨t,B,C⟩:=AR E
 cases t with
 | true=>exact PW.imp (S7 (w _ B) (hb v C)) (by rintro G H Q ⟨l,F,m,k⟩;exact ⟨l,F,m,λI kp=>by symm;rw[qX rfl];exact⟨l,_,m.grow kp,λJ L=>k J (kp.trans L)⟩⟩)
 | false=>cases C;exact PW.imp (S7 (w _ B) (TJ λI I I z=>z)) (by rintro G H Q ⟨l,F,m,k⟩;exact ⟨l,F,m,λI kp=>by ext⟩)
theorem Z3(w:VB X A a q)(hb:VW X A (.BoolOp .Or (b :: rest) pos) r):VW X A (.BoolOp .Or (a :: b :: rest) pos) (q.bind λt=>if t=true then some true else r):=λv E=>by
 obtain⟨t,B,C⟩:=AR E
 cases t with
 | true=>cases C;exact PW.imp (jO (w _ B) (TJ λI I I z=>z)) (by rintro G H Q ⟨l,F,m,k⟩;exact ⟨l,F,m,λI kp=>by ext⟩)
 | false=>exact PW.imp (jO (w _ B) (hb v C)) (by rintro G H Q ⟨l,F,m,k⟩;exact ⟨l,F,m,λI kp=>by symm;rw[qY Av];exact⟨l,_,m.grow kp,λJ L=>k J (kp.trans L)⟩⟩)
theorem Ph{R:Rk α}{q:Option α}{g:α->Bool}(h:VE X A e R q)(m:∀v H x H',R v H x H'->VM X.K x H' (g v))(w:autoParam (∀l,KG e X.env l=(do let v <-l;Ir e.pos;Fn [v] (NE v))) yq2q):VB X A e (q.bind λv=>some (g v)):=λt B=>by
 obtain⟨v,C,E⟩:=AR B;cases E
 exact(P7 (h v C) w).imp (by rintro J H Q ⟨G,F,I,k⟩;exact ⟨G,F,I,λx H' kp r=>⟨_,m v H x H' r,k H' kp⟩⟩)
theorem truI{K}(v:Int)(H:Hp)(x:V)(H':Hp)(h:rV K D.int v H x H'):VM K x H' (v != 0):=by cases h;rfl
theorem truB{K}(v:Bool)(H:Hp)(x:V)(H':Hp)(h:rV K D.bl v H x H'):VM K x H' v:=by cases h;rfl
theorem truL{K}{enc}(l:List α)(H:Hp)(x:V)(H':Hp)(h:rO K (oL enc) l H x H'):VM K x H' (!l.isEmpty):=by
 obtain⟨a,rfl,vs,m,w⟩:=h;refine .inl ⟨vs,.inl (.inl m),?_⟩
 cases l <;> cases w <;> rfl
theorem truT{K}{enc}(l:List α)(H:Hp)(x:V)(H':Hp)(h:rV K (eT enc) l H x H'):VM K x H' (!l.isEmpty):=by
 cases h with
 | @tup _ a vs m w=>
  refine .inr (.inl ⟨vs,.inl (.inl m),?_⟩)
  cases l <;> cases w <;> rfl
theorem Pi{op G:T2}{f g:Int->Int->Bool}{pa L pc:Option Int}(N:OpR X (Bo op) (rI0 λi j=>.bl (f i j)))(O:OpR X (Bo G) (rI0 λi j=>.bl (g i j)))(P:VE X A a (zIq X) pa)(hb:VE X A b (zIq X) L)(Y:VE X A c (zIq X) pc)(R:autoParam (lastMarks [op,G] [b,c]=false) yq5q) :
  VB X A (.Compare a [op,G] [b,c] pos) (pa.bind λx=>L.bind λy=>if f x y=true then pc.bind λz=>some (g y z)else some false):=λv l=>by
 obtain⟨x,S,l⟩:=AR l;obtain⟨y,T,l⟩:=AR l
 by_cases t:f x y=true
 ·rw[qX t]at l
  obtain⟨z,Z,h4⟩:=AR l;cases h4
  refine(Uk N O (P x S) (hb y T) (Y z Z) R).imp λσ H Q ⟨m,F,B,k⟩=>⟨m,F,B,λu H1 C I=>⟨m,_,B.grow C,λw U E J=>?_⟩⟩
  cases I;cases J;refine⟨x,y,rfl,rfl,_,rfl,?_⟩;rw[qX t];refine⟨m,_,(B.grow C).grow E,λw H3 k3 r3=>?_⟩;cases r3;exact⟨y,z,rfl,rfl,_,rfl,k H3 (C.trans (E.trans k3))⟩
 ·rw[qY t]at l
  cases l
  refine(Uk (tc:=λM M M=>False) N O (P x S) (hb y T) (λM M M M M M z=>z.elim) R).imp λσ H Q ⟨m,F,B,k⟩=>⟨m,F,B,λu H1 C I=>⟨m,_,B.grow C,λw U E J=>?_⟩⟩
  cases I;cases J;refine⟨x,y,rfl,rfl,_,rfl,?_⟩;rw[qY t];exact⟨_,rfl,k U (C.trans E)⟩
theorem aP{op:NM}{g:Int->Int->Int}{pa l:Option Int}(m:OpR X (EL op) (rI0 λi j=>.int (g i j)))(w:VE X A a (zIq X) pa)(hb:VE X A b (zIq X) l):VE X A (.BinOp a op b pos) (zIq X) (pa.bind λx=>l.bind λy=>some (g x y)):=
 jD m w hb λx y z u v H Q B C E G=>by cases B;cases C;cases E;exact⟨x,y,rfl,rfl,G _ (.int _)⟩
theorem aY{op:T2}{g:Int->Int->Bool}{pa l:Option Int}(m:OpR X (Bo op) (rI0 λi j=>.bl (g i j)))(w:VE X A a (zIq X) pa)(hb:VE X A b (zIq X) l)(B:autoParam (BF op b=false) yq9q):VB X A (.Compare a [op] [b] pos) (pa.bind λx=>l.bind λy=>some (g x y)):=
 kL m w hb (λx y z u v H Q C E G I=>by cases C;cases E;cases G;exact⟨x,y,rfl,rfl,I⟩) B
theorem So(h:VE X A a (zIq X) q):VE X A (.UnaryOp .USub a pos) (zIq X) (q.bind λx=>some (-x)):=λv l=>by
 obtain⟨x,m,w⟩:=AR l;cases w
 exact(qC kS (h x m)).imp (by rintro G H Q ⟨B,F,C,k⟩;exact ⟨B,F,C,λu E kp r=>by cases r;exact⟨x,rfl,k _ E kp (.int _)⟩⟩)
theorem LD(S:VE X A a (rV X.K (eT enc)) pl)(hb:VE X A b (rV X.K (eT enc)) T):VE X A (.BinOp a .Add b pos) (rV X.K (eT enc)) (pl.bind λl=>T.bind λk=>GT l k):=λv C=>by
 obtain⟨l,U,C⟩:=AR C;obtain⟨k,Y,m⟩:=AR C;unfold GT at m
 by_cases E:l.length+k.length<=1000000
 case neg=>rw[qY E]at m;cases m
 rw[qX E]at m;cases m
 refine(ba hV (S l U) (hb k Y)).imp λσ H Q ⟨Z,F,hs,q⟩=>ER ⟨Z,F,hs,λu w H1 H2 G B r1 r2=>?_⟩
 cases B.rd r1 with
 | @tup _ a vs P I=>cases r2 with
  | @tup _ b ws R J=>
   have L:=I.length;have N:=J.length;rw[AF]at L N;refine⟨a,b,vs,ws,rfl,rfl,P,R,by rw[<-L,<-N];exact Nm E,λe=>?_,λe=>?_,λp O=>q _ _ ((G.trans B).trans (BX O)) (.tup Ar ?_)⟩
   ·subst e
    obtain rfl:l=[]:=DN L;exact q _ _ (G.trans B) (.tup R J)
   ·subst e
    obtain rfl:k=[]:=DN N;exact q _ _ (G.trans B) (by rw[BO];exact .tup P I)
   ·rw[Be]
    exact(I.append J).keep (λb M z=>BX O b _ z) λb M M z=>BX O b _ z
set_option tactic.hygienic true in
theorem Z9(S:PE X o (DX i))(h:VE X A e (rN X.K (oL enc)) q)(hi:autoParam (A[i]?=some (sw X.K (oL enc l))) yq0q)(T:autoParam (Bi o "extend" X.env (A6 o X.env)=A6 o X.env) yq0q)
  (U:autoParam (((Cu cpos (AH [e] X.env)).all (λx=>!x.1)&&(NI cpos (IB [] X.env)).all (λx=>x.1.isSome)
    &&decide ([e].length+([]:List KD).length+(if ([]:List KD).isEmpty then 0 else 1) < 30))=true) yq0q)
  (Y:autoParam ((apos.endLine==cpos.line)=true) yq0q) (hs:autoParam (zSq X e) yq0q) (Z:autoParam ((Cu cpos (AH [] X.env)).any (·.1)=false) yq0q) (um:autoParam (Bb (.Call (.Attribute o "extend" apos) [e] [] cpos) none pos.line X.env=pure false) yq0q) :
  VS X A (.Expr (.Call (.Attribute o "extend" apos) [e] [] cpos) pos) R (q.bind λv=>(GT l v).bind λm=>some (.nx m)) (λm=>A.set i (sw X.K (oL enc m))):=λf E=>by
 obtain⟨v,h1,E⟩:=AR E;obtain⟨m,w,h3⟩:=AR E;cases h3;unfold GT at w;split at w
 rotate_left
 ·cases w
 rename_i hl;cases w
 refine(O2 (bi Iw PySem.F.slot_list_extend PySem.F.type_list_extend Y0 S (B3 (h v h1) ET hs) T U Y hs Z) um).imp λD σ H ⟨H0,F,hs,k⟩=>?_
 obtain⟨a,I,g3,_⟩:=hs.put hi;obtain⟨vs,J,g5⟩:=id g3;refine⟨_,I,.inl ⟨rfl,vs,.inl (.inl J)⟩,H0,F,hs,λy B kp ⟨b',e1,e2,G,e3,L⟩=>?_⟩;subst e1;have g6:=kp a _ J;have N:=g5.keep (λb M z=>kp b _ z) (λb M M z=>kp b _ z);refine⟨a,b',vs,G,rfl,rfl,g6,e3,by rw[<-N.length,<-L.length,AF,AF];exact Nm hl,?_⟩
 have O:∀b C,B b=some (.tup C)->upd B a (.lst (vs++G)) b=some (.tup C):=λb C z=>by rw[AO (λc=>by ext)];exact z
 have P:∀b ob u,B b=some (.frz ob u)->upd B a (.lst (vs++G)) b=some (.frz ob u):=λb ob u z=>by rw[AO (λc=>by ext)];exact z
 obtain⟨a',Q,_,_,up⟩:=(hs.grow kp).put hi;rw[I]at Q;cases Q;have:=up (o':=oL enc (l++v)) rfl ⟨_,Ar,by rw[Be];exact(N.keep O P).append (L.keep O P)⟩ (λC z=>by ext) (λob z q=>by ext);exact k _ _ _ this.1 (kp.fe.trans this.2)
theorem Pa(i:Nat)(h:PE X e (DX j))(m:autoParam (A[j]?=some (.q P)) yq0q)(w:autoParam X.N.Nodup yq6q)(hi:autoParam (X.N[i]?=some x) yq0q)(B:autoParam (Loc X.env.scope x) yq4q)(hs:autoParam (Bb e (some (.Name x l)) pos.line X.env=pure false) yq0q)
  (C:autoParam (zFn X x) yq3q):VS X A (.Assign [.Name x l] e pos) R (some (.nx ())) (λM=>A.set i (.q P)):=λf E=>by
 cases E
 refine(bT w hi B h hs C).imp λD J H ⟨L,F,hs,k⟩=>?_
 obtain⟨y,G,I⟩:=hs.at m;exact⟨y,G,k _ F H (hs.set i I) .refl⟩
set_option tactic.hygienic true in
theorem JD(G:X.mg "range" = none) (I:VE X A a (zIq X) q) (hb:VE X A b (zIq X) r) (J:autoParam (Gl X "range") yq0q) (hs:autoParam (AH [a,b] X.env=[(false,A6 a X.env),(false,A6 b X.env)]) yq0q) (m:autoParam (AH [b] X.env=[(false,A6 b X.env)]) yq0q) :
  VI X A tg (.Call (.Name "range" p) [a,b] [] pos) (rd X.K D.int) (q.bind λi=>r.bind λj=>L4.Kl i j):=λl w=>by
 obtain⟨i,L,w⟩:=AR w;obtain⟨j,N,B⟩:=AR w;unfold L4.Kl at B
 split at B <;> cases B
 rename_i T
 exact(Yt J G (B3 (I i L) (B3 (hb j N) ET m) (by(try unfold zSp);rw[hs,m])) hs m).imp (by rintro U H R ⟨C,F,hs,k⟩;exact ⟨C,F,hs,λx Y E O=>⟨C,_,hs.grow E,λy P Q S=>by
  cases O;cases S
  refine⟨i,j,rfl,⟨by omega,by omega,by lia,by omega⟩,k _ P (E.trans Q) Xv⟩⟩⟩)
end
open L2
open L4 (Fw AR eT eP oL oDK Nm)
section
variable{X:Cx}{A:List Sl}{e a b o i:Expr}{es:List Expr}{p pos apos:Pos}{α β γ κ:Type}
def YE(K:AB)(R:Rk α)(m:α->List D):Prop:=∀v H x l,R v H x l->∃p,x=.ref p/\∀G:List V->Prop,(∀vs,A8 K [] l (m v) vs->G vs)->nL K l p G
theorem pU{K:AB}{enc:α->D}:YE K (rO K (oL enc)) (λl=>l.map enc):=by rintro v H x C ⟨a,m,vs,w,B⟩;exact ⟨a,m,λG k=>.inl ⟨vs,.inl (.inl (.inl w)),k vs B⟩⟩
theorem srcT{K:AB}{enc:α->D}:YE K (rV K (eT enc)) (λl=>l.map enc):=λv H x B h=>by
 cases h with
 | @tup _ a vs m w=>exact⟨a,rfl,λG k=>.inl ⟨vs,.inr (.inl (.inl m)),k vs w⟩⟩
theorem LC{R:Rk α}{B:α->List D}{q:Option α}{g:α->Option (List β)}{eb:β->D}(C:YE X.K R B)(E:X.mg "sorted" = none) (h:VE X A e R q) (G:∀v l,g v=some l->Kb (B v)=some (l.map eb)) (I:autoParam (X.calm=true) yq0q) (J:autoParam (Gl X "sorted") yq0q) (L:autoParam (zSq X e) yq0q) :
  VE X A (.Call (.Name "sorted" p) [e] [] pos) (rN X.K (oL eb)) (q.bind g):=
 KR (ZP I) rK E h (λv l H u N Q O P k=>by
  obtain⟨a,S,w⟩:=C v H u N P;subst S;refine⟨a,rfl,w _ λvs T=>?_⟩;obtain⟨f,U,Y⟩:=av (G v l O) T
  exact⟨f,U,λout Z so q m=>k _ _ (BX m) ⟨q,rfl,m,out,Ar,(Y out Z so).keep (λb M z=>BX m b _ z) λb M M z=>BX m b _ z⟩⟩) upN J ∅ (by rfl) L
def VO(X:Cx)(A:List Sl)(e:Option Expr)(q:Option (Option Int)):Prop:=∀v,q=some v->PO X e (λm H Q=>∃w F,Vs w A m F H/\∀l,Kp H l->Q v l)
theorem XD:VO X A none (some none):=by rintro v l m s w H Q I ⟨B,F,C,k⟩;cases l;exact gf m s w H Q I (k H .refl)
theorem PO.imp(h:PO X e t)(j:∀l H Q,t' l H Q->t l H Q):PO X e t':=λm s l H Q I q=>h m s l H Q I (j l H Q q)
theorem XC(h:VE X A e (zIq X) q):VO X A (some e) (q.bind λx=>some (some x)):=λv l=>by
 obtain⟨x,m,w⟩:=AR l;cases w
 exact PO.imp (ge (h x m)) λE H Q ⟨B,F,C,k⟩=>⟨B,F,C,λu G kp r=>by cases r;ext⟩
theorem ic{K:AB}{H:Hp}{enc:α->D}{l:List α}{vs:List V}{lo hi:Option Int}(h:A8 K [] H (l.map enc) vs):A8 K [] H ((Od l lo hi).map enc) (ZL vs lo hi):=by
 have m:vs.length=l.length:=by rw[<-h.length,AF]
 have:(Od l lo hi).map enc=((l.map enc).drop (HT.sIx l.length 0 lo)).take (HT.sIx l.length l.length hi - HT.sIx l.length 0 lo):=by
  unfold Od;rw[Mc,Tx]
 rw[this];unfold ZL;rw[m];exact(h.drop _).take _
theorem Mm{C f:AL}{m:Str}{fd:D1}{O:List Str}{k k':Nat}{pl:Sem Bool}{q:Option α}{r:Option γ}{g:α->γ->Option β}{P:α->Hp->V->Prop}{S:γ->List (Hp->V->Prop)}{R:Rk β}(hC:Cls X.K C)(hm:Tp X.K C m f)(F:∀v z,CT X.prog X.w X.K X.mg X.base (CXG X.prog X.w) k f fd O (spV (P v :: S z) R (g v z)))(hb:Binds X.K fd O [])
  (ho:VE X A o (rP P) q) (hP:∀v H x,P v H x->∃a G fs,x=.ref a/\H a=some (.ins C G fs)/\fs.lookup m=none) (ha:VA X A (e :: es) r S) (hr:FC k' X.A) (hR:∀v H H' x I,Kp H H'->R v H' x I->R v H x I) (hk:autoParam (k<=k') yq1q) (hx:autoParam (X.xe=λM M=>False) yq0q)
  (tW:autoParam (zSp X e es) yq0q) (rm:autoParam ((Cu pos (AH es X.env)).any (·.1)=false) yq0q)
  (ht:autoParam (A6 (.Call (.Attribute o m apos) (e :: es) [] pos) X.env=(do
   let T <-A6 o X.env
   Ir apos.atName
   let (f,fts) <-Fn [T] (Zb T m pl)
   callWith pos f fts (Cu pos (AH (e :: es) X.env)) (NI pos (IB [] X.env)))) yq0q) :
  VE X A (.Call (.Attribute o m apos) (e :: es) [] pos) R (q.bind λv=>r.bind λz=>g v z):=λy J=>by
 obtain⟨v,h1,J⟩:=AR J;obtain⟨z,h2,h3⟩:=AR J
 refine(gq (ho v h1) hC hm (F v z) (hr.mono hk) hb .nil (good_none hx).pass (ha z h2) tW rm ht).imp λσ H Q ⟨U,F,Y,kq⟩=>⟨U,F,Y,λx Z L r1=>?_⟩
 obtain⟨a,G,fs,e1,e2,e3⟩:=hP v Z x (r1 Z .refl);refine⟨a,G,fs,e1,e2,e3,U,_,Y.grow L,λxs I N l=>?_⟩;symm;rw[BO];refine⟨y,h3,⟨congrArg (· + 1) l.1,λi P' w q1 q2 B E=>?_⟩,λw B E r3=>kq w B (L.trans (N.trans E)) (hR _ _ _ _ _ (L.trans N) r3)⟩
 cases i with
 | zero=>cases q1;cases q2;exact r1 B (N.trans E)
 | succ i=>exact l.2 i P' w q1 q2 B E
theorem JW[DecidableEq κ]{ob:List (κ×β)->Ob}{B:κ->D}{enc:β->D}{pl:Option (List (κ×β))}{C:Option κ}(d:N1 ob B enc)(I:X.A.units+1 < Bd)(hi:VE X A i (rV X.K B) C)(J:VE X A o (rO X.K ob) pl)(L:autoParam (BF .NotIn o=false) yq5q):VB X A (.Compare i [.NotIn] [o] pos) (C.bind λk=>pl.bind λl=>some (!(AT l k).isSome)):=λv m=>by
 obtain⟨k,N,m⟩:=AR m;obtain⟨l,O,P⟩:=AR m;cases P
 refine(bQ (Ry I (hi k N) (J l O)) L).imp λσ H Q ⟨R,F,S,q⟩=>ER ⟨R,F,S,λu w H1 T U E Y Z=>?_⟩
 obtain⟨a,rfl,r3⟩:=Z;obtain⟨G,g1,g0,g2⟩:=d.get _ _ _ _ _ _ r3 (E.rd Y);refine⟨a,G,rfl,g1,_,rfl,?_⟩
 have:G.isSome=(AT l k).isSome:=by
  cases e:AT l k with
  | none=>rw[g0 e];rfl
  | some v=>obtain⟨x,rfl,_⟩:=g2 v e;rfl
 rw[this];exact q T (U.trans E)
theorem Ou{w:α->D}{eb:β->D}{m n:Nat}{K:AB}:VT (md K 2 (U9 (IT m) (U9 (IT n) me))) (rd K (eP w eb)) (λv A=>(A.set m (sv K (w v.1))).set n (sv K (eb v.2))):=λJ A L F H v x Q B r k=>by
 have r:=r H Kp.refl.fr
 cases r with
 | @tup _ a vs C l=>
  cases l with
  | cons E l=>cases l with
   | cons G l=>
    cases l;exact⟨a,_,rfl,.inl (.inl C),rfl,_,_,rfl,_,_,rfl,rfl,k _ ((B.set m λI f=>f.rd E).set n λI f=>f.rd G)⟩
end
open L2
open L4 (Fw AR eT oL eF)
section
variable{X:Cx}{A:List Sl}{e a b o i:Expr}{p pos:Pos}
theorem aM(hl:VE X A a (rV X.K eF) pl)(hi:VE X A b (zIq X) pi)(hs:autoParam (LQ b) yq7q):VE X A (.Subscript a b pos) (zIq X) (pl.bind λl=>pi.bind λi=>atI l i):=λv m=>by
 obtain⟨l,C,m⟩:=AR m;obtain⟨i,E,G⟩:=AR m
 refine(Uq ix_list (hl l C) (hi i E) hs).imp λU H Q ⟨I,F,hs,q⟩=>ER ⟨I,F,hs,λu w Y J L B N O=>?_⟩
 cases O
 cases N with
 | @fro _ p vs P R=>
  obtain⟨y,S,T⟩:=PH R (Tl G);exact⟨p,vs,i,y,rfl,rfl,(P.mono λb o u z=>B b _ z).sq,S,q y J (L.trans B) (B.rd T)⟩
theorem XH(m:X.mg "len" = none) (h:VE X A e (rV X.K eF) pl) (w:autoParam (Gl X "len") yq0q) (B:autoParam (zSq X e) yq0q):VE X A (.Call (.Name "len" p) [e] [] pos) (zIq X) (pl.bind λl=>some (l.length:Int)):=
 KR Jn LW m h (λv z H u C Q E G k=>by
  cases E
  cases G with
  | @fro _ q vs I J=>
   refine⟨q,vs,rfl,.inl I.sq,?_⟩;rw[<-J.length,AF]
   exact k _ C .refl (.int _)) upV w ∅ (by rfl) B
end
theorem law_trueN{P:Al}{w:A1}{K:AB}{B:Str->Option AD}{base:BI}{k:Nat}{C:AL}{fd:D1}{q:ZLi->Option Bool}(F:∀l,CT P w K B base (CXG P w) k C fd ["script"] (spV [λH y=>RD K H (eF l) y] (rV K D.bl) (q l))) (h:∀l:ZLi,l.length<=63->q l=some true) :
  CT P w K B base (CXG P w) k C fd ["script"] (au K):=⟨λvs H Q E ⟨a,l,e,_⟩=>by rw[e];rfl,by
 rintro A m s H o J vs Q E L N hb r ⟨a,l,e,O,R,S⟩
 subst e;refine(F l).run A m s H o J _ Q E L N hb r ⟨true,h l R,⟨rfl,λi X x G T I U=>?_⟩,λx I M r=>by cases r;exact S I⟩
 cases i with
 | zero=>cases G;cases T;exact U.rd (.fro O (A8.of_ints l))
 | succ i=>simp at G⟩
open L2
open L4 (Fw AR eT eP oL Oa Kx MD F9 EqN NL QV G7)
section
variable{X:Cx}{A:List Sl}{a b:Expr}{p pos:Pos}{α β γ:Type}{pa pb:Option Int}
theorem FG(l:VE X A a (zIq X) pa)(hb:VE X A b (zIq X) pb):VE X A (.BinOp a .Add b pos) (zIq X) (pa.bind λx=>pb.bind λy=>some (x+y)):=aP l8 l hb
theorem Ib(l:VE X A a (zIq X) pa)(hb:VE X A b (zIq X) pb):VE X A (.BinOp a .Sub b pos) (zIq X) (pa.bind λx=>pb.bind λy=>some (x - y)):=aP lr l hb
theorem kE(l:VE X A a (zIq X) pa)(hb:VE X A b (zIq X) pb):VE X A (.BinOp a .Mult b pos) (zIq X) (pa.bind λx=>pb.bind λy=>Oa x y):=UO ly l hb
theorem XM(l:VE X A a (zIq X) pa)(hb:VE X A b (zIq X) pb):VE X A (.BinOp a .FloorDiv b pos) (zIq X) (pa.bind λx=>pb.bind λy=>Kx x y):=UO g9 l hb
theorem Vz(l:VE X A a (zIq X) pa)(hb:VE X A b (zIq X) pb):VE X A (.BinOp a .Mod b pos) (zIq X) (pa.bind λx=>pb.bind λy=>MD x y):=UO lz l hb
theorem L8(l:VE X A a (zIq X) pa)(hb:VE X A b (zIq X) pb):VE X A (.BinOp a .LShift b pos) (zIq X) (pa.bind λx=>pb.bind λy=>F9 x y):=UO lw l hb
theorem ox{op:NM}{j:Nat}{l:Pos}{k:Int}{g:Int->Int->Option Int}{f:Int->Int}(h:VE X A (.BinOp a op (.Constant (.int k) j l) pos) (zIq X) (pa.bind λx=>(some k).bind λy=>g x y))(m:∀x,g x k=some (f x)):VE X A (.BinOp a op (.Constant (.int k) j l) pos) (zIq X) (pa.bind λx=>some (f x)):=by
 ext
theorem Pc{j:Nat}{l:Pos}{k:Int}(o:(decide (0 < k)&&decide (k<=1000000))=true)(w:VE X A a (zIq X) pa):VE X A (.BinOp a .FloorDiv (.Constant (.int k) j l) pos) (zIq X) (pa.bind λx=>some (x / k)):=by
 have m:=Di _ _▸o
 exact ox (XM w A4) λx=>qX ⟨of_decide_eq_true m.1,Int.lt_of_le_of_lt (of_decide_eq_true m.2) (by ext)⟩
theorem Ml{j:Nat}{l:Pos}{k:Int}(m:decide (0 < k)=true)(o:VE X A a (zIq X) pa):VE X A (.BinOp a .Mod (.Constant (.int k) j l) pos) (zIq X) (pa.bind λx=>some (x % k)):=ox (Vz o A4) λx=>qX (of_decide_eq_true m)
theorem jH(l:VE X A a (zIq X) pa)(hb:VE X A b (zIq X) pb):VB X A (.Compare a [.Lt] [b] pos) (pa.bind λx=>pb.bind λy=>some (decide (x < y))):=aY bq l hb (Gq _)
theorem o0(l:VE X A a (zIq X) pa)(hb:VE X A b (zIq X) pb):VB X A (.Compare a [.Gt] [b] pos) (pa.bind λx=>pb.bind λy=>some (decide (y < x))):=aY qF l hb (Gq _)
theorem pA(l:VE X A a (zIq X) pa)(hb:VE X A b (zIq X) pb):VB X A (.Compare a [.GtE] [b] pos) (pa.bind λx=>pb.bind λy=>some (decide (y<=x))):=aY qG l hb (Gq _)
section
variable{enc:α->D}[DecidableEq α]{qa qb:Option α}{ql:Option (List α)}
theorem Lp(h:EqN 8 enc)(n:NL enc)(l:X.A.units+64 < Bd)(m:VE X A a (rV X.K enc) qa)(hb:VE X A b (rV X.K enc) qb):VB X A (.Compare a [.Eq] [b] pos) (qa.bind λx=>qb.bind λy=>some (decide (x=y))):=UR (jS l) (λx y z q=>by cases q;exact QV h n false x y []) m hb (Gq _)
theorem jG(h:EqN 8 enc)(n:NL enc)(l:X.A.units+64 < Bd)(m:VE X A a (rV X.K enc) qa)(hb:VE X A b (rV X.K enc) qb):VB X A (.Compare a [.NotEq] [b] pos) (qa.bind λx=>qb.bind λy=>some (!decide (x=y))):=UR (qI l) (λx y z q=>by cases q;exact QV h n true x y []) m hb (Gq _)
theorem oy(h:EqN 8 enc)(n:NL enc)(l:X.A.units+64 < Bd)(m:VE X A a (rV X.K enc) qa)(hb:VE X A b (rV X.K enc) qb):VE X A (.Compare a [.Eq] [b] pos) (rV X.K D.bl) (qa.bind λx=>qb.bind λy=>some (decide (x=y))):=kH (jS l) (λx y z q=>by cases q;exact QV h n false x y []) m hb (Gq _)
theorem Wc(h:EqN 8 enc)(neg:Bool)(x:α)(l:List α):inD neg (enc x) (eT enc l) []=.ok (.bl (if neg then !decide (x∈l)else decide (x∈l))) []:=by
 unfold inD;rw[show gR (eT enc l) []=some (l.map enc)from rfl];symm;rw[G7 h]
theorem fk(h:EqN 8 enc)(m:X.A.units+64 < Bd)(o:VE X A a (rV X.K enc) qa)(hb:VE X A b (rV X.K (eT enc)) ql)(w:autoParam (BF .In b=false) yq5q):VB X A (.Compare a [.In] [b] pos) (qa.bind λx=>ql.bind λl=>some (decide (x∈l))):=UR (jR m) (λx l z q=>by cases q;exact Wc h false x l) o hb w
end
theorem HV(G:VE X A a (rV X.K I) J)(hb:VE X A b (rV X.K eb) L)(N:autoParam (AH [a,b] X.env=(false,A6 a X.env) :: AH [b] X.env) yq0q)(O:autoParam (AH [b] X.env=(false,A6 b X.env) :: AH [] X.env) yq0q) :
  VE X A (.Tuple [a,b] k pos) (rV X.K (eP I eb)) (J.bind λx=>L.bind λy=>some (x,y)):=λv l=>by
 obtain⟨x,P,l⟩:=AR l;obtain⟨y,R,S⟩:=AR l;cases S
 exact(WO (B3 (G x P) (B3 (hb y R) ET O) N)).imp (by rintro Y H Q ⟨o,F,B,q⟩;exact ⟨o,F,B,λu Z C T=>⟨o,_,B.grow C,λw H2 E U=>⟨Ds rfl,λp m=>q _ _ ((C.trans E).trans (BX m)) (.tup Ar (.cons ((BX m).rd (E.rd T)) (.cons ((BX m).rd U) .nil)))⟩⟩⟩)
theorem aT{j:Nat}{l:Pos}{i:Int}{o:α->D}{ec:γ->D}{q:Option α}{g:α->γ}{C:α->List D}(h:VE X A a (rV X.K o) q)(E:∀x,o x=.tup (C x))(hi:∀x,atI (C x) i=some (ec (g x)))(hs:autoParam (LQ (.Constant (.int i) j l)) yq7q):VE X A (.Subscript a (.Constant (.int i) j l) pos) (rV X.K ec) (q.bind λx=>some (g x)):=λv G=>by
 obtain⟨x,I,J⟩:=AR G;cases J
 refine(Uq cR (h x I) (A4 i rfl) hs).imp λZ H Q ⟨L,F,hs,k⟩=>ER ⟨L,F,hs,λu w N O P B m R=>?_⟩
 cases R;have m:RD X.K N (o x) u:=m;rw[E]at m
 cases m with
 | @tup _ p vs S T=>
  obtain⟨y,U,Y⟩:=PH T (hi x);exact⟨p,vs,i,y,rfl,rfl,.inl (.inl (B _ _ S)),U,k y O (P.trans B) (B.rd Y)⟩
theorem L9{j:Nat}{l:Pos}{m:α->D}{eb:β->D}{q:Option (α×β)}(h:VE X A a (rV X.K (eP m eb)) q):VE X A (.Subscript a (.Constant (.int 0) j l) pos) (rV X.K m) (q.bind λx=>some x.1):=aT h (λx=>rfl) (λx=>rfl)
theorem Sn{j:Nat}{l:Pos}{m:α->D}{eb:β->D}{q:Option (α×β)}(h:VE X A a (rV X.K (eP m eb)) q):VE X A (.Subscript a (.Constant (.int 1) j l) pos) (rV X.K eb) (q.bind λx=>some x.2):=aT h (λx=>rfl) (λx=>rfl)
end
open L2
open L4 (Fw AR eT eU oL Ie EqN G7 kR oDR cM Je)
section
variable{X:Cx}{A:List Sl}{e a b o:Expr}{pos apos cpos:Pos}{α τ:Type}{pa pb:Option Int}
theorem Vx(l:VE X A a (zIq X) pa)(hb:VE X A b (zIq X) pb):VE X A (.BinOp a .RShift b pos) (zIq X) (pa.bind λx=>pb.bind λy=>Ie x y):=UO ls l hb
theorem LF(l:VE X A a (zIq X) pa)(hb:VE X A b (zIq X) pb):VE X A (.BinOp a .BitAnd b pos) (zIq X) (pa.bind λx=>pb.bind λy=>some (BE x y)):=aP l6 l hb
theorem fX(l:VE X A o (zIq X) pa)(m:autoParam (Bi o "bit_length" X.env (A6 o X.env)=A6 o X.env) yq0q) (w:autoParam ((apos.endLine==cpos.line)=true) yq0q):VE X A (.Call (.Attribute o "bit_length" apos) [] [] cpos) (zIq X) (pa.bind λx=>some (Dy x:Int)):=λv B=>by
 obtain⟨x,C,E⟩:=AR B;cases E
 exact(lh PySem.F.plainAttrs_int PySem.F.slot_int_bit_length PySem.F.type_int_bit_length iB (l x C) m w).imp (by rintro L H Q ⟨G,F,I,k⟩;exact ⟨G,F,I,λu J kp r=>by cases r;exact⟨rfl,_,rfl,rfl,k _ J kp (.int _)⟩⟩)
theorem L6:VSs X A sts R none B:=λf l=>nomatch l
theorem dkR:N1 (oDR enc) (eT D.int) enc:=dkT cM λk=>congrArg D.tup (by unfold kR;rw[Aw];rfl)
theorem hu1(h:n+64 < Bd):n+1 < Bd:=IY (Nat.add_le_add_left (by decide:1<=64) _) h
section
variable{enc:α->D}[DecidableEq α]{qa:Option α}{ql:Option (List α)}
theorem Mo(h:EqN 8 enc)(m:X.A.units+64 < Bd)(w:VE X A a (rV X.K enc) qa)(hb:VE X A b (rV X.K (eT enc)) ql)(B:autoParam (BF .NotIn b=false) yq5q):VB X A (.Compare a [.NotIn] [b] pos) (qa.bind λx=>ql.bind λl=>some (!decide (x∈l))):=UR (bv m) (λx l z q=>by cases q;exact Wc h true x l) w hb B
end
theorem fnU{P:Al}{w:A1}{K:AB}{Z:Str->Option AD}{base:BI}{x C:Str}{st:B6}{f:AL}{fd:D1}{N R:List Str}{k:Nat}{S:List (Hp->V->Prop)}{q:Option (Fw Unit τ)}{B:τ->List Sl}(F:Fun K x C st f fd)(Sc:HY N R (Bw st))(hn:S.length=R.length)
  (sH:∀(O:AD) (A:BP) (m:List Env) (s:AK) (H:Hp) (E:XK),FC k (A.deeper (HD C (Bw st) s.heap.objs.size f O))->(A.deeper (HD C (Bw st) s.heap.objs.size f O)).units+64 < Bd->N.Nodup ->
   VSs (Qa (CXG P w) P w K Z base N C (Bw st) f O A m s H E).q (asl S N.length) (FB st) (rV K eU) q B):CT P w K Z base (CXG P w) (k+1) f fd R (spV S (rV K eU) (Je q)):=by
 obtain⟨oc,od,kV,doc,pm,an,O,ct,tK,rfl,lk,sP⟩:=F.ex
 refine SA lk sP Sc (by rintro vs H Q E ⟨v,_,h,_⟩;rw[<-hn,h.1]) ?_;rintro A m s H vs Q E hr ⟨v,T,h2,h3⟩
 have U:∃L,q=some L/\((∃r,L=.rt r)∨∃t,L=.nx t):=by
  unfold Je at T;split at T
  ·exact⟨_,rfl,.inl ⟨_,rfl⟩⟩
  ·exact⟨_,rfl,.inr ⟨_,rfl⟩⟩
  ·cases T
 obtain⟨L,U,hf⟩:=U;have hb:=sH O A m s H E hr hr.units Sc.nd _ U;refine⟨_,λζ s' σ Y D I q=>DP (hb ζ s' σ Y D (I.with _) q) (λL s1 z=>?_) λe s1 z=>z.elim,H,_,Vs.start h2,?_⟩
 ·cases L with
  | next=>obtain⟨l,G,J,z⟩:=z;exact⟨l,G,J.without,z⟩
  | brk=>obtain⟨l,G,J,z⟩:=z;exact⟨l,G,J.without,z⟩
  | cont=>obtain⟨l,G,J,z⟩:=z;exact⟨l,G,J.without,z⟩
  | ret u=>obtain⟨v,l,G,J,r,z⟩:=z;exact⟨v,l,G,J.without,r,z⟩
 ·rcases hf with⟨r,rfl⟩ | ⟨t,rfl⟩
  ·exact h3
  ·exact λl F' Y v' M=>h3 .non Y v'.kp (.non)
end
open L2
open L4 (Fw AR eT eP oL oDK oDR Nm QP Kk FI F8 XY kX B2)
section
variable{X:Cx}{A:List Sl}{e o i:Expr}{p pos:Pos}{β ρ κ:Type}
theorem pW(l:ZLi):Kb (l.map D.int)=some ((CK l).map D.int):=by unfold Kb;rw[QP]
theorem lC:Kb ([]:List D)=some []:=by show some ((CK []).map D.int)=_;ext
theorem pY(l:List ZLi)(h:l.all (λr=>!r.isEmpty)=true):Kb (l.map Uf)=some ((IM l).map Uf):=by
 cases l with
 | nil=>show Kb []=_;rw[lC];unfold IM;ext
 | cons x l=>unfold Kb;rw[show Kv (List.map Uf (x :: l))=none from rfl,Kk _ h]
set_option tactic.hygienic true in
theorem pX(l k:List ZLi)(h:FI l=some k):Kb (l.map (eT D.int))=some (k.map (eT D.int)):=by
 unfold FI at h;split at h
 ·rename_i m;cases h;exact pY l m
 ·cases h
theorem sD_P(l:List ZPi):Kb (l.map (eP D.int D.int))=some ((F8 l).map (eP D.int D.int)):=by
 rw[<-XY];have:=pY (l.map λx=>[x.1,x.2]) (Ju.mpr λr m=>by grind);rw[Aw]at this;exact this
theorem UI(m:X.mg "sorted" = none) (w:VE X A e (rO X.K (oL D.int)) pl) (B:autoParam (X.calm=true) yq0q) (C:autoParam (Gl X "sorted") yq0q) (E:autoParam (zSq X e) yq0q):VE X A (.Call (.Name "sorted" p) [e] [] pos) (rN X.K (oL D.int)) (pl.bind λl=>some (CK l)):=
 LC pU m w (λl G h=>by cases h;exact pW l) B C E
theorem NV(m:X.mg "sorted" = none) (w:VE X A e (rV X.K (eT D.int)) pl) (B:autoParam (X.calm=true) yq0q) (C:autoParam (Gl X "sorted") yq0q) (E:autoParam (zSq X e) yq0q):VE X A (.Call (.Name "sorted" p) [e] [] pos) (rN X.K (oL D.int)) (pl.bind λl=>some (CK l)):=
 LC srcT m w (λl G h=>by cases h;exact pW l) B C E
theorem UK(l:X.mg "sorted" = none) (m:VE X A e (rO X.K (oL (eT D.int))) pl) (w:autoParam (X.calm=true) yq0q) (B:autoParam (Gl X "sorted") yq0q) (C:autoParam (zSq X e) yq0q):VE X A (.Call (.Name "sorted" p) [e] [] pos) (rN X.K (oL (eT D.int))) (pl.bind FI):=
 LC pU l m pX w B C
theorem FR[DecidableEq κ]{ob:List (κ×β)->Ob}{C:κ->D}{enc:β->D}{E:Option κ}{Z:AL->Prop}{n:Nat}{m:Pos}{l:List (κ×β)}{pv:Option β}{R:Rk ρ}(d:N1 ob C enc)(G:X.A.units+1 < Bd)(H:PE X o (DX n))(hi:VE X A i (rV X.K C) E)(I:VE X A e (rV X.K enc) pv)(J:autoParam (A[n]?=some (.g (pa X.K Z (ob l)))) yq0q)(hs:autoParam (Bb e (some (.Subscript o i m)) pos.line X.env=pure false) yq0q) :
  VS X A (.Assign [.Subscript o i m] e pos) R (pv.bind λv=>E.bind λk=>(B2 l k v).bind λB=>some (.nx B)) (λB=>A.set n (.g (pa X.K Z (ob B)))):=λf w=>fJ d G H hi I J hs f (by
 obtain⟨v,L,w⟩:=AR w;obtain⟨k,N,w⟩:=AR w;rw[L,N];unfold B2 at w
 grind)
end
open L2
open L4 (Fw AR eT eP oL Nm Oa EqN NL QV GT)
section
variable{X:Cx}{A:List Sl}{e a b o i:Expr}{p pos:Pos}{α:Type}{pa pb:Option Int}{enc:α->D}
theorem oz{op:T2}{g:Int->Int->Bool}(m:OpR X (Bo op) (rI0 λi j=>.bl (g i j)))(B:VE X A a (zIq X) pa)(hb:VE X A b (zIq X) pb)(C:BF op b=false):VE X A (.Compare a [op] [b] pos) (rV X.K D.bl) (pa.bind λx=>pb.bind λy=>some (g x y)):=λv l=>by
 obtain⟨x,E,l⟩:=AR l;obtain⟨y,G,I⟩:=AR l;cases I
 exact(O5 m (B x E) (hb y G) C).imp (by rintro T H Q ⟨J,F,L,q⟩;exact ER ⟨J,F,L,λu w U N O P R S=>by cases R;cases S;exact⟨x,y,rfl,rfl,q _ N (O.trans P) (.bl _)⟩⟩)
theorem jE(l:VE X A a (zIq X) pa)(hb:VE X A b (zIq X) pb):VE X A (.Compare a [.Lt] [b] pos) (rV X.K D.bl) (pa.bind λx=>pb.bind λy=>some (decide (x < y))):=oz bq l hb (Gq _)
theorem jF{x:Str}{id:String}{g:Int->Int->Int}(G:G8 X (.builtin id) (λxs H Q=>∃i j,xs=[.int i,.int j]/\Q (.int (g i j)) H))(I:EK x=some (.builtin id))(J:X.mg x=none)(L:VE X A a (zIq X) pa)(hb:VE X A b (zIq X) pb)(N:Gl X x)(O:x≠"__name__") (P:(x==("__debug__" : Str))=false) (m:AH [a,b] X.env=(false,A6 a X.env) :: AH [b] X.env) (R:AH [b] X.env=(false,A6 b X.env) :: AH [] X.env) (S:(Cu pos (AH [b] X.env)).any (·.1)=false) :
  VE X A (.Call (.Name x p) [a,b] [] pos) (zIq X) (pa.bind λx=>pb.bind λy=>some (g x y)):=λv l=>by
 obtain⟨x,T,l⟩:=AR l;obtain⟨y,U,Y⟩:=AR l;cases Y
 exact(QA G N J I (B3 (L x T) (B3 (hb y U) ET R) m) O P m S).imp λσ H Q ⟨B,F,C,q⟩=>⟨B,F,C,λu H1 E Z=>⟨B,_,C.grow E,λw H2 k2 r2=>by cases Z;cases r2;exact⟨x,y,rfl,q _ H2 (E.trans k2) (.int _)⟩⟩⟩
theorem Sq(l:X.mg "min" = none) (m:VE X A a (zIq X) pa) (hb:VE X A b (zIq X) pb) (w:autoParam (X.calm=true) yq0q) (B:autoParam (Gl X "min") yq0q) (C:autoParam (AH [a,b] X.env=(false,A6 a X.env) :: AH [b] X.env) yq0q) (E:autoParam (AH [b] X.env=(false,A6 b X.env) :: AH [] X.env) yq0q) (G:autoParam ((Cu pos (AH [b] X.env)).any (·.1)=false) yq0q) :
  VE X A (.Call (.Name "min" p) [a,b] [] pos) (zIq X) (pa.bind λx=>pb.bind λy=>some (if y < x then y else x)):=jF (ZQ w) rM l m hb B ∅ (by rfl) C E G
theorem fP(l:X.mg "max" = none) (m:VE X A a (zIq X) pa) (hb:VE X A b (zIq X) pb) (w:autoParam (X.calm=true) yq0q) (B:autoParam (Gl X "max") yq0q) (C:autoParam (AH [a,b] X.env=(false,A6 a X.env) :: AH [b] X.env) yq0q) (E:autoParam (AH [b] X.env=(false,A6 b X.env) :: AH [] X.env) yq0q) (G:autoParam ((Cu pos (AH [b] X.env)).any (·.1)=false) yq0q) :
  VE X A (.Call (.Name "max" p) [a,b] [] pos) (zIq X) (pa.bind λx=>pb.bind λy=>some (if y > x then y else x)):=jF (ZR w) rQ l m hb B ∅ (by rfl) C E G
set_option tactic.hygienic true in
theorem XQ(L:VE X A a (rO X.K (oL enc)) pl)(hb:VE X A b (rO X.K (oL enc)) N):VE X A (.BinOp a .Add b pos) (rN X.K (oL enc)) (pl.bind λl=>N.bind λk=>GT l k):=λv E=>by
 obtain⟨l,O,E⟩:=AR E;obtain⟨k,P,C⟩:=AR E;unfold GT at C;split at C
 ·rename_i R
  cases C
  refine(ba l5 (L l O) (hb k P)).imp λσ H Q ⟨S,F,T,q⟩=>ER ⟨S,F,T,λu w H1 H2 G m ⟨U,Y,vs,Z,I⟩ ⟨b1,e2,ws,g3,J⟩=>?_⟩
  refine⟨U,b1,vs,ws,Y,e2,m _ _ Z,g3,Nm (by rw[<-I.length,<-J.length,AF,AF];exact R),λr B=>q _ _ ((G.trans m).trans (BX B)) ⟨r,rfl,?_,_,Ar,?_⟩⟩
  ·cases e0:H r with
   | none=>rfl
   | some o=>rw[(G.trans m) r o e0]at B;cases B
  ·rw[Be]
   exact((I.keep (λb M z=>m b _ z) λb M M z=>m b _ z).append J).keep (λb M z=>BX B b _ z) λb M M z=>BX B b _ z
 ·cases C
theorem JV(h:VE X A e (rV X.K D.bl) q)(m:autoParam (∀l,KG e X.env l=(do let v <-l;Ir e.pos;Fn [v] (NE v))) yq2q):VB X A e q:=by
 have:=Ph (g:=id) h truB m;ext
end
open PySem.SeqAt L2
open L4 (Fw AR eT eP oL EqN G7 LM)
section
variable{X:Cx}{A:List Sl}{e a b c i:Expr}{p pos:Pos}{α:Type}{enc:α->D}{qa:Option α}{ql:Option (List α)}
def lK(K:AB)(neg:Bool):R2:=λx y H Q=>∃d l p m c,y=.ref p/\SqL K H p m/\RD K H d x/\A8 K [] H l m/\K5 d l=some c/\Q (.bl (if neg then !c else c)) H
theorem br(L:X.A.units+64 < Bd):OpR X (Bo .In) (lK X.K false):=by
 intro N s O H x y v u Q I l m h;obtain⟨d,P,p,R,c,rfl,sq,o,w,B,k⟩:=h;cases m;obtain⟨C,E,G,_⟩:=I.list sq;obtain⟨e,J,rfl⟩:=K4 I (A:=X.A.in1) (by rw[Fj];lia) o l w E B;exact in_listAt e G.isList (λz S=>J z (by grind)) ⟨.bl (C.toArray.any e),H,I,rfl,by ext⟩
theorem kJ[DecidableEq α](B:OpR X (Bo op) (lK X.K neg))(h:EqN 8 enc)(C:VE X A a (rV X.K enc) qa)(hb:VE X A b (rO X.K (oL enc)) ql)(E:BF op b=false):VB X A (.Compare a [op] [b] pos) (qa.bind λx=>ql.bind λl=>some (if neg then !decide (x∈l)else decide (x∈l))):=λv m=>by
 obtain⟨x,G,m⟩:=AR m;obtain⟨l,I,J⟩:=AR m;cases J
 exact(O0 B (C x G) (hb l I) E).imp λY H Q ⟨L,F,N,q⟩=>ER ⟨L,F,N,λu w Z O P o R ⟨p,S,vs,T,U⟩=>⟨_,_,p,vs,_,S,.inl (.inl T),o.rd R,U,G7 h x l,_,rfl,q O (P.trans o)⟩⟩
theorem aX[DecidableEq α](h:EqN 8 enc)(m:X.A.units+64 < Bd)(o:VE X A a (rV X.K enc) qa)(hb:VE X A b (rO X.K (oL enc)) ql)(w:autoParam (BF .In b=false) yq5q):VB X A (.Compare a [.In] [b] pos) (qa.bind λx=>ql.bind λl=>some (decide (x∈l))):=kJ (br m) h o hb w
mutual
theorem ph{K}{H}{r}:∀{d:D} {v:V},DL K [] H d v->DL K r H d v
 | _,_,.non=>.non
 | _,_,.bl b=>.bl b
 | _,_,.int i=>.int i
 | _,_,.str x=>.str x
 | _,_,.tup h q=>.tup h (Nb q)
 | _,_,.fro h q=>.fro h (Nb q)
 | _,_,.ref h=>by simp at h
 | _,_,.exc h q=>.exc h q
theorem Nb{K}{H}{r}:∀{d:List D} {v:List V},A8 K [] H d v->A8 K r H d v
 | _,_,.nil=>.nil
 | _,_,.cons h q=>.cons (ph h) (Nb q)
end
def bJ(K:AB)(neg:Bool):R2:=λx y H Q=>∃r S a b c,Og K r S H/\DL K r H a x/\DL K r H b y/\eqD neg a b S=.ok (.bl c) S/\Q (.bl c) H
set_option tactic.hygienic true in
theorem l0(m:X.A.units+64 < Bd):OpR X (Bo .Eq) (bJ X.K false):=by
 intro J s L H x y v u Q I o w h;obtain⟨r,S,a,b,d,B,C,E,l,k⟩:=h;unfold eqD at l;split at l
 ·rename_i c G
  cases l;exact(Tb I m B C E o w G).1 _ _ _ _ ⟨.bl c,H,I,rfl,k⟩
 ·cases l
set_option tactic.hygienic true in
theorem lx(m:X.A.units+64 < Bd):OpR X (Bo .NotEq) (bJ X.K true):=by
 intro J s L H x y v u Q I o w h;obtain⟨r,S,a,b,d,B,C,E,l,k⟩:=h;unfold eqD at l;split at l
 ·rename_i c G
  cases l;exact(Tb I m B C E o w G).2 _ _ _ _ ⟨.bl (!c),H,I,rfl,k⟩
 ·cases l
end
end L7
namespace L7
open L2
open L4 (Fw AR eT oL)
section
variable{X:Cx}{A:List Sl}{e a b:Expr}{p pos:Pos}{α:Type}{enc:α->D}
theorem XO{lo hi}{p2}{pl}{q r}(h:VE X A e (rV X.K (eT enc)) pl)(hl:VO X A lo q)(P:VO X A hi r):VE X A (.Subscript e (.Slice lo hi none p2) pos) (rV X.K (eT enc)) (pl.bind λl=>q.bind λu=>r.bind λv=>some (Od l u v)):=λz o=>by
 obtain⟨l,R,o⟩:=AR o;obtain⟨u,S,o⟩:=AR o;obtain⟨v,T,U⟩:=AR o;cases U
 refine(bZ (k9.or k8) (h l R) (hl u S) (P v T)).imp λσ H Q ⟨C,F,E,k⟩=>⟨C,F,E,λx H1 B Y=>⟨C,_,E.grow B,λH2 L=>⟨C,_,(E.grow B).grow L,λH3 Z=>?_⟩⟩⟩
 have m:=L.trans Z;have G:=Y
 cases G with
 | @tup _ a vs I N=>
  have hn:vs.length=l.length:=by rw[<-N.length,AF]
  have O:=N.keep (λb M z=>m b _ z) λb M M z=>m b _ z
  by_cases w:HT.sIx vs.length 0 u=0/\HT.sIx vs.length vs.length v=vs.length
  ·refine .inl ⟨a,vs,rfl,.inl (.inl (m _ _ I)),w,k _ _ (B.trans m) ?_⟩
   have:Od l u v=l:=by
    unfold Od;rw[hn]at w;rw[w.1,w.2,List.drop_zero,Nat.sub_zero,List.take_length]
   rw[this];exact .tup (m _ _ I) O
  ·exact .inr ⟨a,vs,rfl,.inl (.inl (m _ _ I)),w,λp J=>k _ _ ((B.trans m).trans (BX J)) (.tup Ar ((ic O).keep (λb M z=>BX J b _ z) λb M M z=>BX J b _ z))⟩
theorem kB(m:X.mg "sum" = none) (h:VE X A e (rO X.K (oL D.int)) pl) (o:autoParam (X.calm=true) yq0q) (w:autoParam (Gl X "sum") yq0q) (B:autoParam (zSq X e) yq0q):VE X A (.Call (.Name "sum" p) [e] [] pos) (zIq X) (pl.bind λl=>some (UY l)):=
 KR (ZO o) rJ m h (by
  rintro v z H u J Q C ⟨a,E,vs,G,I⟩ k
  cases C;cases I.ints
  exact⟨a,v,by rw[E],.inl (.inl G),k _ _ .refl (.int _)⟩) upV w ∅ (by rfl) B
theorem S5{K}{r}{H}:∀{l:List Bool} {vs:List V},A8 K r H (l.map D.bl) vs->vs=l.map V.bl
 | [],_,.nil=>rfl
 | _ :: _,_,.cons h t=>by cases h;rw[S5 t];rfl
theorem V0{pl}(m:X.mg "all" = none) (h:VE X A e (rO X.K (oL D.bl)) pl) (o:autoParam (X.calm=true) yq0q) (w:autoParam (Gl X "all") yq0q) (B:autoParam (zSq X e) yq0q):VE X A (.Call (.Name "all" p) [e] [] pos) (rV X.K D.bl) (pl.bind λl=>some (l.all id)):=
 KR (ZV o) rY m h (by
  rintro v z H u J Q C ⟨a,E,vs,G,I⟩ k
  cases C;cases S5 I
  exact⟨a,v,by rw[E],.inl (.inl (.inl G)),k _ _ .refl (.bl _)⟩) upV w ∅ (by rfl) B
theorem kI{pl}(m:X.mg "any" = none) (h:VE X A e (rO X.K (oL D.bl)) pl) (o:autoParam (X.calm=true) yq0q) (w:autoParam (Gl X "any") yq0q) (B:autoParam (zSq X e) yq0q):VE X A (.Call (.Name "any" p) [e] [] pos) (rV X.K D.bl) (pl.bind λl=>some (l.any id)):=
 KR (ZU o) rX m h (by
  rintro v z H u J Q C ⟨a,E,vs,G,I⟩ k
  cases C;cases S5 I
  exact⟨a,v,by rw[E],.inl (.inl (.inl G)),k _ _ .refl (.bl _)⟩) upV w ∅ (by rfl) B
end
open L2
open L4 (Fw AR eT oL Lb)
section
variable{K:AB}{H H' H0:Hp}{F F' S:AL->Prop}{σ:L2.St}{A:List Sl}{α β ρ:Type}
theorem VR.hold(h:VR H0 A σ F G H)(k:Kp H H'):VR H0 A σ F G H':=
 ⟨h.kp.trans k,h.f0,λa q=>let ⟨o,e⟩:=h.fh a q;⟨o,k a o e⟩,λi s w=>let ⟨x,m,B⟩:=h.sl i s w;⟨x,m,Sl.mono B ⟨λI z=>z,k.fr⟩ λa C=>let ⟨o,l⟩:=(h.gn i a C).2;by rw[l,k a o l]⟩,λi a q=>let ⟨m,o,l⟩:=h.gn i a q;⟨m,o,k a o l⟩,h.ds⟩
theorem St.set_same(l:σ[i]?=some (some y)):σ.set i (some y)=σ:=by
 obtain⟨m,e⟩:=AJ.mp l;rw[<-e];exact K8 m
def rG(P:α->Hp->(AL->Prop)->Hp->V->Prop):Rk α:=λv H x H'=>∃S,(∀b,S b->H b=none/\∃o,H' b=some o)/\∀H0,Kp H0 H->∀l,Fr (λa=>H a=none/\(∃o,H' a=some o)/\¬S a) H' l->(∀a,S a->l a=H' a)->P v H0 S l x
def lP(P:α->Hp->V->Prop)(l:List α)(H:Hp)(y:V):Prop:=∃a vs,y=.ref a/\H a=some (.lst vs)/\vs.length=l.length/\∀(i:Nat) v x,l[i]?=some v->vs[i]?=some x->P v H x
def tO(K:AB)(ob:α->Ob):α->Hp->V->Prop:=λv H x=>∃a,x=.ref a/\OB K H a (ob v)
def pn(K:AB)(ob:α->Ob)(l:List α):Hp->(AL->Prop)->Hp->V->Prop:=λG S H y=>∃a bs,y=.ref a/\H a=some (.lst (bs.map V.ref))/\(a :: bs).Nodup/\S=(λb=>b∈a :: bs)/\bs.length=l.length/\∀(i:Nat) v b,l[i]?=some v->bs[i]?=some b->OB K H b (ob v)
theorem oY(hi:A[i]?=some (.g (pn K ob l))):Wk A (A.set i (.q λI H y=>lP (tO K ob) l H y)):=Z0 hi (by rintro S H0 H y _ ⟨a,bs,w,B,_,_,G,C⟩;exact ⟨a,_,w,B,by ext,λj v x E m=>by
 rw[Ab]at m
 cases o:bs[j]? with
 | none=>ext
 | some b=>rw[o]at m;cases m;exact⟨b,rfl,C j v b E o⟩⟩)
theorem frz_of(h:∀H',Fr F H H'->∃u,H' a=some (.lst u))(m:H a=some (.lst vs)):F a:=BR λn=>by
 obtain⟨u,l⟩:=h (upd H a (.own 0)) ⟨λb w e=>by rw[AO (λc=>by ext)];exact e,λb o z e=>by rw[AO (λc=>by ext)];exact e,λb o f e=>by rw[AO (show b≠a from λc=>n (c▸f))];exact e⟩;rw[Ar]at l;cases l
theorem mR(o:∀H',Fr F H H'->lP P l H' (.ref a)):(∃vs,SqL K H a vs)/\JOk P l F H (Itl K a):=by
 obtain⟨_,vs,e,m,E,T⟩:=o H Kp.refl.fr;cases e;have B:=frz_of (λH' f=>let ⟨_,u,e,g,_⟩:=o H' f;by cases e;exact⟨u,g⟩) m;refine⟨⟨vs,.inl (.inl m)⟩,λF' H' fe i=>?_⟩;have w:=fe.fr.fix a _ B m;refine⟨λG=>⟨vs,.inl (.inl w),by rw[E];exact CY.mp G⟩,λv I=>?_⟩;obtain⟨U,_⟩:=AJ.mp I;have J:vs[i]?=some (vs[i]'∅):=AI _;refine⟨⟨vs,_,.inl (.inl w),J⟩,λx X L=>?_⟩;obtain⟨rfl,N⟩:=L;have Y:=N vs (.inl (.inl w));refine⟨.refl,λO f=>?_⟩
 have C:=fe.fr.trans f λb z=>.inl (fe.le b z)
 obtain⟨_,Q,e,R,Z,g5⟩:=o O C;cases e;rw[C.fix a _ B m]at R
 grind
section
variable{X:Cx}{e e1 o tg:Expr}{p pos uL apos cpos:Pos}
theorem oq(h:PE X e (DX i))(hi:autoParam (A[i]?=some (.q λJ H y=>lP P l H y)) yq0q):VI X A tg e P (some l):=λJ w=>(O4 h).imp<|by
 rintro σ H R ⟨H0,F,B,k⟩
 cases w;obtain⟨y,C,m⟩:=B.at hi;obtain⟨a,_,rfl,_⟩:=m H Kp.refl.fr
 have E:∀H',Fr (gF F H H) H H'->lP P l H' (.ref a):=λH' f=>m H' ⟨f.tup,f.frz,λb o z=>f.fix b o (.inl z)⟩
 obtain⟨G,I⟩:=mR E;exact⟨_,C,a,rfl,G,k _ H .refl I⟩
theorem jB{st:B6}{P:α->Hp->(AL->Prop)->Hp->V->Prop}{R:Rk ρ}{p:Option α}{i:Nat}(h:VEA X A i st (rG P) p):VS X A st R (p.bind λv=>some (.nx v)) (λv=>A.set i (.g (P v))):=λf w=>by
 obtain⟨v,B,C⟩:=AR w;cases C
 refine(h v B).imp λD σ H ⟨H0,F,⟨G,l⟩,k⟩=>⟨H0,F,⟨G,l⟩,λx H' kp ⟨S,m,E⟩=>?_⟩
 have ne:∀b o,H b=some o->¬S b:=λb o e z=>by ext
 have fe:Fe F H (λb=>gF F H H' b/\¬S b) H':=⟨λb f=>⟨.inl f,let ⟨o,e⟩:=l.fh b f;ne b o e⟩,kp.fr⟩;exact k _ _ _ ⟨_,l.own i (S':=S) fe (λb o e J=>kp b o e) (λb f=>f.1.imp id λz=>z.1) (λb f=>f.1.elim (λz=>let ⟨o,e⟩:=l.fh b z;⟨o,kp b o e⟩) λz=>z.2) (λb z=>⟨.inr (m b z).1,λq=>q.2 z,(m b z).2⟩) λI f z=>E H0 l.kp I ⟨f.tup,f.frz,λa o q=>f.fix a o ⟨.inr ⟨q.1,q.2.1⟩,q.2.2⟩⟩ z⟩ fe
noncomputable def WS(l:List α):Option (List (List β)):=if l.length<=1000000 then some (l.map λG=>[])else none
set_option tactic.hygienic true in
theorem h9(ht:VP g P n A T)(hT:∀v,Ws (T v) (Bk n .u++A))(O:WS l=some out)(h:tE A (rG (pn K (oL eb))) out σ H Q) :
  XV n (λσ H R=>∃H0 F,Vs H0 A σ F H/\∀J w,Kp H w->JOk P l (gF F H w) w J->R J w) g (λM H Q=>Q true H) (pM pI) σ H Q:=by
 unfold WS at O
 split at O <;> cases O
 rename_i hlen;obtain⟨H0,F,⟨U,hv0⟩,q⟩:=h;refine⟨H0,F,⟨U,hv0⟩,λJ w kp xU p Y=>?_⟩;have Z:=hv0.grow kp
 have p0:¬gF F H w p:=λz=>by obtain⟨o,e⟩:=Z.fh p z;ext
 have pg:∀i,¬U i p:=λi z=>by obtain⟨o,e⟩:=(Z.gn i p z).2;lia
 have nn:∀b,w b=none->H b=none:=λb e1=>by
  cases e:H b with
  | none=>rfl
  | some o=>rw[kp b o e]at e1;cases e1
 refine⟨λi m G H' xs=>m=l.length - i/\i<=l.length/\∃(pre:L2.St) (F':AL->Prop) (bs:List AL),G=pre++σ/\pre.length=n/\VR H0 (Bk n .u++A) (pre++σ) F' (λi a=>n<=i/\U (i - n) a) H'/\Fe (gF F H w) w F' H'/\Kp w H'/\¬F' p/\H' p=some (.lst xs)/\xs=bs.map V.ref/\bs.length=i/\(p :: bs).Nodup/\∀b∈bs,w b=none/\H' b=some (.lst []),
  ⟨_,rfl,Bc _,_,_,[],rfl,by simp,(Z.pre ∅).hold (BX Y),⟨λM z=>z,(BX Y).fr⟩,BX Y,p0,Ar,rfl,rfl,by simp,λb hb=>by cases hb⟩,?_⟩
 rintro i m G H' xs ⟨rfl,hle,pre,F',bs,rfl,hk,hv,fe,kq,np,I,rfl,hbl,uv,hb⟩;refine⟨I,?_⟩;obtain⟨j1,j2⟩:=xU F' H' fe i
 cases N:l[i]? with
 | none=>
  have hn:=CY.mp N;refine .inl ⟨j1 N,q _ _ (kp.trans kq) ⟨λb=>b∈p :: bs,λb z=>?_,λH0 M L f z=>⟨p,bs,rfl,by ext,uv,rfl,by rw[AF];lia,λj v b e1 e2=>?_⟩⟩⟩
  ·grind
  ·have hm:=A2 e2
   rw[Ab]at e1
   cases e3:l[j]? with
   | none=>ext
   | some u=>rw[e3]at e1;cases e1;exact⟨[],by ext,.nil⟩
 | some v=>
  obtain⟨rk,sO⟩:=AJ.mp N;obtain⟨j3,j4⟩:=j2 v N;refine .inr ⟨j3,by rw[AF];exact Lb ∅,λx L hy=>?_⟩;obtain⟨B,r2⟩:=j4 x L hy;have e2:=B _ _ I
  refine ht H0 pre σ _ _ L v x _ hk (hv.grow B) r2 λtM sT hv3=>?_
  symm;rw[qX rfl];refine⟨Bc _,λb C=>?_⟩
  have bp:p≠b:=λc=>by ext
  have n2:¬gF F' H' L p:=λz=>z.elim np λz=>by ext
  have e3:upd L b (.lst []) p=some (.lst (bs.map V.ref)):=by rw[AO bp];exact e2
  have h4:=((hT v).vr hv3).hold (BX (o:=.lst []) C);have up:=h4.upd (u:=.lst (bs.map V.ref++[.ref b])) n2 (λi z=>pg _ z.2) (λuE q=>by ext) (λob u q=>by ext)
  have nb:b∉bs:=λz=>by rw[B _ _ (hb b z).2]at C;cases C
  have h1b:w b=none:=by
   cases e:w b with
   | none=>rfl
   | some o=>rw[B _ _ (kq b o e)]at C;cases C
  refine⟨e3,_,by grind,rfl,rk,tM,_,bs++[b],rfl,sT,up.1,(fe.trans (B.fe)).trans (Fe.trans ⟨λM z=>z,(BX C).fr⟩ up.2),λc o e=>?_,n2,Ar,by simp,by simp[hbl],?_,λc E=>?_⟩
  ·rw[AO (λz=>by ext)]
   exact BX C _ _ (B _ _ (kq c o e))
  ·grind
  ·have cp:c≠p:=λz=>by
    ext
   rw[AO cp]
   rcases Ak.mp E with E | E
   ·exact⟨(hb c E).1,by rw[AO (show c≠b from λz=>nb (z▸E))];exact B _ _ (hb c E).2⟩
   ·cases Au.mp E;exact⟨h1b,Ar⟩
theorem fq(I:K7 X scope own N')(hi:VI X A B iter P pl)(J:∀E C m w G pn,PG (C3 X scope N' E C m w G pn) B g)(L:VP g P own.length A T)(O:∀v,Ws (T v) (Bk own.length .u++A))
  (Q:autoParam (X.calm=true) yq0q) (hs:autoParam (∀x,B5 iter X.env x=pure x) yq2q) (R:autoParam X.N.Nodup yq6q) (U:autoParam (X.N[i]?=some y) yq0q) (Y:autoParam (Loc X.env.scope y) yq4q) (Z:autoParam (Bb (.ListComp (.List [] p0) [⟨B,iter,[],0⟩] scope pos) (some (.Name y py)) t9.line X.env=pure true) yq0q) (hf:autoParam (X.fn y=true∨X.env.scope.names.lookup y=some .local) yq3q):VEA X A i (.Assign [.Name y py] (.ListComp (.List [] p0) [⟨B,iter,[],0⟩] scope pos) t9) (rG (pn X.K (oL eb))) (pl.bind WS):=λout hv=>by
 obtain⟨l,h1,h2⟩:=AR hv
 exact(Xh Q Z R U Y I (hi l h1) J (λE C s H G pn=>Um) (λE C s H G pn=>bb ET) hs hf).imp λD σ H h=>h9 L O h2 h
noncomputable def Tn(l:List (List α))(j:Int)(v:α):Option (List (List α)):=if 0<=j/\j.toNat < l.length/\(l.getD j.toNat []).length < 1000000 then some (l.set j.toNat (l.getD j.toNat []++[v]))else none
set_option tactic.hygienic true in
theorem XA{i:Nat}{enc:α->D}{l:List (List α)}{R:Rk ρ}{pj:Option Int}{p:Option α}(ho:PE X o (DX i))(h1:VE X A e1 (zIq X) pj)(h:VE X A e (rV X.K enc) p)(hi:autoParam (A[i]?=some (.g (pn X.K (oL enc) l))) yq0q)(Y:autoParam (LQ e1) yq7q)(sk:autoParam (Bi (.Subscript o e1 uL) "append" X.env (A6 (.Subscript o e1 uL) X.env)=A6 (.Subscript o e1 uL) X.env) yq0q)
  (tY:autoParam (((Cu cpos (AH [e] X.env)).all (λx=>!x.1)&&(NI cpos (IB [] X.env)).all (λx=>x.1.isSome)
    &&decide ([e].length+([]:List KD).length+(if ([]:List KD).isEmpty then 0 else 1) < 30))=true) yq0q)
  (sr:autoParam ((apos.endLine==cpos.line)=true) yq0q) (hs:autoParam (zSq X e) yq0q) (sM:autoParam ((Cu cpos (AH [] X.env)).any (·.1)=false) yq0q) (um:autoParam (Bb (.Call (.Attribute (.Subscript o e1 uL) "append" apos) [e] [] cpos) none pos.line X.env=pure false) yq0q) :
  VS X A (.Expr (.Call (.Attribute (.Subscript o e1 uL) "append" apos) [e] [] cpos) pos) R (pj.bind λj=>p.bind λv=>(Tn l j v).bind λT=>some (.nx T)) (λT=>A.set i (.g (pn X.K (oL enc) T))):=λf hf=>by
 obtain⟨j,q1,J⟩:=AR hf;obtain⟨v,q2,L⟩:=AR J;obtain⟨T,U,q4⟩:=AR L
 clear hf J L
 unfold Tn at U;split at U
 rotate_left
 ·cases U
 rename_i hj;cases q4;cases U;obtain⟨j0,jl,jr⟩:=hj
 refine(O2 (bi Iw Q5 Q4 Nj (Uq ix_list ho (h1 j q1) Y) (B3 (h v q2) ET hs) sk tY sr hs sM) um).imp λD σ H ⟨H0,F,⟨G,hs⟩,k⟩=>?_
 obtain⟨y,g1,g2⟩:=hs.atG hi
 obtain⟨a,bs,rfl,g3,Z,gS,gl,g4⟩:=g2 H Kp.refl.fr λM M=>rfl
 have jb:j.toNat < bs.length:=by ext
 generalize hb:bs[j.toNat]=b at *
 have eb:bs[j.toNat]?=some b:=by rw[AI jb,hb]
 have el:l[j.toNat]?=some (l.getD j.toNat []):=by rw[Bz,AI jl];rfl
 have mb:=A2 eb
 have ab:a≠b:=λc=>(BJ.mp Z).1 (c▸mb)
 have Gb:G i b:=by rw[gS];exact AM _ mb
 refine⟨_,g1,H0,F,⟨G,hs⟩,λy1 I C r1=>?_⟩;cases r1;obtain⟨vs,o1,o2⟩:=g4 j.toNat _ b el eb;refine⟨a,_,j,.ref b,rfl,rfl,.inl (.inl (C _ _ g3)),?_,.inl ⟨rfl,vs,.inl (.inl (C _ _ o1))⟩,H0,_,⟨G,hs.grow C⟩,λz B N r2=>?_⟩
 ·unfold atI ixN
  ext
 have O:=(hs.grow C).grow N;have Q:=C.trans N;have b2:=Q _ _ o1;have o3:=o2.keep (λc M z=>Q c _ z) (λc M M z=>Q c _ z);refine⟨b,vs,z,rfl,rfl,b2,by rw[<-o3.length,AF];exact Lb jr,?_⟩
 have kt:∀c xs,B c=some (.tup xs)->upd B b (.lst (vs++[z])) c=some (.tup xs):=λc xs q=>by rw[AO (λu=>by ext)];exact q
 have kf:∀c ob u,B c=some (.frz ob u)->upd B b (.lst (vs++[z])) c=some (.frz ob u):=λc ob u q=>by rw[AO (λu=>by ext)];exact q
 have nF:=(O.gn i b Gb).1
 have ne:∀c,gF (gF F H I) I B c->c≠b:=λc hc u=>nF (u▸hc)
 have fe:Fe (gF (gF F H I) I B) B (gF (gF F H I) I B) (upd B b (.lst (vs++[z]))):=⟨λM z=>z,kt,kf,λc o f e=>by rw[AO (ne c f)];exact e⟩
 have fin:=O.own i (S':=G i) (P:=pn X.K (oL enc) (l.set j.toNat (l.getD j.toNat []++[v]))) fe (λc o e q=>by rw[AO (show c≠b from λu=>q (u▸Gb))];exact e) (λc f=>.inl f) (λc f=>by rw[AO (ne c f)];exact O.fh c f) (λc q=>⟨.inl q,(O.gn i c q).1,by
  by_cases u:c=b
  ·rw[u];exact⟨_,Ar⟩
  ·rw[AO u];exact(O.gn i c q).2⟩) λH3 f q=>by
   have S:∀c,c∈a :: bs->H3 c=upd B b (.lst (vs++[z])) c:=λc hc=>q c (by rw[gS];exact hc)
   refine⟨a,bs,rfl,by rw[S a (AW ..),AO ab];exact Q _ _ g3,Z,gS,by grind,λm u c e1 E=>?_⟩;have mc:=A2 E;have Sc:=S c (AM _ mc);rw[DT]at e1
   by_cases cj:j.toNat=m
   ·subst cj
    rw[qX rfl,qX jl]at e1;rw[eb]at E;cases e1;cases E;refine⟨vs++[z],by rw[Sc];exact Ar,?_⟩;rw[Be];exact((o3.keep kt kf).append (.cons (r2.keep kt kf) .nil)).keep f.tup f.frz
   ·rw[qY cj]at e1
    have cb:c≠b:=λu=>by
     subst u;obtain⟨hm,E⟩:=AJ.mp E;exact cj ((Jr (BJ.mp Z).2).mp (hb.trans E.symm))
    have f2:=(hs.grow C |>.grow N |> λM=>(C.fe).fr.trans ((N.fe).fr.trans (fe.fr.trans f (λM z=>z)) λM z=>.inl z) λM z=>.inl z);refine f2.ob ?_ (g4 m u c e1 E);rw[Sc,AO cb];obtain⟨w,hw⟩:=(g4 m u c e1 E).at;rw[hw,Q _ _ hw]
 rw[St.set_same g1]at fin;exact k _ _ _ ⟨_,fin⟩ (C.fe.trans (N.fe.trans fe))
end
end
open L2
open L4 (Fw AR eT eP oL oDP oDR kP kR F8 FI)
section
variable{X:Cx}{A:List Sl}{e:Expr}{p pos:Pos}{β κ:Type}{K:AB}
theorem pV{enc:β->D}{m:κ->List Key}{o:κ->D}(w:∀k,o k=.tup ((m k).map cK)):YE K (rO K (λl:List (κ×β)=>.dT (l.map λx=>(m x.1,enc x.2)))) (λl=>l.map λx=>o x.1):=by rintro v H x I ⟨a,B,vs,C,E⟩;exact ⟨a,B,λG k=>.inr (.inr ⟨vs,C,λbs hb=>k _ (by
 have:=U6 E hb;rw[Aw]at this
 rwa [show((λx:List Key×D=>D.tup (x.1.map cK))∘λx:κ×β=>(m x.1,enc x.2))=λx=>o x.1 from funext λx=>(w _).symm]at this)⟩)⟩
theorem YX{enc:β->D}{pl:Option (List (ZPi×β))}(m:X.mg "sorted" = none) (o:VE X A e (rO X.K (oDP enc)) pl) (w:autoParam (X.calm=true) yq0q) (B:autoParam (Gl X "sorted") yq0q) (C:autoParam (zSq X e) yq0q):VE X A (.Call (.Name "sorted" p) [e] [] pos) (rN X.K (oL (eP D.int D.int))) (pl.bind λl=>some (F8 (l.map (·.1)))):=
 LC (pV λG=>rfl) m o (λl G h=>by cases h;rw[<-sD_P,Aw];rfl) w B C
theorem Mj(h:PE X e (DX i))(hi:autoParam (A[i]?=some (.g (pa X.K Z (ob v)))) yq0q):VE X A e (rO X.K ob) (some v):=λG l=>h.imp<|by
 rintro B H Q ⟨C,F,m,q⟩
 cases l;obtain⟨a,o,w,_⟩:=m.put hi;exact⟨_,o,q _ H .refl ⟨a,rfl,w⟩⟩
theorem Ss(h:VE X A e R q)(c:∀v,r=some v->∃u,q=some u/\∀H x H',R u H x H'->S v H x H'):VE X A e S r:=λv l=>by
 obtain⟨u,m,o⟩:=c v l
 exact(h u m).imp λC H Q ⟨w,F,B,k⟩=>⟨w,F,B,λx H' kp z=>k x H' kp (o H x H' z)⟩
end
open L2
open L4 (Fw AR eT eP oL oDK oDP oDR oFK C8 KZ M5)
section
variable{X:Cx}{A:List Sl}{e o tg:Expr}{elts:List Expr}{x1:Nat}{p pos zN:Pos}{α ρ τ:Type}{K:AB}{H H':Hp}{F:AL->Prop}{enc:α->D}
def VF(X:Cx)(A:List Sl)(e:Expr)(enc:α->D)(p:Option (List α)):Prop:=∀l,p=some l->PE X e (λw H Q=>∃B F,Vs B A w F H/\∀a m,Kp H m->(∀H',Fr (gF F H m) m H'->OB X.K H' a (oL enc l))->Q (.ref a) m)
theorem aG(h:PE X e (DX i))(m:∀w H y,P w H y->∃a,y=.ref a/\OB X.K H a (oL enc l))(hi:autoParam (A[i]?=some (.q P)) yq0q):VF X A e enc (some l):=λI C=>h.imp<|by
 rintro J H R ⟨w,F,E,k⟩
 cases C;obtain⟨y,G,B⟩:=E.at hi;obtain⟨a,rfl,L⟩:=m _ _ _ (B H Kp.refl.fr);refine⟨_,G,k a H .refl λH' f=>?_⟩;obtain⟨N,e,O⟩:=m _ _ _ (B H' ⟨f.tup,f.frz,λb o z=>f.fix b o (.inl z)⟩)
 ext
theorem fO(h:PE X e (DX i))(hi:autoParam (A[i]?=some (sy X.K (oL enc l))) yq0q):VF X A e enc (some l):=aG h (λ_ _ _ ⟨a,m,_,w⟩=>⟨a,m,w⟩) hi
theorem fN(h:PE X e (DX i))(hi:autoParam (A[i]?=some (sz X.K (oL enc l))) yq0q):VF X A e enc (some l):=aG h (λG G G z=>z) hi
theorem aF(h:VF X A e enc q):VI X A tg e (rd X.K enc) q:=λl w=>(O4 (h l w)).imp λE H R ⟨B,F,C,k⟩=>⟨B,F,C,λa m kp r=>⟨a,rfl,(let ⟨vs,g,_⟩:=r m Kp.refl.fr;⟨vs,.inl (.inl g)⟩),k _ m kp (TV r)⟩⟩
theorem cP(h:∀H',Fr F H H'->∃vs,sq H' vs/\A8 K [] H' (l.map enc) vs):JOk (rd K (eP D.int enc)) (C8 l) F H (Ite sq):=λP H' fe i=>by
 obtain⟨vs,m,w⟩:=h H' fe.fr
 have G:(C8 l)[i]?=(l[i]?).map λr=>((i:Int),r):=by
  unfold C8;rw[Ab,Lj]
  cases l[i]? <;> simp
 refine⟨λQ=>⟨vs,m,by rw[<-w.length,AF];grind⟩,λv B=>?_⟩;rw[G]at B;obtain⟨u,I,rfl⟩:=GM.mp B;obtain⟨y,C,J⟩:=w.get (by rw[Ab,I];rfl);refine⟨⟨vs,y,m,C⟩,λx R ⟨p,S,E,L,N,O⟩=>?_⟩;have:=O vs m;rw[C]at this;cases this;subst L N;exact⟨BX E,λT f=>f.rd (.tup Ar (.cons (.int _) (.cons ((BX E).rd J) .nil)))⟩
theorem XE(w:X.mg "enumerate" = none) (h:VF X A e enc q) (B:autoParam (Gl X "enumerate") yq0q) (hs:autoParam (AH [e] X.env=[(false,A6 e X.env)]) yq0q):VI X A (.Tuple elts x1 zN) (.Call (.Name "enumerate" p) [e] [] pos) (rd X.K (eP D.int enc)) (q.bind λl=>some (C8 l)):=λN C=>by
 obtain⟨l,E,G⟩:=AR C;cases G
 exact(gi B w (B3 (h l E) ET hs) hs).imp (by rintro O H R ⟨I,F,hs,k⟩;exact ⟨I,F,hs,λa m kp r=>⟨a,rfl,.inl ⟨(let ⟨vs,g,_⟩:=r m Kp.refl.fr;⟨vs,.inl (.inl g)⟩),k _ m kp (cP λH' f=>let ⟨vs,J,L⟩:=r H' f;⟨vs,.inl (.inl J),L⟩)⟩⟩⟩)
theorem aE(J:X.mg "reversed" = none) (h:VF X A e enc q) (L:autoParam (Gl X "reversed") yq0q) (hs:autoParam (AH [e] X.env=[(false,A6 e X.env)]) yq0q):VI X A tg (.Call (.Name "reversed" p) [e] [] pos) (rd X.K enc) (q.bind λl=>some l.reverse):=λZ m=>by
 obtain⟨l,N,O⟩:=AR m;cases O
 exact(lW L J (B3 (h l N) ET hs) hs).imp λσ H R ⟨P,F,hs,k⟩=>⟨P,F,hs,λa E kp r=>by
  obtain⟨vs,Q,S⟩:=r E Kp.refl.fr;refine⟨a,vs,rfl,.inl (.inl Q),k _ E kp λF' H' fe i=>?_⟩;obtain⟨w,B,C⟩:=r H' fe.fr
  have m:w.length=vs.length:=by rw[<-C.length,S.length]
  have G:=C.reverse;rw[<-On]at G;refine⟨λhn=>⟨w,.inl (.inl B),m,by rw[<-m,<-C.length,AF,<-YO];ext⟩,λv T=>?_⟩;obtain⟨y,I,U⟩:=G.get (by rw[Ab,T];rfl);refine⟨⟨w,y,.inl (.inl B),m,I⟩,λx H2 q=>?_⟩;obtain⟨rfl,Y⟩:=q;have:=Y w (.inl (.inl B));rw[I]at this;cases this
  exact⟨.refl,λH3 f=>f.rd U⟩⟩
theorem aL(w:X.mg "list" = none) (h:VE X A e (rO X.K (oL enc)) pl) (B:autoParam (Gl X "list") yq0q) (C:autoParam (zSq X e) yq0q):VE X A (.Call (.Name "list" p) [e] [] pos) (rN X.K (oL enc)) pl:=by
 have:=Su (g:=some) (S:=rN X.K (oL enc)) (pos:=pos) (p:=p) M8 boot_list w h (λv z H u L Q E G k=>by
  cases E;obtain⟨q,rfl,vs,I,J⟩:=G
  exact⟨q,vs,rfl,.inl (.inl (.inl I)),λl m=>k _ _ (BX m) ⟨l,rfl,m,vs,Ar,J.keep (λb M z=>BX m b _ z) λb M M z=>BX m b _ z⟩⟩) upN B ∅ (by rfl) C
 ext
theorem aK(w:X.mg "list" = none) (h:VE X A e (rV X.K (eT enc)) pl) (B:autoParam (Gl X "list") yq0q) (C:autoParam (zSq X e) yq0q):VE X A (.Call (.Name "list" p) [e] [] pos) (rN X.K (oL enc)) pl:=by
 have:=Su (g:=some) (S:=rN X.K (oL enc)) (pos:=pos) (p:=p) M8 boot_list w h (λv z H u L Q E G k=>by
  cases E
  cases G with
  | @tup _ q vs I J=>exact⟨q,vs,rfl,.inr (.inl (.inl I)),λl m=>k _ _ (BX m) ⟨l,rfl,m,vs,Ar,J.keep (λb M z=>BX m b _ z) λb M M z=>BX m b _ z⟩⟩) upN B ∅ (by rfl) C
 ext
theorem XJ(l:X.mg "int" = none) (h:VE X A e (rV X.K D.bl) pl) (m:autoParam (Gl X "int") yq0q) (w:autoParam (zSq X e) yq0q):VE X A (.Call (.Name "int" p) [e] [] pos) (zIq X) (pl.bind λx=>some (if x=true then 1 else 0)):=
 Su ZT boot_int l h (λv z H u B Q C E k=>by cases C;cases E;exact .inr ⟨v,rfl,k _ B .refl (.int _)⟩) upV m ∅ (by rfl) w
def TyR(K:AB)(R:Rk α)(T:String):Prop:=∀v H x H',R v H x H'->M9 K H' x (.type T)
theorem tyI:TyR K (rV K D.int) "int":=λv H x H' h=>by cases h;exact .int _
theorem tyT:TyR K (rV K (eT enc)) "tuple":=λv H x H' h=>by cases h with | tup l _=>exact .tup l
theorem tyL:TyR K (rO K (oL enc)) "list":=λv H x H' ⟨a,h,vs,e,_⟩=>by subst h;exact .lst e
theorem XI{T t:String}{y:Str}{q:Pos}{R:Rk α}{pa:Option α}{r:Bool}(w:TyR X.K R T)(B:∀A b,isB t A=some b->Df X.K (.type A) (.type t)=some b)(C:EK y=some (.type t))(E:X.mg "isinstance" = none) (G:X.mg y=none) (h:VE X A e R pa) (hb:autoParam (isB t T=some r) yq8q) (I:autoParam (Gl X "isinstance") yq0q) (l:autoParam (Gl X y) yq0q) (J:autoParam (y≠"__name__") yq1q) (L:autoParam ((y==("__debug__" : Str))=false) yq1q) (m:autoParam (AH [e,.Name y q] X.env=(false,A6 e X.env) :: AH [.Name y q] X.env) yq0q) (N:autoParam (AH [.Name y q] X.env=(false,A6 (.Name y q) X.env) :: AH [] X.env) yq0q) (O:autoParam ((Cu pos (AH [.Name y q] X.env)).any (·.1)=false) yq0q) :
  VE X A (.Call (.Name "isinstance" p) [e,.Name y q] [] pos) (rV X.K D.bl) (pa.bind λM=>some r):=λv P=>by
 obtain⟨x,S,U⟩:=AR P;cases U
 exact(QA (dG (c:=.ty t) λM r=>r) I E rS (B3 (h x S) (B3 (gw (v:=.ty t) l G C rfl J L) ET N) m) ∅ (by assumption) m O).imp λσ H Q ⟨Y,F,Z,k⟩=>⟨Y,F,Z,λu H' kp z=>⟨u,_,_,rfl,w _ _ _ _ z,B T _ hb,k _ H' kp (.bl _)⟩⟩
theorem dkF:∀(K:AB) (H:Hp) (a:AL) (l:List (Int×α)) (k:Int) y,OB K H a (oFK enc l)->RD K H (D.int k) y->∃o,K6 H a y o/\(AT l k=none->o=none)/\∀v,AT l k=some v->∃x,o=some x/\RD K H (enc v) x:=by
 rintro K H a l k y ⟨ob,m,B,C⟩ r
 cases r;obtain⟨w,E⟩:=KVR.val (Dq k) C;rw[KZ M5]at w E;refine⟨_,.inl ⟨m,.inl k,.inr ⟨ob,B⟩,rfl,rfl⟩,λe=>w (by rw[e];rfl),λv e=>?_⟩
 ext
theorem aR(C:X.A.units+1 < Bd)(E:VE X A o (rO X.K (oFK enc)) pl)(hi:VE X A i (zIq X) G)(hs:autoParam (ZY i) yq7q):VE X A (.Subscript o i pos) (rV X.K enc) (pl.bind λl=>G.bind λk=>AT l k):=λv m=>by
 obtain⟨l,I,m⟩:=AR m;obtain⟨k,J,L⟩:=AR m
 refine(Xk C (E l I) (hi k J) hs).imp λσ H Q ⟨N,F,hs,q⟩=>ER ⟨N,F,hs,λu w H1 O P B R S=>?_⟩
 obtain⟨a,rfl,T⟩:=R;obtain⟨_,U,_,Y⟩:=dkF _ _ _ _ _ _ (B.ob T) S;obtain⟨x,rfl,Z⟩:=Y v L;exact⟨a,x,rfl,U,q x O (P.trans B) Z⟩
theorem j8(h:PE X e (DX i))(hi:autoParam (A[i]?=some (sy X.K (oFK enc l))) yq0q):VI X A tg e (rd X.K D.int) (some (l.map (·.1))):=λT I=>(gj h).imp<|by
 rintro U H R ⟨Y,F,J,k⟩
 cases I;obtain⟨y,L,N⟩:=J.at hi;obtain⟨a,rfl,_,ob,m,B,O⟩:=N H Kp.refl.fr;refine⟨_,L,a,ob,rfl,.inl ⟨m,B,k _ H .refl λZ H' fe i=>?_⟩⟩;have C:=fe.fr.frz _ _ _ B
 have E:A8 X.K [] H' ((l.map (·.1)).map D.int) (m.map λx=>kV x.1):=by
  have:=(QM O).keep fe.fr.tup fe.fr.frz;rw[Aw]at this;rwa [Aw]
 refine⟨λP=>⟨C,by rw[<-E.length,AF];exact CY.mp P⟩,λv Q=>?_⟩;obtain⟨x,G,S⟩:=E.get (by rw[Ab,Q];rfl);refine⟨⟨C,(AJ.mp G).1⟩,λy H2 w=>?_⟩;obtain⟨rfl,w⟩:=w;rw[G]at w;cases w;exact⟨.refl,λH3 f=>f.rd S⟩
set_option tactic.hygienic true in
theorem fL(h:VR I A J F G H)(L:J[i]?=some (some (.ref a)))(m:∀b,G i b↔b=a)(R:H a=some u)(S:∀xs,u≠.tup xs)(T:∀o z,u≠.frz o z)(N:∀H',Fr F (upd H a (.frz ob u)) H'->P I H' (.ref a)):Vs I (A.set i (.q P)) J F (upd H a (.frz ob u))/\Fe F H F (upd H a (.frz ob u)):=by
 have w:=(h.gn i a ((m a).mpr rfl)).1;have fe:Fe F H F (upd H a (.frz ob u)):=⟨λM z=>z,λb xs e=>by rw[AO (λc=>by ext)];exact e,λb o z e=>by rw[AO (λc=>by ext)];exact e,λb o f e=>by rw[AO (show b≠a from λc=>w (c▸f))];exact e⟩;refine⟨⟨λj=>if j=i then λM=>False else G j,λb o e=>by rw[AO (show b≠a from λc=>w (c▸h.f0 b o e))];exact h.kp b o e,h.f0,λb f=>by rw[AO (show b≠a from λc=>w (c▸f))];exact h.fh b f,λj s B=>?_,λj b z=>?_,λj l b C E=>?_⟩,fe⟩
 ·rcases JY B with⟨rfl,rfl,U⟩ | ⟨c,B⟩
  ·exact⟨_,L,_,rfl,N⟩
  ·obtain⟨x,O,Q⟩:=h.sl j s B
   rw[qY (CO c)];exact⟨x,O,Sl.mono Q fe λb hb=>AO λz=>c (h.ds i j b ((m b).mpr z) hb)⟩
 ·split at z
  ·exact z.elim
  ·rename_i c
   rw[AO λq=>c (h.ds j i b z ((m b).mpr q))];exact h.gn j b z
 ·split at C
  ·exact C.elim
  ·split at E
   ·exact E.elim
   ·exact h.ds j l b C E
theorem om{st:B6}{R:Rk ρ}{q:Option (Fw ρ τ)}{B:τ->List Sl}{l:List (Int×α)}(i:Nat)(h:VS X (A.set i (sy X.K (oFK enc l))) st R q B)(N:autoParam (A[i]?=some (sw X.K (oDK enc l))) yq0q):VS X A st R q B:=by
 rintro f O Q s S H D I ⟨m,F,⟨G,C⟩,k⟩
 obtain⟨y,T,U⟩:=C.atG N
 obtain⟨a,rfl,L,⟨E,J,Y⟩,_⟩:=U H Kp.refl.fr λM M=>rfl
 obtain⟨_,_,us,kv,o,es,ep,Z,_⟩:=(I.hok a _ J)
 have n0:m a=none:=by
  cases e:m a with
  | none=>rfl
  | some u=>exact zX (C.f0 a u e) (C.gn i a (by rw[L])).1
 obtain⟨v1,v2⟩:=fL C (P:=λm H y=>∃a,y=.ref a/\m a=none/\OB X.K H a (oFK enc l)) T (λb=>by rw[L]) J (λM z=>nomatch z) (λM M z=>nomatch z) λH' f=>⟨a,rfl,n0,o,E,f.frz _ _ _ Ar,(TU (λxs z=>by ext) (λo z q=>by ext) Y) |> λz=>Er.mapP z λM M w=>⟨w.1,w.2.keep f.tup f.frz⟩⟩
 exact h f O Q s S _ D (I.fz Z J trivial) (Ms ⟨m,F,F,H,v1,v2,k⟩)
theorem pE(l:List (Int×α))(H:Hp)(x:V)(H':Hp)(h:rO K (oDK enc) l H x H'):VM K x H' (!l.isEmpty):=by
 obtain⟨a,rfl,vs,m,w⟩:=h;refine .inr (.inr ⟨vs,m,?_⟩)
 cases l <;> cases w <;> rfl
end
open L2
open L4 (Fw AR eT eP oL oDK oDP oDR EqN NL G7 LM)
section
variable{X:Cx}{A:List Sl}{e a b o f:Expr}{rest:List Expr}{p pos apos cpos:Pos}{α β κ:Type}{K:AB}{H H':Hp}{enc:α->D}
theorem Vy(h:VE X A a R q):VE X A (.BoolOp op [a] pos) R q:=λv l=>lZ (h v l)
theorem XR(w:VE X A a (rV X.K D.bl) q)(hb:VE X A (.BoolOp .And (b :: rest) pos) (rV X.K D.bl) r):VE X A (.BoolOp .And (a :: b :: rest) pos) (rV X.K D.bl) (q.bind λt=>if t=true then r else some false):=λv E=>by
 obtain⟨t,B,C⟩:=AR E
 cases t with
 | true=>exact(bj (w _ B) (hb v C)).imp (by rintro G H Q ⟨l,F,m,k⟩;exact ⟨l,F,m,λx H' kp r=>by cases r;exact⟨true,rfl,by rw[qX rfl];exact⟨l,_,m.grow kp,λy I J L=>k y I (kp.trans J) L⟩⟩⟩)
 | false=>cases C;exact(bj (w _ B) (tb:=λM M M=>False) (λM M M M M M z=>z.elim)).imp (by rintro G H Q ⟨l,F,m,k⟩;exact ⟨l,F,m,λx H' kp r=>by cases r;exact⟨false,rfl,by rw[qY Av];exact k _ H' kp (.bl _)⟩⟩)
theorem kC(w:VE X A a (rV X.K D.bl) q)(hb:VE X A (.BoolOp .Or (b :: rest) pos) (rV X.K D.bl) r):VE X A (.BoolOp .Or (a :: b :: rest) pos) (rV X.K D.bl) (q.bind λt=>if t=true then some true else r):=λv E=>by
 obtain⟨t,B,C⟩:=AR E
 cases t with
 | false=>exact(jQ (w _ B) (hb v C)).imp λG H Q ⟨l,F,m,k⟩=>⟨l,F,m,λx H' kp r=>by cases r;exact⟨false,rfl,by rw[qY Av];exact⟨l,_,m.grow kp,λy I J L=>k y I (kp.trans J) L⟩⟩⟩
 | true=>cases C;exact(jQ (w _ B) (tb:=λG G G=>False) (λG G G G G G z=>z.elim)).imp λG H Q ⟨l,F,m,k⟩=>⟨l,F,m,λx H' kp r=>by cases r;exact⟨true,rfl,by rw[qX rfl];exact k _ H' kp (.bl _)⟩⟩
theorem XG(l:VE X A a (rV X.K D.bl) q):VE X A (.UnaryOp .Not a pos) (rV X.K D.bl) (q.bind λb=>some (!b)):=λv m=>by
 obtain⟨t,w,B⟩:=AR m;cases B
 exact(lb (l t w)).imp (by rintro G H Q ⟨C,F,E,k⟩;exact ⟨C,F,E,λx H' kp r=>by cases r;exact⟨t,rfl,k _ H' kp (.bl _)⟩⟩)
section
variable[DecidableEq α]{qa:Option α}{ql qk:Option (List α)}
theorem kF(C:OpR X (Bo op) (lK X.K neg))(h:EqN 8 enc)(E:VE X A a (rV X.K enc) qa)(hb:VE X A b (rO X.K (oL enc)) ql)(G:BF op b=false):VE X A (.Compare a [op] [b] pos) (rV X.K D.bl) (qa.bind λx=>ql.bind λl=>some (if neg then !decide (x∈l)else decide (x∈l))):=λv m=>by
 obtain⟨x,I,m⟩:=AR m;obtain⟨l,J,L⟩:=AR m;cases L
 exact(O5 C (E x I) (hb l J) G).imp λZ H Q ⟨N,F,O,q⟩=>ER ⟨N,F,O,λu w H1 P R B S ⟨p,T,vs,U,Y⟩=>⟨_,_,p,vs,_,T,.inl (.inl U),B.rd S,Y,G7 h x l,q _ P (R.trans B) (.bl _)⟩⟩
theorem kG(h:EqN 8 enc)(m:X.A.units+64 < Bd)(w:VE X A a (rV X.K enc) qa)(hb:VE X A b (rO X.K (oL enc)) ql)(B:autoParam (BF .In b=false) yq5q):VE X A (.Compare a [.In] [b] pos) (rV X.K D.bl) (qa.bind λx=>ql.bind λl=>some (decide (x∈l))):=kF (br m) h w hb B
def EI(enc:α->D):Prop:=∀(K:AB) (H:Hp) (v w:α) (x:V),RD K H (enc v) x->RD K H (enc w) x->v=w
theorem jd{u w:V}{x l:List α}{neg:Bool}{k:VK}{z:Bool}(h:EqN 8 enc)(R:EI enc)(S:∃p,u=.ref p/\OB K H p (oL enc x))(T:∃p,w=.ref p/\OB K H p (oL enc l))(q:k (.bl (if neg then !decide (x=l)else decide (x=l))) H):bJ K neg u w H k:=by
 obtain⟨I,rfl,O,J,E⟩:=S;obtain⟨P,rfl,vs,L,N⟩:=T
 by_cases c:I=P
 ·subst c
  have:x=l:=by
   rw[J]at L;cases L
   have U:x.length=l.length:=by have:=E.length.trans N.length.symm;rwa [AF,AF]at this
   refine db U λi B C=>?_
   obtain⟨y,Y,Z⟩:=E.get (by rw[Ab,AI B];rfl);obtain⟨y',Q,e4⟩:=N.get (by rw[Ab,AI C];rfl);rw[Y]at Q;cases Q;exact R K H _ _ y Z e4
  subst this;refine⟨[I],[oL enc x],.ref 0,.ref 0,_,⟨rfl,?_,?_⟩,.ref rfl,.ref rfl,LM h neg rfl rfl,q⟩
  ·intro i j a B C
   match i,j with
   | 0,0=>rfl
   | _+1,_=>simp at B
   | _,_+1=>simp at C
  ·intro n o a m G
   match n with
   | 0=>cases m;cases G;exact⟨O,J,Nb E⟩
   | _+1=>simp at m
 ·refine⟨[I,P],[oL enc x,oL enc l],.ref 0,.ref 1,_,⟨rfl,?_,?_⟩,.ref rfl,.ref rfl,LM h neg rfl rfl,q⟩
  ·intro i j a B C
   match i,j with
   | 0,0=>rfl
   | 1,1=>rfl
   | 0,1=>ext
   | 1,0=>ext
   | _+2,_=>simp at B
   | _,_+2=>simp at C
  ·intro n o a m G
   match n with
   | 0=>cases m;cases G;exact⟨O,J,Nb E⟩
   | 1=>cases m;cases G;exact⟨vs,L,Nb N⟩
   | _+2=>simp at m
theorem fm{op:T2}{neg:Bool}(C:OpR X (Bo op) (bJ X.K neg))(h:EqN 8 enc)(E:EI enc)(G:VE X A a (rO X.K (oL enc)) qk)(hb:VE X A b (rO X.K (oL enc)) ql)(I:BF op b=false):VB X A (.Compare a [op] [b] pos) (qk.bind λx=>ql.bind λl=>some (if neg then !decide (x=l)else decide (x=l))):=λv m=>by
 obtain⟨x,J,m⟩:=AR m;obtain⟨l,L,N⟩:=AR m;cases N
 exact(O0 C (G x J) (hb l L) I).imp λσ H Q ⟨O,F,P,q⟩=>ER ⟨O,F,P,λu w H1 R S B ⟨T,U,Y⟩ Z=>jd (z:=true) h E ⟨T,U,B.ob Y⟩ Z ⟨_,rfl,q R (S.trans B)⟩⟩
theorem fV{op:T2}{neg:Bool}(C:OpR X (Bo op) (bJ X.K neg))(h:EqN 8 enc)(E:EI enc)(G:VE X A a (rO X.K (oL enc)) qk)(hb:VE X A b (rO X.K (oL enc)) ql)(I:BF op b=false):VE X A (.Compare a [op] [b] pos) (rV X.K D.bl) (qk.bind λx=>ql.bind λl=>some (if neg then !decide (x=l)else decide (x=l))):=λv m=>by
 obtain⟨x,J,m⟩:=AR m;obtain⟨l,L,N⟩:=AR m;cases N
 exact(O5 C (G x J) (hb l L) I).imp λσ H Q ⟨O,F,P,q⟩=>ER ⟨O,F,P,λu w H1 R S B ⟨T,U,Y⟩ Z=>jd (z:=true) h E ⟨T,U,B.ob Y⟩ Z (q _ R (S.trans B) (.bl _))⟩
theorem ff(h:EqN 8 enc)(m:EI enc)(w:X.A.units+64 < Bd)(B:VE X A a (rO X.K (oL enc)) qk)(hb:VE X A b (rO X.K (oL enc)) ql):VB X A (.Compare a [.NotEq] [b] pos) (qk.bind λx=>ql.bind λl=>some (!decide (x=l))):=fm (lx w) h m B hb (Gq _)
theorem XN(h:EqN 8 enc)(m:EI enc)(w:X.A.units+64 < Bd)(B:VE X A a (rO X.K (oL enc)) qk)(hb:VE X A b (rO X.K (oL enc)) ql):VE X A (.Compare a [.Eq] [b] pos) (rV X.K D.bl) (qk.bind λx=>ql.bind λl=>some (decide (x=l))):=fV (l0 w) h m B hb (Gq _)
end
theorem Tc:EI D.int:=λK H v w x l m=>by cases l;cases m;rfl
theorem cx(E:EI enc):EI (eT enc):=λK H v w x G I=>by
 cases G with
 | @tup _ a S J l=>cases I with
  | @tup _ _ vs m B=>
   rw[J]at m;cases m
   have L:v.length=w.length:=by have:=l.length.trans B.length.symm;rwa [AF,AF]at this
   refine db L λi N O=>?_
   obtain⟨y,P,Q⟩:=l.get (by rw[Ab,AI N];rfl);obtain⟨T,C,R⟩:=B.get (by rw[Ab,AI O];rfl);rw[P]at C;cases C;exact E K H _ _ y Q R
theorem iX(C:EI enc)(E:EI eb):EI (eP enc eb):=λK H v w x G I=>by
 cases G with
 | @tup _ a Q J l=>cases I with
  | @tup _ _ vs B m=>
   rw[J]at B;cases B
   cases l with
   | cons L l=>cases l with
    | cons N l=>cases m with
     | cons O m=>cases m with
      | cons P m=>exact RZ (C _ _ _ _ _ L O) (E _ _ _ _ _ N P)
theorem mT{ob:List (κ×β)->Ob}{l:List (κ×β)}{a:AL}(C:(∃m,ob l=.dK m)∨∃m,ob l=.dT m)(h:OB K H a (ob l)):IsD H a:=by
 rcases C with⟨m,e⟩ | ⟨m,e⟩
 ·rw[e]at h;obtain⟨w,B,_⟩:=h;exact .inl ⟨w,.inl B⟩
 ·rw[e]at h;obtain⟨w,B,_⟩:=h;exact .inr ⟨w,.inl B⟩
theorem fS[DecidableEq κ]{ob:List (κ×β)->Ob}{J:κ->D}{eb:β->D}{pl:Option (List (κ×β))}{L:Option κ}{N:Option β}(d:N1 ob J eb)(P:∀l,(∃m,ob l=.dK m)∨∃m,ob l=.dT m)(R:X.A.units+1 < Bd)(S:VE X A o (rO X.K ob) pl)(T:VE X A e (rV X.K J) L)(U:VE X A f (rV X.K eb) N)(Y:M2 X o "get" apos e f cpos:=by exact⟨rfl,rfl,rfl,rfl⟩) :
  VE X A (.Call (.Attribute o "get" apos) [e,f] [] cpos) (rV X.K eb) (pl.bind λl=>L.bind λk=>N.bind λz=>some ((AT l k).getD z)):=λv Z=>by
 obtain⟨l,h1,vH⟩:=AR Z;obtain⟨k,h2,uY⟩:=AR vH;obtain⟨z,h3,h4⟩:=AR uY;cases h4
 refine(bg R (S l h1) (T k h2) (U z h3) Y).imp λσ H Q ⟨B,F,C,q⟩=>⟨B,F,C,λx H1 E ⟨a,e1,O⟩=>⟨a,e1,mT (P l) O,B,_,C.grow E,λy H2 G r2=>⟨B,_,(C.grow E).grow G,λw H3 I r3=>?_⟩⟩⟩
 obtain⟨o',g1,g0,g2⟩:=d.get _ _ _ _ _ _ ((G.trans I).ob O) (I.rd r2);refine⟨o',g1,q _ H3 (E.trans (G.trans I)) ?_⟩
 cases e:AT l k with
 | none=>rw[g0 e];exact r3
 | some u=>obtain⟨x',rfl,g3⟩:=g2 u e;exact g3
end
open L2
open L4 (Fw AR eT eP oL oDK oDP oDR)
section
variable{X:Cx}{A:List Sl}{e o i:Expr}{pos:Pos}{α β κ:Type}
theorem pgn(i:Nat)(l:X.N.Nodup)(hi:autoParam (X.N[i]?=some x) yq0q)(m:autoParam (Loc X.env.scope x) yq4q)(w:autoParam (zFn X x) yq3q):PG X (.Name x pos) (IT i):=gm l hi m w
section
theorem Ox(h:VE X A e (zIq X) q)(m:autoParam (∀l,KG e X.env l=(do let v <-l;Ir e.pos;Fn [v] (NE v))) yq2q):VB X A e (q.bind λv=>some (v != 0)):=Ph h truI m
theorem fb(h:VE X A e (rV X.K (eT enc)) q)(m:autoParam (∀l,KG e X.env l=(do let v <-l;Ir e.pos;Fn [v] (NE v))) yq2q):VB X A e (q.bind λv=>some (!v.isEmpty)):=Ph h truT m
theorem fc(h:VE X A e (rO X.K (oL enc)) q)(m:autoParam (∀l,KG e X.env l=(do let v <-l;Ir e.pos;Fn [v] (NE v))) yq2q):VB X A e (q.bind λv=>some (!v.isEmpty)):=Ph h truL m
theorem aW(h:VE X A e (rO X.K (oDK enc)) q)(m:autoParam (∀l,KG e X.env l=(do let v <-l;Ir e.pos;Fn [v] (NE v))) yq2q):VB X A e (q.bind λv=>some (!v.isEmpty)):=Ph h pE m
end
theorem vv{x:Str}{enc:α->D}{v:α}(i:Nat)(l:autoParam (X.N[i]?=some x) yq0q)(m:autoParam (Vis X.env.scope x) yq13q)(w:autoParam ((x==("__debug__" : Str))=false) yq1q) (B:autoParam ((x==("__classdict__" : Str))=false) yq1q) (hi:autoParam (A[i]?=some (sv X.K (enc v))) yq0q):VE X A (.Name x pos) (rV X.K enc) (some v):=aH (pv i l m w B) hi
theorem Cc{β:Type}{es:List Expr}{enc:α->D}{pa:Option α}{l:Option β}{m:β->List (Hp->V->Prop)}(w:VE X A e (rV X.K enc) pa)(hb:VA X A es l m)(hs:autoParam (zSp X e es) yq0q):VA X A (e :: es) (pa.bind λx=>l.bind λy=>some (x,y)) (λz=>(λH u=>RD X.K H (enc z.1) u) :: m z.2):=Cn w arV hb hs
theorem Do{ρ l:Type}{st:B6}{R:Rk ρ}{p:Option (L4.Fw ρ l)}{B C:l->List Sl}(h:VS X A st R p B)(w:∀s,Wk (B s) (C s)):VS X A st R (L4.BW (λs=>s) p) C:=Gi h w
abbrev aV(K:AB)(d:D):Hp->V->Prop:=λH y=>RD K H d y
abbrev aO(K:AB)(o:Ob):Hp->V->Prop:=λH y=>∃a,y=.ref a/\OB K H a o
theorem Cy(h:VE X A e R q)(l:autoParam (q=q') yq0q):VE X A e R q':=l▸h
theorem kK[DecidableEq α]{enc:α->D}{a b:Expr}{m:Option α}{q:Option (α×α)}(h:L4.EqN 8 enc)(w:X.A.units+64 < Bd)(B:VE X A a (rV X.K enc) m)(hb:VE X A b (rV X.K (eP enc enc)) q)(C:autoParam (BF .In b=false) yq5q):VB X A (.Compare a [.In] [b] pos) (m.bind λx=>q.bind λy=>some (decide (x∈[y.1,y.2]))):=UR (jR w) (λx l z q=>by cases q;exact Wc h false x [l.1,l.2]) B hb C
section
variable[DecidableEq κ]{ob:List (κ×β)->Ob}{ek:κ->D}{eb:β->D}{pl:Option (List (κ×β))}{pk:Option κ}
theorem some_of{l:List (κ×β)}{k:κ}{K:AB}{H:Hp}{o':Option V}(m:AT l k=none->o'=none)(w:∀v,AT l k=some v->∃x,o'=some x/\RD K H (eb v) x):o'.isSome=(AT l k).isSome:=by
 cases e:AT l k with
 | none=>rw[m e];rfl
 | some v=>obtain⟨x,rfl,_⟩:=w v e;rfl
theorem fW(d:N1 ob ek eb)(C:X.A.units+1 < Bd)(hi:VE X A i (rV X.K ek) pk)(E:VE X A o (rO X.K ob) pl)(G:autoParam (BF .NotIn o=false) yq5q):VE X A (.Compare i [.NotIn] [o] pos) (rV X.K D.bl) (pk.bind λk=>pl.bind λl=>some (!(AT l k).isSome)):=λv m=>by
 obtain⟨k,I,m⟩:=AR m;obtain⟨l,J,L⟩:=AR m;cases L
 refine(lg (Ry C (hi k I) (E l J)) G).imp λσ H Q ⟨N,F,O,q⟩=>ER ⟨N,F,O,λu w H1 P R B S T=>?_⟩
 obtain⟨a,rfl,U⟩:=T;obtain⟨Y,Z,g0,g2⟩:=d.get _ _ _ _ _ _ U (B.rd S);exact⟨a,Y,rfl,Z,by rw[some_of g0 g2];exact q _ P (R.trans B) (.bl _)⟩
end
end
end L7
namespace L4
open L2
section
variable{κ α:Type}[DecidableEq κ]
set_option tactic.hygienic true in
theorem CG(l:List (κ×α))(k:κ)(v:α)(k':κ):AT (Cm l k v) k'=if k'=k then some v else AT l k':=by
 have m:∀l:List (κ×α),AT (l.map λo=>if o.1=k then(o.1,v)else o) k'=if k'=k then(AT l k').map (λG=>v)else AT l k':=by
  intro l
  induction l with
  | nil=>unfold AT;simp
  | cons x l w=>
   unfold AT at w ⊢
   grind
 unfold Cm;split
 ·rename_i h
  rw[m]
  by_cases c:k'=k
  ·rw[qX c,qX c]
   subst c
   have:(AT l k').isSome=true:=by
    unfold AT;rw[GN,List.find?_isSome];obtain⟨x,A,B⟩:=HA.mp h;exact⟨x,A,B⟩
   obtain⟨b,hb⟩:=DF.mp this;rw[hb];rfl
  ext
 ·rename_i h
  unfold AT
  grind
theorem GC(l:List (κ×α))(k:κ)(v:α):(Cm l k v).map (·.1)=if k∈l.map (·.1)then l.map (·.1)else l.map (·.1)++[k]:=by
 have o:(l.any λw=>decide (w.1=k))=true↔k∈l.map (·.1):=by
  rw[HA,Ax];exact⟨by rintro ⟨x,m,e⟩;exact ⟨x,m,of_decide_eq_true e⟩,by rintro ⟨x,m,e⟩;exact ⟨x,m,wX e⟩⟩
 unfold Cm
 by_cases c:k∈l.map (·.1)
 ·rw[qX c,qX (o.mpr c),Aw]
  refine By λx G=>?_
  show(if x.1=k then(x.1,v)else x).1=x.1
  split <;> rfl
 ext
theorem C7(l:List (κ×α))(k:κ):(AT l k).isSome=true↔k∈l.map (·.1):=by
 unfold AT
 ext
end
noncomputable def hb(bits x:Int):Bool:=BE (bits / 2 ^ x.toNat) 1 != 0
abbrev HL:=List ZPi
abbrev QL:=List (Int×Bool)
def OO(st:HL->Int->QL->Option (Bool×HL×QL))(g:Int):ZLi->HL->QL->Option (Bool×HL×QL)
 | [],H,Q=>some (false,H,Q)
 | x :: r,H,Q=>if (AT Q x).isSome=true then OO st g r H Q else(B2 Q x true).bind λl=>(AT H x).bind λm=>(st H m l).bind λz=>if z.1=true then(B2 z.2.1 x g).bind λo=>some (true,o,z.2.2)else OO st g r z.2.1 z.2.2
def Gw(T:Int->ZLi)(bits:Int):Nat->HL->Int->QL->Option (Bool×HL×QL)
 | 0,_,_,_=>none
 | n+1,H,g,Q=>match((T g).filter λx=>hb bits x&&!(AT Q x).isSome).find? (λx=>!(AT H x).isSome)with
  | some x=>(B2 H x g).bind λl=>some (true,l,Q)
  | none=>OO (Gw T bits n) g ((T g).filter λx=>hb bits x&&!(AT Q x).isSome) H Q
section
abbrev w0(T:Int->ZLi)(bits g:Int):ZLi:=(T g).filter (hb bits)
structure KOk{α:Type}(U:ZLi)(l:List (Int×α)):Prop where
 nd:(l.map (·.1)).Nodup
 sub:∀x∈l.map (·.1),x∈U
theorem KOk.len{m:Type}{l:List (Int×m)}(h:KOk U l):l.length<=U.length:=by
 have:=Gr h.nd h.sub;ext
theorem KOk.put{o:Type}{l:List (Int×o)}(h:KOk U l){x:Int}(A:x∈U)(v:o):KOk U (Cm l x v):=by
 by_cases c:x∈l.map (·.1)
 ·exact⟨by rw[GC,qX c];exact h.nd,by rw[GC,qX c];exact h.sub⟩
 ·refine⟨?_,?_⟩
  ·rw[GC,qY c]
   unfold IH;rw[BC];exact⟨h.nd,by simp,λa B b w z=>c (by grind)⟩
  ·rw[GC,qY c]
   intro y m
   rcases Ak.mp m with m | m
   ·exact h.sub y m
   ext
theorem KOk.more{m:Type}{l:List (Int×m)}{x:Int}(c:(AT l x).isSome=false)(v:m):(Cm l x v).length=l.length+1:=by
 have o:x∉l.map (·.1):=λz=>by rw[(C7 l x).mpr z]at c;cases c
 have:=congrArg Dg (GC l x v);rw[qY o,AF,AS,AF]at this;exact this
def MOn(T:Int->ZLi)(bits:Int)(P:Int->Prop)(H:HL):Prop:=(∀x,P x->∀a,AT H x=some a->x∈w0 T bits a)/\∀x y a,P x->P y->AT H x=some a->AT H y=some a->x=y
abbrev sn(Q:QL)(x:Int):Prop:=(AT Q x).isSome=true
def Good(T:Int->ZLi)(bits:Int)(H:HL)(g:Int)(Q:QL)(H':HL):Prop:=
 (∀x,sn Q x->AT H' x=AT H x)/\(MOn T bits (λx=>¬sn Q x) H->(∀x,¬sn Q x->AT H x≠some g)->MOn T bits (λx=>¬sn Q x) H'/\∀a,(∃x,¬sn Q x/\AT H' x=some a)↔a=g∨∃x,¬sn Q x/\AT H x=some a)
def Clo(T:Int->ZLi)(bits:Int)(H:HL)(Q l:QL):Prop:=∀x,sn l x->sn Q x∨∃a,AT H x=some a/\∀y∈w0 T bits a,sn l y
structure qt(T:Int->ZLi)(bits:Int)(U:ZLi)(Gd:Int->Prop)(H:HL)(g:Int)(Q:QL)(z:Bool×HL×QL):Prop where
 h1:KOk U z.2.1
 h2:KOk U z.2.2
 h3:∀x a,AT z.2.1 x=some a->Gd a
 h4:∀x,sn Q x->sn z.2.2 x
 h5:z.1=false->z.2.1=H/\(∀x∈w0 T bits g,sn z.2.2 x)/\Clo T bits H Q z.2.2
 h6:z.1=true->Good T bits H g Q z.2.1
theorem S8{m:Type}{l:List (Int×m)}(h:KOk U l)(o:U.length < 1000000)(x:Int)(v:m):B2 l x v=some (Cm l x v):=qX (IY h.len o)
theorem Ic:sn (Cm Q x true) y↔y=x∨sn Q y:=by
 unfold sn;rw[CG]
 grind
theorem Ub(hT:∀g,Gd g->∀x∈T g,x∈U)(hU:U.length < 1000000):∀(n:Nat) (H:HL) (g:Int) (Q:QL),KOk U H->KOk U Q->(∀x a,AT H x=some a->Gd a)->Gd g->U.length < n+Q.length->Ok (Gw T bits n H g Q) (qt T bits U Gd H g Q):=by
 intro n
 induction n with
 | zero=>intro H g Q hH hQ hG hg hn;exact zX hQ.len (by ext)
 | succ n ih=>
  intro H g Q hH hQ hG hg hn;unfold Gw
  have wm:∀x,x∈(T g).filter (λx=>hb bits x&&!(AT Q x).isSome)↔x∈w0 T bits g/\¬sn Q x:=by
   intro x;unfold w0 sn;rw[Az,Az]
   cases AT Q x <;> simp
  generalize (T g).filter (λx=>hb bits x&&!(AT Q x).isSome)=w at wm
  have wU:∀x∈w,x∈U:=λx O=>hT g hg x (Az.mp ((wm x).mp O).1).1
  cases hf:w.find? (λx=>!(AT H x).isSome)with
  | some x=>
   have O:=SU hf
   have xo:AT H x=none:=by
    have:=eD hf
    cases q:AT H x with
    | none=>rfl
    | some a=>ext
   obtain⟨x1,S⟩:=(wm x).mp O;show Ok ((B2 H x g).bind _) _;rw[S8 hH hU];refine .pure ⟨hH.put (wU x O) g,hQ,λy a l=>?_,λM h=>h,λz=>(by cases z),λM=>⟨λy l=>?_,λm ng=>⟨⟨λy l a e=>?_,λy z a l N e1 L=>?_⟩,λa=>⟨?_,?_⟩⟩⟩⟩
   ·rw[show AT (true,Cm H x g,Q).2.1 y=if y=x then some g else AT H y from CG _ _ _ _]at l
    grind
   ·rw[CG,qY λc:y=x=>S ∅]
   ·rw[show AT (true,Cm H x g,Q).2.1 y=if y=x then some g else AT H y from CG _ _ _ _]at e
    split at e
    ·lia
    ·exact m.1 y l a e
   ·rw[show AT (true,Cm H x g,Q).2.1 y=if y=x then some g else AT H y from CG _ _ _ _]at e1
    rw[show AT (true,Cm H x g,Q).2.1 z=if z=x then some g else AT H z from CG _ _ _ _]at L;split at e1
    ·ext
    ·split at L
     ·ext
     ·exact m.2 y z a l N e1 L
   ·rintro⟨y,l,e⟩
    rw[show AT (true,Cm H x g,Q).2.1 y=if y=x then some g else AT H y from CG _ _ _ _]at e;split at e
    ·ext
    ·exact .inr ⟨y,l,e⟩
   ·rintro(rfl | ⟨y,l,e⟩)
    ·exact⟨x,S,by show AT (Cm H x a) x=_;rw[CG,qX rfl]⟩
    ·refine⟨y,l,?_⟩
     rw[CG,qY λc=>by ext];exact e
  | none=>
   have held:∀x∈w,∃a,AT H x=some a:=by
    intro x O;have:=Zk.mp hf x O
    cases q:AT H x with
    | none=>ext
    | some a=>ext
   have key:∀(r:ZLi) (C:QL),(∀x∈r,x∈w)->KOk U C->(∀x,sn Q x->sn C x)->Q.length<=C.length->Clo T bits H Q C->(∀x∈w,x∈r∨sn C x)->Ok (OO (Gw T bits n) g r H C) (qt T bits U Gd H g Q):=by
    intro r
    induction r with
    | nil=>
     intro C _ wW X hl hc hw;refine .pure ⟨hH,wW,hG,X,λM=>⟨rfl,λx O=>?_,hc⟩,λz=>(by cases z)⟩
     grind
    | cons x r ih2=>
     intro C hr wW X hl hc hw;unfold OO
     by_cases c:(AT C x).isSome=true
     ·rw[qX c]
      refine ih2 C (λy l=>hr y (AM _ l)) wW X hl hc λy l=>?_
      grind
     ·rw[qY c,S8 wW hU]
      have yJ:=hr x AW;obtain⟨x1,S⟩:=(wm x).mp yJ;obtain⟨a,P⟩:=held x yJ;have hQ1:=wW.put (wU x yJ) true;have mI:=KOk.more (by cases q:(AT C x).isSome;rfl;trivial) true;obtain⟨z,ez,N⟩:=ih H a (Cm C x true) hH hQ1 hG (hG x a P) ∅;rw[P];show Ok ((Gw T bits n H a (Cm C x true)).bind _) _;rw[ez];show Ok (if z.1=true then _ else _) _
      cases hb':z.1 with
      | true=>
       rw[qX rfl,S8 N.h1 hU];obtain⟨g1,g2⟩:=N.h6 hb';refine .pure ⟨N.h1.put (wU x yJ) g,N.h2,λy b l=>?_,λy l=>N.h4 y (Ic.mpr (.inr (X y l))),λq=>(by cases q),λM=>⟨λy l=>?_,λm ng=>?_⟩⟩
       ·rw[show AT (true,Cm z.2.1 x g,z.2.2).2.1 y=if y=x then some g else AT z.2.1 y from CG _ _ _ _]at l
        split at l
        ·ext
        ·exact N.h3 y b l
       ·rw[CG,qY λq:y=x=>S ∅]
        exact g1 y (Ic.mpr (.inr (X y l)))
       ·have E:∀y,¬sn (Cm C x true) y->¬sn Q y/\y≠x/\¬sn C y:=λy l=>⟨λq=>l (Ic.mpr (.inr (X y q))),λq=>l (Ic.mpr (.inl q)),λq=>l (Ic.mpr (.inr q))⟩
        obtain⟨m1,Y⟩:=g2 ⟨λy l b e=>m.1 y (E y l).1 b e,λy o b l G e B=>m.2 y o b (E y l).1 (E o G).1 e B⟩ λy l e=>(E y l).2.1 (m.2 y x a (E y l).1 S e P)
        have A:∀y,y=x∨(y≠x/\AT z.2.1 y=AT H y/\sn C y)∨¬sn (Cm C x true) y:=λy=>by
         by_cases q:y=x
         ·exact .inl q
         ·by_cases Z:sn C y
          ·exact .inr (.inl ⟨q,g1 y (Ic.mpr (.inr Z)),Z⟩)
          ·exact .inr (.inr λq3=>(Ic.mp q3).elim q Z)
        have I:∀y,y≠x->AT (Cm z.2.1 x g) y=AT z.2.1 y:=λy q=>by rw[CG,qY q]
        have zW:AT (Cm z.2.1 x g) x=some g:=by rw[CG,qX rfl]
        refine⟨⟨λy l b e=>?_,λy o b l G e B=>?_⟩,λb=>⟨?_,?_⟩⟩
        ·rcases A y with rfl | ⟨q,q1,Z⟩ | q
         ·lia
         ·rw[I y q,q1]at e;exact m.1 y l b e
         ·rw[I y (E y q).2.1]at e;exact m1.1 y q b e
        ·rcases A y with rfl | ⟨q,q1,Z⟩ | q
         ·rw[zW]at e
          cases e
          rcases A o with rfl | ⟨p,p1,R⟩ | p
          ·rfl
          ·rw[I o p,p1]at B;exact zX B (ng o G)
          ·rw[I o (E o p).2.1]at B
           rcases(Y g).mp ⟨o,p,B⟩with rfl | ⟨J,R,L⟩
           ·exact zX P (ng y l)
           ·exact zX L (ng J (E J R).1)
         ·rw[I y q,q1]at e
          rcases A o with rfl | ⟨p,p1,R⟩ | p
          ·ext
          ·rw[I o p,p1]at B;exact m.2 y o b l G e B
          ·rw[I o (E o p).2.1]at B
           rcases(Y b).mp ⟨o,p,B⟩with rfl | ⟨J,R,L⟩
           ·exact zX (m.2 y x b l S e P) q
           ·have:=m.2 y J b l (E J R).1 e L
            grind
         ·rw[I y (E y q).2.1]at e
          rcases A o with rfl | ⟨p,p1,R⟩ | p
          ·rw[zW]at B
           cases B
           rcases(Y g).mp ⟨y,q,e⟩with rfl | ⟨J,R,L⟩
           ·exact zX P (ng o G)
           ·exact zX L (ng J (E J R).1)
          ·rw[I o p,p1]at B
           rcases(Y b).mp ⟨y,q,e⟩with rfl | ⟨J,p3,L⟩
           ·exact zX (m.2 o x b G S B P) p
           ·have:=m.2 o J b G (E J p3).1 B L
            grind
          ·rw[I o (E o p).2.1]at B
           exact m1.2 y o b q p e B
        ·rintro⟨y,l,e⟩
         rcases A y with rfl | ⟨q,q1,Z⟩ | q
         ·ext
         ·rw[I y q,q1]at e;exact .inr ⟨y,l,e⟩
         ·rw[I y (E y q).2.1]at e
          rcases(Y b).mp ⟨y,q,e⟩with rfl | ⟨J,R,L⟩
          ·exact .inr ⟨x,S,P⟩
          ·exact .inr ⟨J,(E J R).1,L⟩
        ·rintro(rfl | ⟨y,l,e⟩)
         ·exact⟨x,S,zW⟩
         ·rcases A y with rfl | ⟨q,q1,Z⟩ | q
          ·rw[P]at e
           cases e;obtain⟨o,p,B⟩:=(Y a).mpr (.inl rfl);exact⟨o,(E o p).1,by rw[I o (E o p).2.1];exact B⟩
          ·exact⟨y,l,by rw[I y q,q1];exact e⟩
          ·obtain⟨o,p,B⟩:=(Y b).mpr (.inr ⟨y,q,e⟩)
           exact⟨o,(E o p).1,by rw[I o (E o p).2.1];exact B⟩
      | false=>
       rw[qY Av];obtain⟨f1,f2,f3⟩:=N.h5 hb';rw[f1]
       have up:∀y,sn C y->sn z.2.2 y:=λy l=>N.h4 y (Ic.mpr (.inr l))
       refine ih2 z.2.2 (λy l=>hr y (AM _ l)) N.h2 (λy l=>up y (X y l)) ?_ (λy l=>?_) λy l=>?_
       ·have h1:∀k∈C.map (·.1),k∈z.2.2.map (·.1):=λk hk=>(C7 _ _).mp (up k ((C7 _ _).mpr hk))
        have:=Gr wW.nd h1;rw[AF,AF]at this
        lia
       ·rcases f3 y l with h | h
        ·rcases Ic.mp h with rfl | h
         ·exact .inr ⟨a,P,f2⟩
         ·rcases hc y h with h | ⟨b,e,k⟩
          ·exact .inl h
          ·exact .inr ⟨b,e,λo G=>up o (k o G)⟩
        ·exact .inr h
       ·rcases hw y l with h | h
        ·rcases Aj.mp h with rfl | h
         ·exact .inr (N.h4 _ (Ic.mpr (.inl rfl)))
         ·exact .inl h
        ·exact .inr (up y h)
   exact key w Q (λM h=>h) hQ (λM h=>h) (AN _) (λx O=>.inl O) λx O=>.inl O
end
def OC(bits:Int):ZLi->HL->Option HL
 | [],H=>some H
 | g :: r,H=>if hb bits g=true then(B2 H g g).bind λl=>OC bits r l else OC bits r H
def OJ(T:Int->ZLi)(bits:Int)(n:Nat):ZLi->HL->Option Bool
 | [],_=>some true
 | g :: r,H=>if hb bits g=true then OJ T bits n r H else(Gw T bits n H g []).bind λz=>if z.1=true then OJ T bits n r z.2.1 else some false
def QS(T:Int->ZLi)(bits:Int)(n:Nat)(l:ZLi):Option Bool:=(OC bits l []).bind λH=>OJ T bits n l H
def Sdr(T:Int->ZLi)(bits:Int)(l:ZLi):Prop:=∃f:Int->Int,(∀g∈l,f g∈w0 T bits g)/\∀a∈l,∀b∈l,f a=f b->a=b
section
variable{T:Int->ZLi}{bits:Int}{U:ZLi}{Gd:Int->Prop}
theorem Yh(o:U.length < 1000000):∀(l:ZLi) (H:HL),(∀g∈l,g∈U)->KOk U H->Ok (OC bits l H) λH'=>KOk U H'/\∀x,AT H' x=if x∈l/\hb bits x=true then some x else AT H x:=by
 intro l
 induction l with
 | nil=>intro H _ h;exact .pure ⟨h,λx=>by rfl⟩
 | cons g l w=>
  intro H m h;unfold OC
  cases c:hb bits g with
  | true=>
   rw[qX rfl,S8 h o]
   refine(w (Cm H g g) (λy A=>m y (AM _ A)) (h.put (m g AW) g)).imp λH' ⟨B,C⟩=>⟨B,λx=>?_⟩
   rw[C x,CG]
   grind
  | false=>
   grind
theorem cA{l:Type}:KOk U ([]:List (Int×l)):=⟨GV,λG h=>(nomatch h)⟩
theorem Yp(hT:∀g,Gd g->∀x∈T g,x∈U)(hU:U.length < 1000000)(hn:U.length < n)(hg:∀g∈gs,Gd g)(uv:gs.Nodup):∀(r pre:ZLi) (H:HL),gs=pre++r->KOk U H->(∀x a,AT H x=some a->Gd a)->MOn T bits (λM=>True) H->(∀a,(∃x,AT H x=some a)↔a∈gs/\(a∈pre∨hb bits a=true))->Ok (OJ T bits n r H) λb=>b=true↔Sdr T bits gs:=by
 intro r
 induction r with
 | nil=>
  intro pre H e O P E w;rw[BO]at e;subst e;refine .pure ⟨λM=>?_,λM=>rfl⟩
  have I:∀a:Int,∃x:Int,a∈gs->AT H x=some a:=λa=>by
   by_cases c:a∈gs
   ·obtain⟨x,l⟩:=(w a).mpr ⟨c,.inl c⟩
    exact⟨x,λM=>l⟩
   ·exact⟨0,λz=>zX z c⟩
  refine⟨λa=>GR (I a),λa R=>E.1 _ trivial a (JR (I a) R),λa R b A e=>?_⟩
  grind
 | cons g r S=>
  intro pre H e O P E w
  have N:g∈gs:=by rw[e];simp
  have hgp:g∉pre:=λz=>by
   grind
  unfold OJ
  cases c:hb bits g with
  | true=>
   rw[qX rfl]
   refine S (pre++[g]) H (by rw[e];simp) O P E λa=>?_
   rw[w a]
   grind
  | false=>
   rw[qY Av];obtain⟨z,ez,J⟩:=Ub hT hU n H g [] O cA P (hg g N) (by simpa using hn);rw[ez];show Ok (if z.1=true then _ else _) _
   have B:∀x,¬sn ([]:QL) x:=λx h=>by unfold sn at h;cases h
   have Y:∀x,AT H x≠some g:=λx q=>by
    grind
   cases A:z.1 with
   | true=>
    rw[qX rfl];obtain⟨-,g2⟩:=J.h6 A
    obtain⟨Z,m2⟩:=g2 ⟨λx M a q=>E.1 x trivial a q,λx y a M M q L=>E.2 x y a trivial trivial q L⟩ λx M=>Y x
    refine S (pre++[g]) z.2.1 (by rw[e];simp) J.h1 J.h3 ⟨λx M a q=>Z.1 x (B x) a q,λx y a M M q L=>Z.2 x y a (B x) (B y) q L⟩ λa=>?_
    constructor
    ·rintro⟨x,l⟩
     rcases(m2 a).mp ⟨x,B x,l⟩with rfl | ⟨y,_,C⟩
     ·exact⟨N,.inl ∅⟩
     grind
    ·rintro⟨q1,o⟩
     have:a=g∨∃x,¬sn ([]:QL) x/\AT H x=some a:=by
      rcases o with o | o
      ·rcases Ak.mp o with o | o
       ·obtain⟨x,l⟩:=(w a).mpr ⟨q1,.inl o⟩
        exact .inr ⟨x,B x,l⟩
       ·exact .inl (Au.mp o)
      ·obtain⟨x,l⟩:=(w a).mpr ⟨q1,.inr o⟩
       exact .inr ⟨x,B x,l⟩
     obtain⟨x,_,l⟩:=(m2 a).mpr this
     grind
   | false=>
    rw[qY Av];obtain⟨f1,f2,f3⟩:=J.h5 A;refine .pure ⟨λq=>(by cases q),?_⟩;rintro⟨f,fw,fi⟩
    exfalso
    have X:=z.2.2.map (·.1)
    have hold:∀x∈z.2.2.map (·.1),∃a,AT H x=some a/\∀y∈w0 T bits a,sn z.2.2 y:=λx l=>by
     rcases f3 x ((C7 _ _).mpr l)with h | h
     ·exact zX h (B x)
     ·exact h
    have I:∀x:Int,∃a:Int,x∈z.2.2.map (·.1)->AT H x=some a/\∀y∈w0 T bits a,sn z.2.2 y:=λx=>by
     by_cases q:x∈z.2.2.map (·.1)
     ·obtain⟨a,h⟩:=hold x q
      exact⟨a,λM=>h⟩
     ·exact⟨0,λL=>zX L q⟩
    have hc:=λx=>JR (I x)
    generalize hh:(λx=>GR (I x))=h at hc
    have G:∀x∈z.2.2.map (·.1),AT H x=some (h x)/\∀y∈w0 T bits (h x),sn z.2.2 y:=λx l=>by rw[<-hh];exact hc x l
    have nd:(f g :: (z.2.2.map (·.1)).map λx=>f (h x)).Nodup:=by
     rw[BJ]
     have m:∀x∈z.2.2.map (·.1),h x∈gs:=λx l=>((w (h x)).mp ⟨x,(G x l).1⟩).1
     refine⟨λq=>?_,?_⟩
     ·obtain⟨x,l,Q⟩:=Ax.mp q
      have:=fi (h x) (m x l) g N Q;exact Y x (by rw[(G x l).1,this])
     ·unfold IH
      rw[BN]
      refine J.h2.nd.imp_of_mem λ{x y} l C ne Q=>ne ?_
      have:=fi (h x) (m x l) (h y) (m y C) Q;exact E.2 x y (h x) trivial trivial (G x l).1 (by rw[this];exact(G y C).1)
    have sub:∀y∈(f g :: (z.2.2.map (·.1)).map λx=>f (h x)),y∈z.2.2.map (·.1):=by
     intro y C
     rcases Aj.mp C with rfl | C
     ·exact(C7 _ _).mp (f2 _ (fw g N))
     ·obtain⟨x,l,rfl⟩:=Ax.mp C
      exact(C7 _ _).mp ((G x l).2 _ (fw _ ((w (h x)).mp ⟨x,(G x l).1⟩).1))
    have:=Gr nd sub;rw[Am,AF]at this;lia
set_option tactic.hygienic true in
theorem ZE(A:∀g,Gd g->∀x∈T g,x∈U)(B:U.length < 1000000)(C:U.length < n)(l:∀g∈gs,Gd g/\g∈T g)(E:gs.Nodup):Ok (QS T bits n gs) λb=>b=true↔Sdr T bits gs:=by
 unfold QS
 refine(Yh B gs [] (λg h=>A g (l g h).1 g (l g h).2) cA).bind λH ⟨G,I⟩=>?_
 have m:∀x a,AT H x=some a->a=x/\x∈gs/\hb bits x=true:=λx a e=>by
  rw[I x]at e;split at e
  ·rename_i q;cases e;exact⟨rfl,q⟩
  ·cases e
 refine Yp A B C (λg h=>(l g h).1) E gs [] H rfl G (λx a e=>?_) ⟨λx M a e=>?_,λx y a M M e J=>?_⟩ λa=>⟨?_,?_⟩
 ·obtain⟨rfl,q,_⟩:=m x a e;exact(l _ q).1
 ·obtain⟨rfl,o,w⟩:=m x a e
  exact Az.mpr ⟨(l _ o).2,w⟩
 ·rw[<-(m x a e).1,<-(m y a J).1]
 ·rintro⟨x,e⟩
  obtain⟨rfl,o,w⟩:=m x a e;exact⟨o,.inr w⟩
 grind
end
end L4
namespace L7
open L2
open L4 (Fw AR eT eP oL oDK)
section
variable{X:Cx}{A:List Sl}{e a b c:Expr}{pos:Pos}{α ρ τ τ':Type}{K:AB}{H H' H0:Hp}{F:AL->Prop}{σ:L2.St}
def VBw(X:Cx)(A:List Sl)(e:Expr)(p:Option (Bool×τ))(B:τ->List Sl):Prop:=∀v,p=some v->PT X e (λσ H Q=>∃H0 F,Vs H0 A σ F H/\∀l H',Vs H0 (B v.2) σ l H'->Fe F H l H'->Q v.1 H')
theorem Z6{w E:List B6}{R:Rk ρ}{p:Option (Bool×τ)}{q r:τ->Option (Fw ρ τ')}{B:τ->List Sl}{C:τ'->List Sl}(G:VBw X A c p B)(L:∀s,VSs X (B s) w R (q s) C)(hb:∀s,VSs X (B s) E R (r s) C):VS X A (.If c w E pos) R (p.bind λv=>if v.1=true then q v.2 else r v.2) C:=λf N=>by
 obtain⟨⟨v,s⟩,I,J⟩:=AR N
 cases v with
 | true=>exact(Xg (G _ I) (L s f J) JH).imp λD σ H ⟨H0,F,l,k⟩=>⟨H0,F,l,λm H' o fe=>by show tV (B s) R C f D σ H';exact Ms ⟨H0,m,F,H,o,fe,k⟩⟩
 | false=>exact(Xg (G _ I) JH (hb s f J)).imp λD σ H ⟨H0,F,l,k⟩=>⟨H0,F,l,λm H' o fe=>by show tV (B s) R C f D σ H';exact Ms ⟨H0,m,F,H,o,fe,k⟩⟩
theorem fY(h:VBw X A a p B):VBw X A (.UnaryOp .Not a pos) (p.bind λv=>some (!v.1,v.2)) B:=λv l=>by
 obtain⟨x,m,o⟩:=AR l;cases o
 exact(bP (h x m)).imp (by rintro σ H Q ⟨H0,F,w,q⟩;exact ⟨H0,F,w,q⟩)
theorem fZ(C:VB X A a q)(hb:VBw X A b r B)(w:Wk A (B s0)):VBw X A (.BoolOp .And [a,b] pos) (q.bind λt=>if t=true then r else some (false,s0)) B:=λv G=>by
 obtain⟨t,E,m⟩:=AR G
 cases t with
 | true=>exact(PW.imp (S7 (C _ E) (Xf (hb v m))) (by rintro σ H Q ⟨H0,F,l,k⟩;exact ⟨H0,F,l,λH' kp=>by symm;rw[qX rfl];exact⟨H0,_,l.grow kp,λo I J L=>k o I J (kp.fe.trans L)⟩⟩)).pt
 | false=>cases m;exact(PW.imp (S7 (C _ E) (TJ λM M M z=>z)) (by rintro σ H Q ⟨H0,F,l,k⟩;exact ⟨H0,F,l,λH' kp=>by
   symm;rw[qY Av];obtain⟨o,m,N⟩:=w H0 σ _ H' (l.grow kp)
   exact k o H' m (kp.fe.trans N)⟩)).pt
theorem Vw{L:AL->Prop}{G:Nat->AL->Prop}{B:List Sl}(h:VR H0 A σ F G H)(w:∀a,L a->¬F a)(l:∀a o,H a=some o->¬L a->H' a=some o)(C:∀a xs,L a->H a≠some (.tup xs))(E:∀a ob z,L a->H a≠some (.frz ob z))(Q:∀i a,G i a->L a->∃o,H' a=some o)
  (I:∀(j:Nat) t,B[j]?=some t->(A[j]?=some t/\∀a,L a->¬G j a)∨∃x,σ[j]?=some x/\t.ok H0 (gF F H H') (G j) H' x):VR H0 B σ (gF F H H') G H'/\Fe F H (gF F H H') H':=by
 have fe:Fe F H (gF F H H') H':=⟨λM z=>.inl z,λa xs e=>l a _ e λz=>C a xs z e,λa ob z e=>l a _ e λy=>E a ob z y e,λa o f e=>l a o e λz=>w a z f⟩;refine⟨⟨λa o e=>l a o (h.kp a o e) λz=>w a z (h.f0 a o e),λa o e=>.inl (h.f0 a o e),λa z=>z.elim (λf=>let ⟨o,e⟩:=h.fh a f;⟨o,l a o e λy=>w a y f⟩) λy=>y.2,λj t J=>?_,λi a z=>?_,h.ds⟩,fe⟩
 ·rcases I j t J with⟨m,R⟩ | m
  ·obtain⟨x,N,O⟩:=h.sl j t m
   exact⟨x,N,Sl.mono O fe λa P=>let ⟨o,e⟩:=(h.gn j a P).2;by grind⟩
  ·exact m
 ·obtain⟨m,o,e⟩:=h.gn i a z
  refine⟨λy=>y.elim m λy=>(by rw[e]at y;exact nomatch y.1),?_⟩
  grind
noncomputable def Qg(H:Hp)(x y:AL):Hp:=λa=>if a=x∨a=y then none else H a
theorem IU{x y a}(h:a≠x)(h':a≠y):Qg H x y a=H a:=qY λz=>z.elim h h'
theorem Nr{x y a}{o}(h:Qg H x y a=some o):a≠x/\a≠y/\H a=some o:=by
 unfold Qg at h
 ext
theorem IS{enc:α->D}{l:List (Int×α)}{a:AL}(h:OB K H a (oDK enc l)):(∀xs,H a≠some (.tup xs))/\∀ob z,H a≠some (.frz ob z):=by
 obtain⟨m,o,_⟩:=h
 ext
theorem W9{R:Rk α}{S:Rk ρ}{q:Option α}{g:α->ρ}{B:τ->List Sl}(h:VE X A e R q)(m:∀v H0 σ F H x H',Vs H0 A σ F H->Kp H H'->R v H x H'->S (g v) H0 x H'):VS X A (.Return (some e) pos) S (q.bind λv=>some (.rt (g v))) B:=λf o=>by
 obtain⟨v,w,C⟩:=AR o;cases C
 exact(S9 (h v w)).imp (by rintro D σ H ⟨H0,F,l,k⟩;exact ⟨H0,F,l,λx H' kp r=>k x H' (l.kp.trans kp) (m _ _ _ _ _ _ _ l kp r)⟩)
end
open L2
open L4 (Fw AR eT eP oL oDK oDR)
set_option genInjectivity true in
inductive Fv where
 | dat (d:D) | own (o:Ob) | fz (o:Ob)
section
variable{K:AB}{H0 H H2 H3:Hp}{S S':AL->Prop}{x c:AL}{L:List (Str×Fv)}{fs:List (Str×V)}{f:Str}{fv:Fv}{v y:V}{o o':Ob}
def Qp(K:AB)(H0:Hp)(S:AL->Prop)(H:Hp)(x:AL)(v:V):Fv->Prop
 | .dat d=>RD K H d v
 | .own o=>∃a,v=.ref a/\S a/\a≠x/\OB K H a o
 | .fz o=>∃a,v=.ref a/\H0 a=none/\¬S a/\OB K H a o
structure PFs(K:AB)(H0:Hp)(S:AL->Prop)(H:Hp)(x:AL)(L:List (Str×Fv))(fs:List (Str×V)):Prop where
 keys:fs.map (·.1)=L.map (·.1)
 no:∀f,L.lookup f=none->fs.lookup f=none
 get:∀f fv,L.lookup f=some fv->∃v,fs.lookup f=some v/\Qp K H0 S H x v fv
 dis:∀f g o o' a,L.lookup f=some (.own o)->L.lookup g=some (.own o')->fs.lookup f=some (.ref a)->fs.lookup g=some (.ref a)->f=g
def pF(K:AB)(C x:AL)(L:List (Str×Fv)):Hp->(AL->Prop)->Hp->V->Prop:=λH0 S H y=>y=.ref x/\S x/\∃l fs,H x=some (.ins C l fs)/\PFs K H0 S H x L fs
theorem Xn(ne:∀a,a≠c->H2 a=H3 a)(l:∀xs,H3 c≠some (.tup xs))(m:∀ob z,H3 c≠some (.frz ob z)):(∀a xs,H3 a=some (.tup xs)->H2 a=some (.tup xs))/\∀a ob z,H3 a=some (.frz ob z)->H2 a=some (.frz ob z):=
 ⟨λa xs e=>by grind,λa ob z e=>by grind⟩
theorem Qp.move(h:Qp K H0 S H3 x v fv)(G:S x)(ne:∀a,a≠x->H2 a=H3 a)(I:∀xs,H3 x≠some (.tup xs))(J:∀ob z,H3 x≠some (.frz ob z)):Qp K H0 S H2 x v fv:=by
 obtain⟨m,A⟩:=Xn ne I J
 cases fv with
 | dat d=>exact h.keep m A
 | own o=>obtain⟨a,B,C,l,E⟩:=h;exact⟨a,B,C,l,E.keep m A (ne a l)⟩
 | fz o=>obtain⟨a,B,C,l,E⟩:=h;exact⟨a,B,C,l,E.keep m A (ne a λw=>l (w▸G))⟩
theorem Qp.wide(h:Qp K H0 S H x v fv)(sub:∀a,S a->S' a)(B:∀o a,fv=.fz o->v=.ref a->S' a->S a):Qp K H0 S' H x v fv:=by
 cases fv with
 | dat d=>exact h
 | own o=>obtain⟨a,l,m,w,A⟩:=h;exact⟨a,l,sub a m,w,A⟩
 | fz o=>obtain⟨a,l,m,w,A⟩:=h;exact⟨a,l,m,λz=>w (B o a rfl l z),A⟩
theorem Ng:∀(fs:List (Str×V)) (g:Str),(putF f y fs).lookup g=if g=f then some y else fs.lookup g:=λfs g=>Kt f g y fs
theorem Rv:∀(fs:List (Str×V)),fs.lookup f=none->(putF f y fs).map (·.1)=fs.map (·.1)++[f]
 | [],_=>rfl
 | (g,u) :: r,h=>by
  rw[CA]at h
  by_cases c:g=f
  ·ext
  ·have:(f==g)=false:=by rw[beq_eq_false_iff_ne];exact CO c
   rw[this]at h;unfold putF;rw[qY c,Ai,Ai,Rv r h];rfl
theorem PFs.len(h:PFs K H0 S H x L fs):fs.length=L.length:=by
 have:=congrArg Dg h.keys
 ext
theorem M3(g:Str):∀(L:List (Str×Fv)),(L++[(f,fv)]).lookup g=(match L.lookup g with
  | some u=>some u
  | none=>if g=f then some fv else none)
 | []=>by
  show Li g [(f,fv)]=_;rw[CA]
  grind
 | (k,u) :: L=>by
  rw[List.cons_append,CA,CA]
  by_cases c:g=k
  ·ext
  ·rw[beq_eq_false_iff_ne.mpr c];exact M3 g L
set_option tactic.hygienic true in
theorem PFs.add(h:PFs K H0 S H x L fs)(N:L.lookup f=none)(sub:∀a,S a->S' a)(O:∀g o a,L.lookup g=some (.fz o)->fs.lookup g=some (.ref a)->S' a->S a)(mv:∀v fv,Qp K H0 S' H x v fv->Qp K H0 S' H2 x v fv)(T:Qp K H0 S' H2 x y fv)(U:∀a o,fv=.own o->y=.ref a->¬S a):PFs K H0 S' H2 x (L++[(f,fv)]) (putF f y fs):=by
 have P:=h.no f N
 have w:∀g I,L.lookup g=some I->g≠f:=λg I e c=>by lia
 refine⟨by rw[Rv fs P,Be,h.keys];rfl,λg e=>?_,λg I e=>?_,λg k o o' a l m B C=>?_⟩
 ·rw[M3]at e
  rw[Ng]
  cases l:L.lookup g with
  | some u=>ext
  | none=>
   rw[l]at e;dsimp only at e;split at e
   ·cases e
   ·rename_i c;rw[qY c];exact h.no g l
 ·rw[M3]at e
  rw[Ng]
  cases l:L.lookup g with
  | some u=>
   rw[l]at e;cases e;rw[qY (w g _ l)];obtain⟨v,G,J⟩:=h.get g _ l;exact⟨v,G,mv _ _ (J.wide sub λo a m B=>O g o a (m▸l) (B▸G))⟩
  | none=>
   ext
 ·rw[M3]at l m
  rw[Ng]at B C
  cases E:L.lookup g with
  | some u=>
   rw[E]at l;cases l;rw[qY (w g _ E)]at B
   cases A:L.lookup k with
   | some Q=>
    rw[A]at m;cases m;rw[qY (w k _ A)]at C;exact h.dis g k o o' a E A B C
   | none=>
    rw[A]at m;dsimp only at m;split at m
    ·rename_i c
     cases m;rw[qX c]at C;cases C;obtain⟨v,G,b,J,R,_⟩:=h.get g _ E
     ext
    ·cases m
  | none=>
   rw[E]at l;dsimp only at l;split at l
   ·rename_i c
    cases l;rw[qX c]at B;cases B
    cases A:L.lookup k with
    | some Q=>
     rw[A]at m;cases m;rw[qY (w k _ A)]at C;obtain⟨v,G,b,J,R,_⟩:=h.get k _ A
     ext
    | none=>
     ext
   ·cases l
noncomputable def Kc(f:Str)(fv:Fv)(L:List (Str×Fv)):List (Str×Fv):=L.map λp=>if p.1=f then(p.1,fv)else p
theorem Ji(g:Str):∀(L:List (Str×Fv)),(Kc f fv L).lookup g=if g=f then(L.lookup g).map λG=>fv else L.lookup g
 | []=>by show none=_;split <;> rfl
 | (k,u) :: L=>by
  show Li g ((if k=f then(k,fv)else(k,u)) :: Kc f fv L)=_
  by_cases c:g=k
  ·grind
  ·have e:∀w:Fv,Li g ((k,w) :: Kc f fv L)=(Kc f fv L).lookup g:=λw=>by rw[CA,beq_eq_false_iff_ne.mpr c]
   have l:Li g ((k,u) :: L)=L.lookup g:=by rw[CA,beq_eq_false_iff_ne.mpr c]
   rw[l,<-Ji g L]
   grind
set_option tactic.hygienic true in
theorem PFs.chg(h:PFs K H0 S H3 x L fs)(A:L.lookup f=some (.own o))(B:fs.lookup f=some (.ref a))(ne:∀b,b≠a->H2 b=H3 b)(X:∀xs,H3 a≠some (.tup xs))(Y:∀ob z,H3 a≠some (.frz ob z))(Z:OB K H2 a o'):PFs K H0 S H2 x (Kc f (.own o') L) fs:=by
 obtain⟨C,E⟩:=Xn ne X Y;obtain⟨v,P,a',g2,Q,ax,_⟩:=h.get f _ A;rw[B]at P;cases P;cases g2;refine⟨by rw[h.keys];unfold Kc;rw[Aw];exact By λp M=>by lia,λg e=>?_,λg R e=>?_,λg k G T b e1 e2 e3 e4=>?_⟩
 ·rw[Ji]at e
  split at e
  ·ext
  ·exact h.no g e
 ·rw[Ji]at e
  split at e
  ·rename_i c
   subst c;rw[A]at e;cases e;exact⟨_,B,a,rfl,Q,ax,Z⟩
  ·rename_i c
   obtain⟨v,U,I⟩:=h.get g R e;refine⟨v,U,?_⟩
   cases R with
   | dat d=>exact I.keep C E
   | own o=>obtain⟨b,J,N,m,O⟩:=I;subst J;exact⟨b,rfl,N,m,O.keep C E (ne b λw=>c (h.dis g f _ _ b e A U (w▸B)))⟩
   | fz o=>obtain⟨b,J,N,m,O⟩:=I;exact⟨b,J,N,m,O.keep C E (ne b λw=>m (w▸Q))⟩
 ·have l:∀g G,(Kc f (.own o') L).lookup g=some (.own G)->∃T,L.lookup g=some (.own T):=λg G e=>by
   rw[Ji]at e
   grind
  obtain⟨_,k1⟩:=l g _ e1;obtain⟨_,k2⟩:=l k _ e2;exact h.dis g k _ _ b k1 k2 e3 e4
end
section
variable{X:Cx}{A:List Sl}{e o i:Expr}{pos pos' apos:Pos}{α β κ ρ:Type}{C z:AL}{L:List (Str×Fv)}{f:Str}
theorem Sj{R:Rk α}{Rr:Rk ρ}{q:Option α}{j:Nat}{Y:α->Fv}(N:Hp->Hp->V->AL->Prop)(hc:Cls X.K C)(hn:Cj X.K C f)(ho:PE X o (DX j))(h:VE X A e R q)(hj:A[j]?=some (.g (pF X.K C z L)))(hf:L.lookup f=none)(hl:L.length < 1000)
  (Z:∀v H y l b,R v H y l->N H l y b->H b=none/\∃o,l b=some o) (hfv:∀v Q (S:AL->Prop) H y l m,Kp Q H->Kp H l->R v H y l->(∀b,S b->∃o,H b=some o)->S z->Fr (λb=>(H b=none/\∃o,l b=some o)/\¬N H l y b) l m->(∀b,N H l y b->m b=l b)->Qp X.K Q (λb=>S b∨N H l y b) m z y (Y v)) (hd:∀v H y l a o,R v H y l->Y v=.own o->y=.ref a->H a=none)
  (hs:autoParam (Bb e (some (.Attribute o f pos')) pos.line X.env=pure false) yq0q):VS X A (.Assign [.Attribute o f pos'] e pos) Rr (q.bind λv=>some (.nx v)) (λv=>A.set j (.g (pF X.K C z (L++[(f,Y v)])))):=λg hg=>by
 obtain⟨v,h1,h2⟩:=AR hg;cases h2
 refine(bU ho (h v h1) hs).imp λD σ H ⟨Q,F,⟨G,hs⟩,k⟩=>⟨Q,F,⟨G,hs⟩,λy l kp r=>?_⟩
 obtain⟨y0,g1,g2⟩:=hs.atG hj
 obtain⟨rfl,E,I,fs,J,g4⟩:=g2 H Kp.refl.fr λM M=>rfl
 refine⟨_,g1,z,C,I,fs,rfl,kp _ _ J,hc,hn,by rw[g4.len];exact hl,?_⟩
 have nz:¬N H l y z:=λw=>by rw[(Z v H y l z r w).1]at J;cases J
 have zt:∀B,l z≠some (.tup B):=λB w=>by rw[kp _ _ J]at w;cases w
 have zf:∀ob u,l z≠some (.frz ob u):=λob u w=>by rw[kp _ _ J]at w;cases w
 have Fz:=(hs.gn j z E).1
 have zn:∀b o,H b=some o->¬N H l y b:=λb o e w=>by rw[(Z v H y l b r w).1]at e;cases e
 have gz:∀b,gF F H l b->b≠z:=λb w c=>by subst c;exact w.elim Fz λw=>by ext
 have fe:Fe F H (λb=>gF F H l b/\¬N H l y b) (L2.upd l z (.ins C I (putF f y fs))):=
  ⟨λb w=>⟨.inl w,let ⟨o,e⟩:=hs.fh b w;zn b o e⟩,λb B e=>by rw[AO (λc=>by ext)];exact kp _ _ e,λb ob u e=>by rw[AO (λc=>by ext)];exact kp _ _ e,λb o w e=>by rw[AO (show b≠z from λc=>Fz (c▸w))];exact kp _ _ e⟩
 have T:=hs.own j (S':=λb=>G j b∨N H l y b) (P:=pF X.K C z (L++[(f,Y v)])) fe (λb o e w=>by rw[AO (show b≠z from λc=>w (c▸E))];exact kp _ _ e) (λb w=>w.1.imp id λw=>w.1) (λb w=>by
   rw[AO (gz b w.1)]
   exact w.1.elim (λw=>let ⟨o,e⟩:=hs.fh b w;⟨o,kp _ _ e⟩) λw=>w.2) (λb w=>⟨w.imp id λw=>(Z v H y l b r w).1,λu=>w.elim (λw=>u.1.elim (hs.gn j b w).1 λu=>(let ⟨o,e⟩:=(hs.gn j b w).2;by ext)) u.2,by
   by_cases c:b=z
   ·rw[c];exact⟨_,Ar⟩
   ·rw[AO c];exact w.elim (λw=>let ⟨o,e⟩:=(hs.gn j b w).2;⟨o,kp _ _ e⟩) λw=>(Z v H y l b r w).2⟩) λm O s2=>by
   have U:=s2 z (.inl E);rw[Ar]at U;refine⟨rfl,.inl E,I,_,U,?_⟩;have h3:Fr F H (L2.upd m z (.ins C I fs)):=⟨λb B e=>by rw[AO (λc=>by lia)];exact O.tup b B (fe.fr.tup b B e),λb ob u e=>by rw[AO (λc=>by lia)];exact O.frz b ob u (fe.fr.frz b ob u e),λb o w e=>by rw[AO (show b≠z from λc=>Fz (c▸w))];exact O.fix b o (fe.le b w) (fe.fr.fix b o w e)⟩
   have s3:∀a,G j a->L2.upd m z (.ins C I fs) a=H a:=λa w=>by
    by_cases c:a=z
    ·rw[c,Ar,J]
    ·rw[AO c,s2 a (.inl w),AO c]
     obtain⟨o,e⟩:=(hs.gn j a w).2;rw[e,kp _ _ e]
   obtain⟨_,_,xW,uk,q1,q2⟩:=g2 _ h3 s3;rw[Ar]at q1;cases q1
   have ne:∀a,a≠z->m a=L2.upd m z (.ins C I fs) a:=λa c=>(AO c).symm
   refine q2.add hf (λa w=>.inl w) (λg' o' a e1 e2 w=>w.elim id λw=>?_) (λv' wa w=>w.move (.inl E) ne (λB w=>by ext) λob u w=>by ext) (hfv v Q (G j) H y l m hs.kp kp r (λb w=>(hs.gn j b w).2) E ⟨λb B e=>?_,λb ob u e=>?_,λb o w e=>?_⟩ λb w=>?_) λa o e1 e2 w=>?_
   ·obtain⟨v',l1,b,l2,_,_,l3⟩:=g4.get g' _ e1
    rw[e2]at l1;cases l1;cases l2;obtain⟨u,hu⟩:=l3.at;ext
   ·exact O.tup b B (by rw[AO (λc=>by ext)];exact e)
   ·exact O.frz b ob u (by rw[AO (λc=>by ext)];exact e)
   ·exact O.fix b o ⟨.inr w.1,w.2⟩ (by rw[AO (gz b (.inr w.1))];exact e)
   ·rw[s2 b (.inr w),AO (λc=>nz (by ext))]
   ·obtain⟨u,hu⟩:=(hs.gn j a w).2
    grind
 rw[St.set_same g1]at T;exact k _ _ _ ⟨_,T⟩ fe
section
variable{R:Rk ρ}{j:Nat}
theorem on{enc:α->D}{q:Option α}(l:Cls X.K C)(m:Cj X.K C f)(B:PE X o (DX j))(h:VE X A e (rV X.K enc) q)(E:autoParam (A[j]?=some (.g (pF X.K C z L))) yq0q)(G:autoParam (L.lookup f=none) yq0q)(hl:autoParam (L.length < 1000) yq10q)(hs:autoParam (Bb e (some (.Attribute o f pos')) pos.line X.env=pure false) yq0q) :
  VS X A (.Assign [.Attribute o f pos'] e pos) R (q.bind λv=>some (.nx v)) (λv=>A.set j (.g (pF X.K C z (L++[(f,.dat (enc v))])))):=
 Sj (λM M M M=>False) l m B h E G hl (λM M M M M M w=>w.elim) (λv J S H y N O M M r M M I M=>I.rd r) (λM M M M M M M e=>nomatch e) hs
theorem Z8{ob:α->Ob}{q:Option α}(G:Cls X.K C)(I:Cj X.K C f)(J:PE X o (DX j))(h:VE X A e (rN X.K ob) q)(N:autoParam (A[j]?=some (.g (pF X.K C z L))) yq0q)(O:autoParam (L.lookup f=none) yq0q)(hl:autoParam (L.length < 1000) yq10q)(hs:autoParam (Bb e (some (.Attribute o f pos')) pos.line X.env=pure false) yq0q) :
  VS X A (.Assign [.Attribute o f pos'] e pos) R (q.bind λv=>some (.nx v)) (λv=>A.set j (.g (pF X.K C z (L++[(f,.own (ob v))])))):=
 Sj (λM M y b=>y=.ref b) G I J h N O hl (λv H y E b ⟨a,l,B,m⟩ w=>by rw[l]at w;cases w;exact⟨B,m.at⟩) (λv Q S H y E T _ _ ⟨a,l,B,m⟩ U Y P w=>⟨a,l,.inr l,(λc=>by grind),P.ob (w a l) m⟩) (λv H y E a o ⟨b,l,B,m⟩ _ e=>by ext) hs
theorem Z7{ob:α->Ob}{q:Option α}(G:Cls X.K C)(I:Cj X.K C f)(J:PE X o (DX j))(h:VE X A e (rN X.K ob) q)(N:autoParam (A[j]?=some (.g (pF X.K C z L))) yq0q)(O:autoParam (L.lookup f=none) yq0q)(hl:autoParam (L.length < 1000) yq10q)(hs:autoParam (Bb e (some (.Attribute o f pos')) pos.line X.env=pure false) yq0q) :
  VS X A (.Assign [.Attribute o f pos'] e pos) R (q.bind λv=>some (.nx v)) (λv=>A.set j (.g (pF X.K C z (L++[(f,.fz (ob v))])))):=
 Sj (λM M M M=>False) G I J h N O hl (λM M M M M M w=>w.elim) (by
  rintro v P S H y Y Z Q _ ⟨a,T,l,B⟩ hS _ E _
  obtain⟨u,m⟩:=B.at;refine⟨a,T,?_,λw=>w.elim (λw=>by grind) id,E.ob (by rw[E.fix a u ⟨⟨l,u,m⟩,id⟩ m,m]) B⟩
  cases U:P a with
  | none=>rfl
  | some o=>rw[Q a o U]at l;cases l) (λM M M M M M M e=>nomatch e) hs
theorem jC(T:Cls X.K C)(U:Cj X.K C f)(Y:PE X o (DX j))(B:autoParam (L.lookup f=some (.fz (oL enc l))) yq0q)(Z:autoParam (A[j]?=some (.g (pF X.K C z L))) yq0q)(hb:autoParam (Bi o f X.env (A6 o X.env)=A6 o X.env) yq0q):VF X A (.Attribute o f pos) enc (some l):=λl' hl=>by
 cases hl
 refine(Ja Y hb).imp λσ H Q ⟨H0,F,⟨G,hs⟩,k⟩=>?_
 obtain⟨y0,g1,E⟩:=hs.atG Z
 obtain⟨rfl,Sz,dx,fs,I,g4⟩:=E H Kp.refl.fr λM M=>rfl
 obtain⟨v',J,b,l2,_,N,l3⟩:=g4.get f _ B;subst l2;obtain⟨vs,e1,e2⟩:=l3
 have Fb:=BR λn=>by
  have zb:z≠b:=λc=>N (c▸Sz)
  obtain⟨_,_,xW,uk,O,q2⟩:=E (L2.upd H b (.own 0)) ⟨λa xs e=>by rw[AO (λc=>by lia)];exact e,λa ob u e=>by rw[AO (λc=>by lia)];exact e,λa o w e=>by rw[AO (λc=>n (c▸w))];exact e⟩ λa w=>AO (λc=>N (c▸w))
  rw[AO zb,I]at O;cases O;obtain⟨v',P,b',m2,_,_,us,S,_⟩:=q2.get f _ B;rw[J]at P;cases P;cases m2;rw[Ar]at S;cases S
 exact⟨_,g1,z,C,dx,fs,_,rfl,I,T,U,J,k b H .refl λH' m=>⟨vs,m.fix b _ (.inl Fb) e1,e2.keep m.tup m.frz⟩⟩
theorem XB{O H}{F}{G}{Q}{K}{oo o'}{a S}{u}{fs}(hs:VR O A Q F G H)(hj:A[j]?=some (.g (pF K C z L)))(T:L.lookup f=some (.own oo))(U:H z=some (.ins C S fs))(Y:fs.lookup f=some (.ref a))(Z:∀xs,H a≠some (.tup xs))(nf:∀ob w,H a≠some (.frz ob w))(hu:OB K (L2.upd H a u) a o') :
  Vs O (A.set j (.g (pF K C z (Kc f (.own o') L)))) Q F (L2.upd H a u)/\Fe F H F (L2.upd H a u):=by
 obtain⟨y0,g1,g2⟩:=hs.atG hj
 obtain⟨rfl,Sz,xW,uk,yK,g4⟩:=g2 H Kp.refl.fr λM M=>rfl
 rw[U]at yK;cases yK;obtain⟨v',l1,b,l2,E,az,l3⟩:=g4.get f _ T;rw[Y]at l1;cases l1;cases l2;have I:=(hs.gn j a E).1;have fe:Fe F H F (L2.upd H a u):=⟨λM w=>w,λb xs e=>by rw[AO (show b≠a from λc=>Z xs (c▸e))];exact e,λb ob w e=>by rw[AO (show b≠a from λc=>nf ob w (c▸e))];exact e,λb o w e=>by rw[AO (show b≠a from λc=>I (c▸w))];exact e⟩;obtain⟨ho,J⟩:=l3.at
 have m:=hs.own j (S':=G j) (P:=pF K C z (Kc f (.own o') L)) fe (λb o e w=>by rw[AO (show b≠a from λc=>w (c▸E))];exact e) (λb w=>.inl w) (λb w=>by rw[AO (show b≠a from λc=>I (c▸w))];exact hs.fh b w) (λb w=>⟨.inl w,(hs.gn j b w).1,by
   by_cases c:b=a
   ·rw[c];exact⟨_,Ar⟩
   ·rw[AO c];exact(hs.gn j b w).2⟩) λH2 B N=>by
  have l:=N z Sz;rw[AO (CO az),U]at l;have fr:Fr F H (L2.upd H2 a ho):=⟨λb xs e=>by rw[AO (show b≠a from λc=>Z xs (c▸e))];exact B.tup b xs (fe.fr.tup b xs e),λb ob w e=>by rw[AO (show b≠a from λc=>nf ob w (c▸e))];exact B.frz b ob w (fe.fr.frz b ob w e),λb o w e=>by rw[AO (show b≠a from λc=>I (c▸w))];exact B.fix b o w (fe.fr.fix b o w e)⟩
  obtain⟨_,_,dx2,fs2,q1,q2⟩:=g2 _ fr λb w=>by
   by_cases c:b=a
   ·rw[c,Ar,J]
   ·rw[AO c,N b w,AO c]
  rw[AO (CO az),l]at q1;cases q1;refine⟨rfl,Sz,S,fs,l,q2.chg T Y (λb c=>(AO c).symm) (λxs w=>by rw[Ar]at w;ext) (λob w q=>by rw[Ar]at q;grind) (B.ob (N a E) hu)⟩
 rw[St.set_same g1]at m;exact⟨⟨_,m⟩,fe⟩
set_option tactic.hygienic true in
theorem fE{β κ:Type}[DecidableEq κ]{ob:List (κ×β)->Ob}{I:κ->D}{enc:β->D}{J:Option κ}{pv:Option β}{l:List (κ×β)}{p2:Pos}(d:N1 ob I enc)(hu:X.A.units+1 < Bd)(hc:Cls X.K C)(hn:Cj X.K C f)(ho:PE X o (DX j))(hi:VE X A i (rV X.K I) J)(hv:VE X A e (rV X.K enc) pv)(N:autoParam (L.lookup f=some (.own (ob l))) yq0q)(O:autoParam (A[j]?=some (.g (pF X.K C z L))) yq0q)(hb:autoParam (Bi o f X.env (A6 o X.env)=A6 o X.env) yq0q)(hs:autoParam (Bb e (some (.Subscript (.Attribute o f apos) i pos')) pos.line X.env=pure false) yq0q) :
  VS X A (.Assign [.Subscript (.Attribute o f apos) i pos'] e pos) R (pv.bind λv=>J.bind λk=>(L4.B2 l k v).bind λw=>some (.nx w)) (λw=>A.set j (.g (pF X.K C z (Kc f (.own (ob w)) L)))):=λg P=>by
 obtain⟨v,q1,Q⟩:=AR P;obtain⟨k,q2,S⟩:=AR Q;obtain⟨w,B,q4⟩:=AR S
 clear P Q S
 unfold L4.B2 at B;split at B
 rotate_left
 ·cases B
 rename_i hl;cases q4;cases B
 refine(TB hu (Ja ho hb) (hi k q2) (hv v q1) hs).imp λD σ H ⟨T,F,⟨G,hs⟩,q⟩=>⟨T,F,⟨G,hs⟩,λx H1 U r1=>?_⟩
 have E:=hs.grow U;obtain⟨y0,g1,g2⟩:=E.atG O
 obtain⟨rfl,Sz,dx,fs,Y,g4⟩:=g2 H1 Kp.refl.fr λM M=>rfl
 obtain⟨v',Z,a,l2,Sa,az,l3⟩:=g4.get f _ N;subst l2;refine⟨_,g1,z,C,dx,fs,_,rfl,Y,hc,hn,Z,T,_,⟨G,E⟩,λy H2 m r2=>?_⟩;obtain⟨nt,nf,u,g5,g6⟩:=d.put _ _ _ _ _ _ _ _ (m.ob l3) r2 (m.rd r1) hl;obtain⟨w1,w2⟩:=XB (E.grow m) O N (m _ _ Y) Z nt nf g6;exact⟨a,_,rfl,g5,q _ _ _ w1 ((U.fe.trans m.fe).trans w2)⟩
noncomputable def Wp(g:Int->Int->Int)(l:ZLi)(k y:Int):Option ZLi:=if 0<=k/\k.toNat < l.length then some (l.set k.toNat (g (l.getD k.toNat 0) y))else none
set_option tactic.hygienic true in
theorem fH{op:NM}{g:Int->Int->Int}{Q S:Option Int}{l:ZLi}{p2:Pos}(hp:PIp X op (ipI g))(hc:Cls X.K C)(hn:Cj X.K C f)(ho:PE X o (DX j))(hi:VE X A i (zIq X) Q)(hv:VE X A e (zIq X) S)(T:autoParam (L.lookup f=some (.own (oL D.int l))) yq0q)(U:autoParam (A[j]?=some (.g (pF X.K C z L))) yq0q)(hb:autoParam (Bi o f X.env (A6 o X.env)=A6 o X.env) yq0q)(ha:autoParam (∀E I new,augStore i E I new=(do Fn [new,E,I] (Zp E I new);release [new,E,I] [];pure .next)) yq12q) :
  VS X A (.AugAssign (.Subscript (.Attribute o f apos) i pos') op e pos) R (Q.bind λk=>S.bind λy=>(Wp g l k y).bind λJ=>some (.nx J)) (λJ=>A.set j (.g (pF X.K C z (Kc f (.own (oL D.int J)) L)))):=λgg Y=>by
 obtain⟨k,q1,Z⟩:=AR Y;obtain⟨y,q2,uh⟩:=AR Z;obtain⟨J,N,q4⟩:=AR uh
 clear Y Z uh
 unfold Wp at N;split at N
 rotate_left
 ·cases N
 rename_i hk;cases q4;cases N;obtain⟨k0,kl⟩:=hk
 refine(gZ (Ja ho hb) (hi k q1) cg (hv y q2) hp a8 ha).imp λDd σ H ⟨H0,F,⟨G,O⟩,q⟩=>?_
 obtain⟨y0,g1,g2⟩:=O.atG U
 obtain⟨rfl,Sz,dx,fs,g3,g4⟩:=g2 H Kp.refl.fr λM M=>rfl
 obtain⟨v',l1,a,l2,Sa,az,vs,l3,l4⟩:=g4.get f _ T;subst l2;refine⟨_,g1,z,C,dx,fs,_,rfl,g3,hc,hn,l1,H0,F,⟨G,O⟩,λy1 H1 m r1=>?_⟩;cases r1;have m3:=m _ _ l3
 have m4:=l4.keep (λb M w=>m b _ w) λb M M w=>m b _ w
 have el:l[k.toNat]?=some (l.getD k.toNat 0):=by rw[Bz,AI kl];rfl
 obtain⟨x,hx,rx⟩:=m4.get (by rw[Ab,el];rfl);cases rx;refine⟨a,vs,k,_,rfl,rfl,k0,m3,hx,H0,_,⟨G,O.grow m⟩,λy2 H2 B r2=>?_⟩;cases r2;have s2:=(O.grow m).grow B;have n3:=B _ _ m3
 have n4:=m4.keep (λb M w=>B b _ w) λb M M w=>B b _ w
 have P:ixN vs.length k=some k.toNat:=by
  unfold ixN;rw[qX k0,qX (by rw[<-n4.length,AF];ext)]
 obtain⟨w1,w2⟩:=XB (o':=oL D.int (l.set k.toNat (g (l.getD k.toNat 0) y))) s2 U T (B _ _ (m _ _ g3)) l1 (λxs w=>by ext) (λob w q=>by ext) ⟨_,Ar,by
  rw[List.map_set]
  exact((n4.set (.int (g (l.getD k.toNat 0) y)) k.toNat)).keep (λb xs w=>by rw[AO (λc=>by ext)];exact w) λb ob w q=>by rw[AO (λc=>by ext)];exact q⟩
 exact⟨_,_,rfl,rfl,a,vs,k,k.toNat,rfl,rfl,n3,P,q _ _ _ w1 ((m.fe.trans B.fe).trans w2)⟩
end
end
open L2
open L4 (Fw AR Bv oL)
section
variable{P:Al}{w:A1}{H H':Hp}{h h':BI}{m:AL}{u u1 u2 u3:HO}{fs ex:List AL}
theorem cX(x:HOk P w H h)(l:H m=some u)(A:Mut (some u))(new:CS P w (upd H m u1) h m u1):HOk P w (upd H m u1) h:=λb o e=>by
 by_cases c:b=m
 ·subst c;rw[Ar]at e;ext
 ·rw[AO c]at e
  exact(x b o e).stay (λG G G q=>q) (λa q=>by rw[AO (λz=>by rw[z,l]at q;cases q;exact A)];exact q) λa B q=>by rw[AO (λz=>by rw[z,l]at q;cases q;exact A)];exact q
theorem kQ(U:Un fs ex (upd H m u1) H' h h')(E:H m=some u)(G:Mut (some u)):Un fs ex H H' h h':=by
 have l:∀b,H b=none->upd H m u1 b=none:=λb e=>by rw[AO (λz=>by ext)];exact e
 have A:∀b o,H b=some o->¬Mut (some o)->upd H m u1 b=some o:=λb o e n=>by rw[AO (λz=>by ext)];exact e
 exact⟨λb o e n=>U.keep b o e (l b n),λb o e n=>U.slot b o e (l b n),λb o e n=>U.free b o e (l b n),U.there,λb B e=>U.tups b B (A b _ e id),λb o z e=>U.frzs b o z (A b _ e id),λb C e=>U.tbls b C (A b _ e id)⟩
theorem gA(U:Un fs ex H H' h h')(G:H' m=some u2)(I:Mut (some u2)):Un fs ex H (upd H' m u3) h h':=by
 have A:∀b,H' b=none->upd H' m u3 b=none:=λb e=>by rw[AO (λz=>by ext)];exact e
 have l:∀b o,H' b=some o->¬Mut (some o)->upd H' m u3 b=some o:=λb o e n=>by rw[AO (λz=>by ext)];exact e
 exact⟨U.keep,U.slot,λb o e n B=>A b (U.free b o e n B),U.there,λb C e=>l b _ (U.tups b C e) id,λb o z e=>l b _ (U.frzs b o z e) id,λb E e=>let ⟨more,q⟩:=U.tbls b E e;⟨more,l b _ q id⟩⟩
end
section
variable{P:Al}{w:A1}{K:AB}{mg:Str->Option AD}{base:BI}{k:Nat}{f:AL}{fd:D1}{ps:List Str}{yL sp2:Sp}
theorem iQ(F:Czq P w K mg base k f fd ps yL)(G:∀vs H Q E,sp2 vs H Q E->vs.length=ps.length)(h:∀vs H Q E,sp2 vs H Q E->∃m u,H m=some u/\Mut (some u)/\∀N,CS P w H N m u->∃C,CS P w (upd H m C) N m C/\yL vs (upd H m C) Q (λM M M=>False)):Czq P w K mg base k f fd ps sp2:=
 ⟨G,λA B s H I S vs Q E T l hb r q=>by
  obtain⟨m,u,J,O,q⟩:=h vs H Q E q;obtain⟨C,U,X⟩:=q s.heap (l.hok m u J)
  have R:∀b,H b=none->upd H m C b=none:=λb e=>by rw[AO (λz=>by lia)];exact e
  refine Ep (F.run A B s (upd H m C) I S vs Q (λM M M=>False) T ⟨l.frames,l.mod,λb o e=>⟨(l.bs b o e).1,R b (l.bs b o e).2⟩,l.bsz,l.funs,λb e=>R b (l.frf b e),cX l.hok J O U,l.bare⟩ hb r X) λL s' z=>?_
  cases L with
  | ok Y=>cases Y with
   | ret u=>obtain⟨v,Z,c1,c2,c3,c4,c5,c6⟩:=z;exact⟨v,Z,c1,c2,kQ c3 J O,c4,c5,c6⟩
   | next=>exact z.elim
   | brk=>exact z.elim
   | cont=>exact z.elim
  | error e=>obtain⟨_,_,_,_,_,_,_,_,_,z⟩:=z;exact z.elim⟩
theorem VC(F:Czq P w K mg base k f fd ps yL)(o:∀vs H Q E,sp2 vs H Q E->vs.length=ps.length)(h:∀vs H Q E,sp2 vs H Q E->yL vs H (λx H'=>∃m u C,H' m=some u/\Mut (some u)/\(∀I,CS P w H' I m u->CS P w (upd H' m C) I m C)/\Q x (upd H' m C)) (λM M M=>False)):Czq P w K mg base k f fd ps sp2:=
 ⟨o,λA l s H B L vs Q E N O hb r q=>by
  refine Ep (F.run A l s H B L vs _ (λM M M=>False) N O hb r (h vs H Q E q)) λG Y z=>?_
  cases G with
  | ok R=>cases R with
   | ret u=>obtain⟨v,H',S,T,U,J,X,m,u,C,d1,d2,d3,d4⟩:=z;exact⟨v,_,S,T,gA U d1 d2,cX J d1 d2 (d3 _ (J m u d1)),X,d4⟩
   | next=>exact z.elim
   | brk=>exact z.elim
   | cont=>exact z.elim
  | error e=>obtain⟨_,_,_,_,_,_,_,_,_,z⟩:=z;exact z.elim⟩
end
section
variable{X:Cx}{A:List Sl}{e o:Expr}{es:List Expr}{pos pos':Pos}{α γ ρ:Type}{C z:AL}{f:Str}
def rF(Pd:α->Hp->V->Prop):Rk α:=λv H x l=>∀m,Fr (λa=>H a=none/\∃o,l a=some o) l m->Pd v m x
theorem oi{st:B6}{Pd:α->Hp->V->Prop}{R:Rk ρ}{q:Option α}{i:Nat}(h:VEA X A i st (rF Pd) q):VS X A st R (q.bind λv=>some (.nx v)) (λv=>A.set i (.q λM H y=>Pd v H y)):=λg m=>by
 obtain⟨v,B,E⟩:=AR m;cases E
 exact(h v B).imp (by rintro D J H ⟨G,F,l,k⟩;exact ⟨G,F,l,λx L kp r=>k _ _ _ ((l.grow kp).set i λI f=>r I ⟨f.tup,f.frz,λa o w=>f.fix a o (.inr w)⟩) kp.fe⟩)
theorem fA{x:Str}{Pd:α->Hp->V->Prop}{R:Rk ρ}{q:Option α}(i:Nat)(h:VE X A e (rF Pd) q)(l:autoParam X.N.Nodup yq6q)(hi:autoParam (X.N[i]?=some x) yq0q)(m:autoParam (Loc X.env.scope x) yq4q)(hs:autoParam (Bb e (some (.Name x pos')) pos.line X.env=pure false) yq0q)(w:autoParam (zFn X x) yq3q) :
  VS X A (.Assign [.Name x pos'] e pos) R (q.bind λv=>some (.nx v)) (λv=>A.set i (.q λG H y=>Pd v H y)):=oi (aa h l hi m hs w)
theorem ou(w:∀v H x,Pd v H x->l v H x)(h:VE X A e (rP Pd) q):VE X A e (rP l) q:=λv m=>(h v m).imp (by rintro L H Q ⟨B,F,E,k⟩;exact ⟨B,F,E,λx G kp r=>k x G kp λI J=>w _ _ _ (r I J)⟩)
theorem arP(v:α)(H:Hp)(x:V)(H':Hp)(h:rP Pd v H x H')(l:Hp)(k:Kp H' l):Pd v l x:=h l k
def gO(C:AL)(B:List (Hp->V->Prop))(Pd:α->Hp->V->Prop)(q:Option α):Sp:=λvs H Q E=>∃x G l v,vs=.ref x :: l/\H x=some (.ins C G [])/\q=some v/\dU B (EU H x) l/\∀m,Kp (EU H x) m->(∀w,Fr (λa=>EU H x a=none/\∃o,m a=some o) m w->Pd v w (.ref x))->Q .non m
theorem fnIF{P:Al}{w:A1}{K:AB}{mg:Str->Option AD}{base:BI}{x L:Str}{st:B6}{f:AL}{fd:D1}{N ps:List Str}{k:Nat}{C:AL}{As:List (Hp->V->Prop)}{R:Rk Unit}{q:Option (Fw Unit α)}{Pd:α->Hp->V->Prop}{B:AL->α->List Sl}{Pg:AL->α->Hp->(AL->Prop)->Hp->V->Prop}(F:Fun K x L st f fd)(Sc:HY N ps (Bw st))(hn:As.length+1=ps.length)(hB:∀z v,(B z v)[0]?=some (.g (Pg z v)))
  (hP:∀z v U S H',Pg z v U S H' (.ref z)->(∀a,S a->U a=none/\∃o,H' a=some o)->∀O,Fr (λa=>U a=none/\∃o,H' a=some o) H' O->Pd v O (.ref z))
  (hz:∀z v U S H y,Pg z v U S H y->y=.ref z)
  (sH:∀(z:AL) (Y:AD) (A:BP) (m:List Env) (s:AK) (H:Hp) (E:XK),FC k (A.deeper (HD L (Bw st) s.heap.objs.size f Y))->(A.deeper (HD L (Bw st) s.heap.objs.size f Y)).units+64 < Bd->N.Nodup ->
   VSs (Qa (CXG P w) P w K mg base N L (Bw st) f Y A m s H E).q (.g (pF K C z []) :: asl As (N.length - 1)) (FB st) R q (B z)):Czq P w K mg base (k+1) f fd ps (gO C As Pd (OZ q)):=by
 obtain⟨oc,od,kV,doc,pm,an,Y,ct,tK,rfl,lk,sP⟩:=F.ex
 refine SA lk sP Sc (λvs H Q E ⟨x,dx,args,v,e,_,_,h,_⟩=>by rw[<-hn,e,Am,h.1]) λA m s H vs Q E hr ⟨x,dx,args,v,e,hx,h1,h2,h3⟩=>?_
 subst e
 have hq:q=some (.nx v):=by
  unfold OZ at h1;split at h1
  ·cases h1;rfl
  ·cases h1
 have hb:=sH x Y A m s H E hr hr.units Sc.nd _ hq
 have hl:1<=N.length:=by
  have:=congrArg Dg Sc.pre;rw[CV]at this;lia
 obtain⟨_,g⟩:=Vs.start h2
 have fe:∀a o,EU H x a=some o->H a=some o:=λa o z=>(G6 z).2
 have e0:L2.start N (.ref x :: args)=some (.ref x) :: L2.start N.tail args:=by
  unfold L2.start;rw[Jp,Am,show N.length - (args.length+1)=N.length - 1 - args.length by grind];rfl
 have hv:Vs (EU H x) (.g (pF K C x []) :: asl As (N.length - 1)) (L2.start N (.ref x :: args)) (λa=>∃o,EU H x a=some o) H:=by
  refine⟨λi a=>i=0/\a=x,fe,λa o z=>⟨o,z⟩,λa ⟨o,z⟩=>⟨o,fe a o z⟩,λi s Z=>?_,λi a ⟨_,z⟩=>?_,λi j a z1 z2=>z1.1.trans z2.1.symm⟩
  ·rw[e0]
   cases i with
   | zero=>
    cases Z;exact⟨_,rfl,.ref x,rfl,λH' f z=>⟨rfl,⟨rfl,rfl⟩,dx,[],by ext,rfl,λM M=>rfl,(λM M e=>nomatch e),λM M M M M e=>nomatch e⟩⟩
   | succ i=>
    rw[<-Jp]at Z;obtain⟨y,q1,q2⟩:=g.sl i s Z;refine⟨y,q1,?_⟩
    cases s with
    | u=>trivial
    | q P=>obtain⟨y,r1,r2⟩:=q2;exact⟨y,r1,λH' f=>r2 H' ⟨λa xs z=>f.tup a xs (fe _ _ z),λa o u z=>f.frz a o u (fe _ _ z),λa o M z=>f.fix a o ⟨o,z⟩ (fe _ _ z)⟩⟩
    | g P=>
     unfold asl at Z
     rcases Ak.mp (A2 Z)with q | q
     ·obtain⟨_,_,q⟩:=Ax.mp q;cases q
     ext
  ·subst z
   exact⟨λ⟨o,q⟩=>(by rw[MH]at q;cases q),_,hx⟩
 refine⟨_,λζ s' σ H' D I q=>DP (hb ζ s' σ H' D (I.with _) q) (λfl s1 z=>?_) λe s1 z=>z.elim,EU H x,_,hv,λl F' H' T e'=>?_⟩
 ·cases fl with
  | next=>obtain⟨l,O,J,z⟩:=z;exact⟨l,O,J.without,z⟩
  | brk=>obtain⟨l,O,J,z⟩:=z;exact⟨l,O,J.without,z⟩
  | cont=>obtain⟨l,O,J,z⟩:=z;exact⟨l,O,J.without,z⟩
  | ret u=>obtain⟨v,l,O,J,r,z⟩:=z;exact⟨v,l,O,J.without,r,z⟩
 ·obtain⟨G,T⟩:=T
  obtain⟨y,g1,g2⟩:=T.atG (hB x v)
  have g3:=g2 H' Kp.refl.fr λM M=>rfl
  have ey:=hz _ _ _ _ _ _ g3;subst ey;refine h3 H' T.kp (hP x v _ _ H' g3 λa w=>⟨?_,(T.gn 0 a w).2⟩)
  cases e1:EU H x a with
  | none=>rfl
  | some u=>exact zX (T.f0 a u e1) (T.gn 0 a w).1
theorem aJ{C f:AL}{x:Str}{fd:D1}{G:List Str}{k k':Nat}{pc:Pos}{q:Option γ}{g:γ->Option α}{I:γ->List (Hp->V->Prop)}{Pd:α->Hp->V->Prop}(M:Mk X.K C f)(F:∀z,CT X.prog X.w X.K X.mg X.base (CXG X.prog X.w) k f fd G (gO C (I z) Pd (g z)))(hb:Binds X.K fd G [])(N:X.mg x=some (.ref C))(O:FC (k'+1) X.A)(R:VA X A (e :: es) q I)
  (hk:autoParam (k<=k') yq1q) (S:autoParam (X.xe=λ_ _=>False) yq0q) (T:autoParam (Gl X x) yq0q) (U:autoParam ((x==("__debug__" : Str))=false) yq1q) (Y:autoParam (zSp X e es) yq0q) (Z:autoParam ((Cu pos (AH es X.env)).any (·.1)=false) yq0q) :
  VE X A (.Call (.Name x pc) (e :: es) [] pos) (rF Pd) (q.bind g):=λv hv=>by
 obtain⟨z,h1,h2⟩:=AR hv
 refine(Xj M (F z) (O.mono ∅) T N hb .nil (good_none S).pass (R z h1) U Y Z).imp λσ H Q ⟨H0,F,hs,kq⟩=>⟨H0,F,hs,λxs J kp r y dx hy hdx sf=>?_⟩
 rw[BO]
 have l:Kp J (EU (L2.upd (L2.upd J dx (.own y)) y (.ins C dx [])) y):=λa o e=>by
  have L:a≠y:=λc=>by lia
  have n2:a≠dx:=λc=>by lia
  rw[FZ L,AO L,AO n2];exact e
 refine⟨y,dx,xs,v,rfl,Ar,h2,⟨r.1,λi P u e1 e2 m B=>r.2 i P u e1 e2 m (l.trans B)⟩,λm B ho=>⟨rfl,kq _ m (kp.trans (l.trans B)) λH3 E=>ho H3 ⟨E.tup,E.frz,λa o w=>E.fix a o ⟨?_,w.2⟩⟩⟩⟩
 cases e0:H a with
 | none=>rfl
 | some u=>rw[l a u (kp a u e0)]at w;cases w.1
def AtI(Pd:α->Hp->V->Prop)(C:AL)(f:Str)(Q:α->Hp->V->Prop):Prop:=∀v H x,Pd v H x->∃a l fs y,x=.ref a/\H a=some (.ins C l fs)/\fs.lookup f=some y/\Q v H y
theorem F7{Pd:α->Hp->V->Prop}{ob:γ->Ob}{g:α->γ}{v:α}{i:Nat}(l:Cls X.K C)(m:Cj X.K C f)(h:AtI Pd C f λv H y=>∃a,y=.ref a/\OB X.K H a (ob (g v)))(w:PE X o (DX i))(hi:autoParam (A[i]?=some (.q λM H y=>Pd v H y)) yq0q)(hb:autoParam (Bi o f X.env (A6 o X.env)=A6 o X.env) yq0q):VE X A (.Attribute o f pos) (rO X.K ob) (some (g v)):=
 fU l m (IK w hi) (λv H x q=>let ⟨a,B,fs,y,E,G,I,J⟩:=h v H x q;⟨a,B,fs,y,E,G,I,λM M=>J⟩) hb
theorem j9{Pd:α->Hp->V->Prop}{enc:γ->D}{g:α->List γ}{v:α}{i:Nat}(L:Cls X.K C)(N:Cj X.K C f)(h:AtI Pd C f λv H y=>∃a,y=.ref a/\OB X.K H a (oL enc (g v)))(O:PE X o (DX i))(hi:autoParam (A[i]?=some (.q λM H y=>Pd v H y)) yq0q)(hb:autoParam (Bi o f X.env (A6 o X.env)=A6 o X.env) yq0q):VF X A (.Attribute o f pos) enc (some (g v)):=λl P=>by
 cases P
 refine(Ja O hb).imp λσ H Q ⟨H0,F,R,k⟩=>?_
 obtain⟨y,S,G⟩:=R.at hi;obtain⟨a,T,fs,y2,rfl,m,U,b,rfl,h4⟩:=h v H y (G H Kp.refl.fr)
 have Fa:=BR λn=>by
  obtain⟨Y,Z,uk,_,I,B,_⟩:=h v _ _ (G (L2.upd H a (.own 0)) ⟨λc xs e=>by rw[AO (λz=>by rw[z,m]at e;cases e)];exact e,λc ob u e=>by rw[AO (λz=>by rw[z,m]at e;cases e)];exact e,λc o w e=>by rw[AO (λz=>n (z▸w))];exact e⟩);cases I;rw[Ar]at B;cases B
 refine⟨_,S,a,C,T,fs,_,rfl,m,L,N,U,k b H .refl λJ E=>?_⟩;obtain⟨Y,Z,uk,y',I,B,e3,b',e4,e5⟩:=h v J _ (G J ⟨E.tup,E.frz,λc o w=>E.fix c o (.inl w)⟩);cases I;rw[E.fix a _ (.inl Fa) m]at B
 ext
end
end L7
namespace PySem
open SetTable
noncomputable def Oe(m:Nat)(p:Tw):Tw:=if p.more > 0 then{ p with j:=p.j+1,more:=p.more - 1 } else{ p with j:=(T6 m p.i p.perturb).1,more:=FW m (T6 m p.i p.perturb).1 - (T6 m p.i p.perturb).1,i:=(T6 m p.i p.perturb).1,perturb:=(T6 m p.i p.perturb).2 }
theorem Wr(t:Dz)(p:Tw):t.advance p=Oe t.mask p:=by rfl
def itq(m:Nat):Nat->Tw->Tw
 | 0,p=>p
 | s+1,p=>Oe m (itq m s p)
theorem Wa(m a b:Nat)(p:Tw):itq m (a+b) p=itq m b (itq m a p):=by
 induction b with
 | zero=>rfl
 | succ b l=>exact congrArg (Oe m) l
noncomputable def Ps(m i pt:Nat):Tw:=⟨i,FW m i - i,i,pt,none⟩
noncomputable def lpq(m:Nat):Nat->Nat×Nat->Nat×Nat
 | 0,x=>x
 | k+1,x=>T6 m (lpq m k x).1 (lpq m k x).2
theorem lE(m i:Nat):FW m i - i<=9:=by unfold FW;split <;> ext
theorem WZ{m i pt:Nat}:∀q,q<=FW m i - i->itq m q (Ps m i pt)=⟨i+q,FW m i - i - q,i,pt,none⟩
 | 0,_=>rfl
 | q+1,h=>by
  show Oe m (itq m q (Ps m i pt))=_;rw[WZ q ∅];unfold Oe;rw[qX (by show FW m i - i - q > 0;lia)];rfl
theorem Xx{m i pt:Nat}:itq m (FW m i - i+1) (Ps m i pt)=Ps m (T6 m i pt).1 (T6 m i pt).2:=by
 show Oe m (itq m (FW m i - i) (Ps m i pt))=_;rw[WZ _ (AN _)];unfold Oe;rw[qY (by ext)];rfl
theorem jW{m i pt:Nat}:∀k,∃s,s<=10 * k/\itq m s (Ps m i pt)=Ps m (lpq m k (i,pt)).1 (lpq m k (i,pt)).2
 | 0=>⟨0,AN _,rfl⟩
 | k+1=>by
  obtain⟨s,o,l⟩:=jW k;refine⟨s+(FW m (lpq m k (i,pt)).1 - (lpq m k (i,pt)).1+1),?_,?_⟩
  ·have:=lE m (lpq m k (i,pt)).1;lia
  ·rw[Wa,l,Xx];rfl
theorem jU{m i pt:Nat}:∀k,(lpq m k (i,pt)).2=pt / 32 ^ k
 | 0=>by simp[lpq]
 | k+1=>by
  show(lpq m k (i,pt)).2 / 32=_;rw[jU k,Nat.div_div_eq_div_mul,KI]
theorem cD{m:Nat}{x:Nat×Nat}(a:Nat):∀b,lpq m (a+b) x=lpq m b (lpq m a x)
 | 0=>rfl
 | b+1=>by
  show T6 m (lpq m (a+b) x).1 (lpq m (a+b) x).2=_;rw[cD a b];rfl
noncomputable def lcq(m:Nat):Nat->Nat->Nat
 | 0,i=>i
 | k+1,i=>(lcq m k i * 5+1) % (m+1)
theorem TQ{m:Nat}(a i:Nat):∀b,lcq m (a+b) i=lcq m b (lcq m a i)
 | 0=>rfl
 | b+1=>by show(lcq m (a+b) i * 5+1) % (m+1)=_;rw[TQ a i b];rfl
theorem Xp{m i:Nat}:∀k,lpq m k (i,0)=(lcq m k i,0)
 | 0=>rfl
 | k+1=>by show T6 m (lpq m k (i,0)).1 (lpq m k (i,0)).2=_;rw[Xp k];simp[T6,lcq]
noncomputable def orbq(m:Nat):Nat->Nat->List Nat
 | 0,_=>[]
 | k+1,i=>i :: orbq m k ((i * 5+1) % (m+1))
theorem bm{m:Nat}:∀(k i j:Nat),j∈orbq m k i->∃b,b < k/\lcq m b i=j
 | 0,_,_,h=>by cases h
 | k+1,i,j,h=>by
  rcases Aj.mp h with rfl | h
  ·exact⟨0,by ext,rfl⟩
  ·obtain⟨b,o,l⟩:=bm k _ j h
   exact⟨1+b,by lia,by rw[TQ];exact l⟩
def Msk(m:Nat):Prop:=m=7∨m=31∨m=127
theorem Msk.orb{m:Nat}(h:Msk m):(∀j,j < m+1->∃b,b < m+1/\lcq m b 0=j)/\lcq m (m+1) 0=0:=by
 have l:∀m,(A0 (m+1)).all (λj=>(PySem.orbq m (m+1) 0).contains j)=true->∀j,j < m+1->∃b,b < m+1/\lcq m b 0=j:=λm e j o=>bm _ _ _ (by
  ext)
 rcases h with rfl | rfl | rfl
 ·exact⟨l _ (by rfl),by rfl⟩
 ·exact⟨l _ (by rfl),by rfl⟩
 ·exact⟨l _ (by rfl),by rfl⟩
theorem ij(h:Int):bits h < 2 ^ 64:=by
 unfold bits
 lia
theorem cY{m:Nat}(A:Msk m)(h:Int){j:Nat}(B:j < m+1):∃k,k < m+14/\(lpq m k (bits h % (m+1),bits h)).1=j:=by
 obtain⟨l,C⟩:=A.orb
 have o:lpq m 13 (bits h % (m+1),bits h)=((lpq m 13 (bits h % (m+1),bits h)).1,0):=by
  have:(lpq m 13 (bits h % (m+1),bits h)).2=0:=by
   rw[jU];exact Nat.div_eq_of_lt (OV (ij h) (by ext))
  rw[<-this]
 have w:(lpq m 13 (bits h % (m+1),bits h)).1 < m+1:=NN _ (Vp _);generalize (lpq m 13 (bits h % (m+1),bits h)).1=i at o w;obtain⟨a,H,E⟩:=l i w;obtain⟨b,b1,b2⟩:=l j B
 have fin:∀r,r < m+1->lcq m (a+r) 0=j->∃k,k < m+14/\(lpq m k (bits h % (m+1),bits h)).1=j:=λr I G=>by
  refine⟨13+r,by lia,?_⟩;rw[cD,o,Xp];rw[<-E,<-TQ];exact G
 by_cases c:a<=b
 ·exact fin (b - a) (by grind) ∅
 ·refine fin (m+1+b - a) ∅ ?_
  rw[show a+(m+1+b - a)=(m+1)+b by lia,TQ,C];exact b2
theorem mY{m:Nat}(l:Msk m)(h:Int){j:Nat}(o:j < m+1):∃s,s < 10 * (m+14)/\(itq m s (Ps m (bits h % (m+1)) (bits h))).j=j:=by
 obtain⟨k,B,w⟩:=cY l h o;obtain⟨s,C,A⟩:=jW k;exact⟨s,by lia,by rw[A];exact w⟩
def p0q(m:Nat)(h:Int):Tw:=Ps m (bits h % (m+1)) (bits h)
def sqq(m:Nat)(h:Int)(s:Nat):Nat:=(itq m s (p0q m h)).j
def Rch(m:Nat)(l:List Nat)(q:Int×Nat):Prop:=∃s,sqq m q.1 s=q.2/\∀o,o < s->sqq m q.1 o∈l
structure Tbq(t:Dz)(hs:ZLi):Prop where
 msk:Msk t.mask
 dm:t.dummies = #[]
 up:Up t.place
 sz:t.place.size=hs.length
 le:∀j∈t.place.toList,j<=t.mask
 few:hs.length * 5 < t.mask * 3
 rch:∀q∈hs.zip t.place.toList,Rch t.mask t.place.toList q
theorem jY(m:Nat)(p:Tw):∀s,(itq m s p).dummy=p.dummy
 | 0=>rfl
 | s+1=>by
  have:=jY m p s;show(Oe m (itq m s p)).dummy=_;unfold Oe
  split <;> exact this
theorem NZ{m i:Nat}(h:i<=m):FW m i<=m:=by unfold FW;split <;> ext
theorem Nl(m i:Nat):i<=FW m i:=by unfold FW;split <;> ext
theorem jX{m:Nat}(h:Int):∀s,(itq m s (p0q m h)).j+(itq m s (p0q m h)).more<=m
 | 0=>by
  have l:bits h % (m+1)<=m:=OX (NN _ (Vp _));have o:=NZ l;have w:=Nl m (bits h % (m+1));show bits h % (m+1)+(FW m (bits h % (m+1)) - bits h % (m+1))<=m
  ext
 | s+1=>by
  have A:=jX (m:=m) h s;show(Oe m (itq m s (p0q m h))).j+(Oe m (itq m s (p0q m h))).more<=m;unfold Oe;split
  ·symm;lia
  ·have l:(T6 m (itq m s (p0q m h)).i (itq m s (p0q m h)).perturb).1<=m:=OX (NN _ (Vp _))
   have o:=NZ l;have w:=Nl m (T6 m (itq m s (p0q m h)).i (itq m s (p0q m h)).perturb).1;ext
theorem XX{m:Nat}(h:Int)(s:Nat):sqq m h s<=m:=by have:=jX (m:=m) h s;unfold sqq;lia
theorem mF{m:Type}[DecidableEq m]:∀{l k:List m},l.Nodup->(∀x∈l,x∈k)->l.length<=k.length
 | [],_,_,_=>Bc _
 | x :: l,k,w,h=>by
  have o:=h x AW;obtain⟨A,B⟩:=BJ.mp w
  have:=mF B λy C=>(W5 (λz:y=x=>A (by ext))).mpr (h y (AM _ C))
  rw[Tz o]at this;have:=VY o;rw[Am]
  grind
section
variable{t:Dz}{hs:ZLi}{h:Int}
theorem LH(u:Up t.place){j i:Nat}(e:t.place[i]?=some j):t.slot j=.live i:=by
 have l:i < t.place.size:=by
  rcases Gf i t.place.size with z | z
  ·exact z
  ·rw[J1 z]at e;cases e
 have o:t.place[i]=j:=by rw[Bq l]at e;exact B1 e
 have hb:=(K3 u j).eq ⟨KJ l,λk m z=>o▸u.lt z l,λk m z=>by
  rcases Gf i k with c | c
  ·have:=u.lt c m;lia
  ·have:k=i:=by lia
   subst this;ext⟩
 unfold slot
 ext
theorem ay(l:t.dummies = #[]){j:Nat}(n:j∉t.place.toList):t.slot j=.empty:=by
 unfold slot;rw[qY,qY]
 ·rw[l];simp[has,FK]
 ·intro z
  have z:=eq_of_beq z
  exact n (by
   have:=Ce z
   ext)
theorem qo{j:Nat}(h:j∈t.place.toList):∃i:Nat,t.place[i]?=some j:=by
 obtain⟨i,l⟩:=HN h
 grind
theorem Tbq.first(T:Tbq t hs)(h:Int):∃E,E < 10 * (t.mask+14)/\sqq t.mask h E∉t.place.toList/\∀s,s < E->sqq t.mask h s∈t.place.toList:=by
 have A:t.place.toList.length<=t.mask:=by rw[Ac,T.sz];have:=T.few;lia
 obtain⟨j,l,G⟩:∃j,j < t.mask+1/\j∉t.place.toList:=by
  refine BR λz=>?_
  have all:∀j∈A0 (t.mask+1),j∈t.place.toList:=λj l=>BR λw=>z ⟨j,B9.mp l,w⟩
  have:=mF Om all;rw[DS]at this
  lia
 obtain⟨s,H,I⟩:=mY T.msk h l
 have m:∀n,(∃s,s<=n/\sqq t.mask h s∉t.place.toList)->∃E,E<=n/\sqq t.mask h E∉t.place.toList/\∀s,s < E->sqq t.mask h s∈t.place.toList:=λn=>by
  induction n with
  | zero=>rintro⟨s,B,C⟩;exact⟨s,B,C,λN h=>zX h (by ext)⟩
  | succ n J=>
   rintro⟨s,B,C⟩
   by_cases c:∃s,s<=n/\sqq t.mask h s∉t.place.toList
   ·obtain⟨E,L,o⟩:=J c;exact⟨E,by lia,o⟩
   grind
 obtain⟨E,L,o⟩:=m s ⟨s,AN _,by show(itq t.mask s (p0q t.mask h)).j∉_;rw[show(itq t.mask s (p0q t.mask h)).j=j from I];exact G⟩;exact⟨E,by lia,o⟩
theorem Tbq.go(T:Tbq t hs){E:Nat}(C:sqq t.mask h E∉t.place.toList)(hl:∀s,s < E->sqq t.mask h s∈t.place.toList){m:Nat->Int}:∀(f s:Nat),s<=E->E < s+f ->
  (LU t m h f (itq t.mask s (p0q t.mask h))=some (.empty (sqq t.mask h E) none)/\∀s' i,s<=s'->s' < E->t.place[i]?=some (sqq t.mask h s')->m i≠h) ∨
  ∃s' i,s<=s'/\s' < E/\t.place[i]?=some (sqq t.mask h s')/\m i=h/\LU t m h f (itq t.mask s (p0q t.mask h))=some (.candidate (sqq t.mask h s') i (itq t.mask (s'+1) (p0q t.mask h)))/\∀l i,s<=l->l < s'->t.place[i]?=some (sqq t.mask h l)->m i≠h
 | 0,s,H,G=>zX G ∅
 | f+1,s,H,G=>by
  by_cases c:s=E
  ·subst c
   refine .inl ⟨?_,λs' M w o=>zX o ∅⟩;unfold LU;rw[show(itq t.mask s (p0q t.mask h)).j=sqq t.mask h s from rfl,ay T.dm C];rw[jY];rfl
  ·obtain⟨i,B⟩:=qo (hl s ∅)
   have e:LU t m h (f+1) (itq t.mask s (p0q t.mask h))=if m i==h then some (.candidate (sqq t.mask h s) i (itq t.mask (s+1) (p0q t.mask h)))else LU t m h f (itq t.mask (s+1) (p0q t.mask h)):=by
    conv=>lhs;unfold LU
    rw[show(itq t.mask s (p0q t.mask h)).j=sqq t.mask h s from rfl,LH T.up B];rw[Wr];rfl
   have one:∀k,t.place[k]?=some (sqq t.mask h s)->k=i:=λk I=>by
    have a:=LH T.up I;rw[LH T.up B]at a;cases a;rfl
   by_cases d:m i=h
   ·exact .inr ⟨s,i,AN _,by lia,B,d,by ext,λl M w o=>zX o ∅⟩
   ·have e:=e.trans (qY (by simp[d]))
    rw[e]
    have step:∀{l k:Nat},s<=l->t.place[k]?=some (sqq t.mask h l)->¬s+1<=l->m k≠h:=λ{l k} w o A=>by
     grind
    rcases Tbq.go T C hl f (s+1) ∅ ∅with⟨a,b⟩ | ⟨s',k,a,b,J,L,N,O⟩
    ·exact .inl ⟨a,λs' k w o A=>by
      by_cases z:s+1<=s'
      ·exact b s' k z o A
      ·exact step w A z⟩
    ·exact .inr ⟨s',k,by lia,b,J,L,N,λl k w o A=>by
      by_cases z:s+1<=l
      ·exact O l k z o A
      ·exact step w A z⟩
end
theorem TX{m i pt S q:Nat}{h:Int}(e:itq m S (p0q m h)=Ps m i pt)(l:q<=FW m i - i):sqq m h (S+q)=i+q:=by
 unfold sqq;rw[Wa,e,WZ q l]
abbrev Nz(o:Array (Option Nat))(j:Nat):Prop:=o[j]?=some none
theorem X1{o:Array (Option Nat)}{j:Nat}(l:j < o.size):(o.getD j (some 0)).isNone=true↔Nz o j:=by
 rw[Ct,Bq l];simp[Nz,l]
theorem X0{m:Nat}{h:Int}{o:Array (Option Nat)}(J:o.size=m+1):∀(f k S:Nat),itq m S (p0q m h)=Ps m (lpq m k (bits h % (m+1),bits h)).1 (lpq m k (bits h % (m+1),bits h)).2->(∀s,s < S->¬Nz o (sqq m h s)) ->
  (∃K,k<=K/\K < k+f/\Nz o (lpq m K (bits h % (m+1),bits h)).1) ->
  ∃s,IF m o f (lpq m k (bits h % (m+1),bits h)).1 (lpq m k (bits h % (m+1),bits h)).2=some (sqq m h s)/\Nz o (sqq m h s)/\∀s',s' < s->¬Nz o (sqq m h s')
 | 0,k,S,_,_,⟨K,a,b,_⟩=>zX b ∅
 | f+1,k,S,l,G,⟨K,a,b,c⟩=>by
  have A:=X0 (h:=h) J f (k+1)
  have B:(lpq m k (bits h % (m+1),bits h)).1<=m:=by
   have:=XX (m:=m) h S;unfold sqq at this;rw[l]at this;exact this
  have L:lpq m (k+1) (bits h % (m+1),bits h)=T6 m (lpq m k (bits h % (m+1),bits h)).1 (lpq m k (bits h % (m+1),bits h)).2:=rfl;rw[L]at A
  have C:K=k->Nz o (lpq m k (bits h % (m+1),bits h)).1:=λe=>e▸c
  generalize lpq m k (bits h % (m+1),bits h)=x at B l A C ⊢;obtain⟨i,pt⟩:=x;dsimp only at B l A C ⊢;have Q:=NZ B;have N:=Nl m i;unfold IF
  cases H:(A0 (FW m i+1 - i)).find? λk=>(o.getD (i+k) (some 0)).isNone with
  | some q=>
   obtain⟨E,I,O⟩:=List.find?_range_eq_some.mp H;have I:=B9.mp I;refine⟨S+q,by rw[TX l (by grind)],by rw[TX l ∅];exact(X1 (by grind)).mp E,λs' P=>?_⟩
   by_cases z:s' < S
   ·exact G s' z
   ·obtain⟨q',rfl⟩:∃q',s'=S+q':=⟨s' - S,by ext⟩
    rw[TX l (by grind)];intro w;have:=O q' (by ext);ext
  | none=>
   have E:=Zk.mp H
   have run:∀q,q<=FW m i - i->¬Nz o (i+q):=λq R w=>E q (B9.mpr (by grind)) ((X1 (by grind)).mpr w)
   refine A (S+(FW m i - i+1)) (by rw[Wa,l,Xx]) (λs P=>?_) ⟨K,?_,by lia,c⟩
   ·by_cases z:s < S
    ·exact G s z
    ·obtain⟨q',rfl⟩:∃q',s=S+q':=⟨s - S,by lia⟩
     rw[TX l ∅];exact run q' ∅
   ·rcases Gf k K with z | z
    ·exact z
    ·exact zX (C ∅) (run 0 (Bc _))
structure Qo(m:Nat)(o:Array (Option Nat))(l:ZLi):Prop where
 sz:o.size=m+1
 lt:∀(j x:Nat),o[j]?=some (some x)->x < l.length
 inj:∀(i j x:Nat),o[i]?=some (some x)->o[j]?=some (some x)->i=j
 has:∀(x:Nat) h,l[x]?=some h->∃s,o[sqq m h s]?=some (some x)/\∀s',s' < s->¬Nz o (sqq m h s')
theorem Qo.room{m:Nat}{o:Array (Option Nat)}{l:ZLi}(O:Qo m o l)(hl:l.length<=m):∃j,j < m+1/\Nz o j:=by
 refine BR λz=>?_
 have all:∀j,j < m+1->∃x,o[j]?=some (some x):=λj A=>by
  have E:j < o.size:=by rw[O.sz];exact A
  cases e:o[j]with
  | none=>exact zX ⟨j,A,by show o[j]?=_;ext⟩ z
  | some x=>ext
 have B:((A0 (m+1)).map λj=>((o[j]?).getD none).getD 0).Nodup:=by
  rw[Ra,BN]
  refine Om.imp_of_mem λ{a b} G hb H e=>?_
  obtain⟨x,w⟩:=all a (B9.mp G);obtain⟨y,C⟩:=all b (B9.mp hb);rw[w,C]at e;have e:=e;subst e;exact H (O.inj _ _ _ w C)
 have:=mF B λx w=>by
  obtain⟨j,A,rfl⟩:=Ax.mp w;obtain⟨x,w⟩:=all j (B9.mp A);rw[w];exact B9.mpr (O.lt _ _ w)
 rw[AF,DS,DS]at this
 lia
theorem Qo.nil(m:Nat):Qo m (de (m+1) none) []:=by
 have l:∀(j x:Nat),(de (m+1) (none:Option Nat))[j]?≠some (some x):=λj x e=>by
  rw[Array.getElem?_replicate]at e
  ext
 exact⟨by simp,λj x e=>zX e (l j x),λi j x e=>zX e (l i x),λx h e=>by simp at e⟩
theorem Qo.step{m:Nat}(Q:Msk m){o:Array (Option Nat)}{l:ZLi}(O:Qo m o l)(hl:l.length<=m)(h:Int):∃j,IF m o (Vd m) (bits h % (m+1)) (bits h)=some j/\Qo m (o.setIfInBounds j (some l.length)) (l++[h]):=by
 obtain⟨j,R,S⟩:=O.room hl;obtain⟨K,k1,T⟩:=cY Q h R;obtain⟨s,e,f,n⟩:=X0 O.sz (Vd m) 0 0 rfl (λs J=>zX J (by ext)) ⟨K,Bc _,by unfold Vd;lia,by rw[T];exact S⟩
 have J:sqq m h s < o.size:=by rw[O.sz];exact da (XX h s)
 have B:(o.setIfInBounds (sqq m h s) (some l.length))[sqq m h s]?=some (some l.length):=by rw[Array.getElem?_setIfInBounds];simp[J]
 have A:∀i,i≠sqq m h s->(o.setIfInBounds (sqq m h s) (some l.length))[i]?=o[i]?:=λi N=>by grind
 have P:∀i,¬Nz o i->¬Nz (o.setIfInBounds (sqq m h s) (some l.length)) i:=λi N w=>by
  by_cases z:i=sqq m h s
  ·lia
  ·rw[Nz,A i z]at w;exact N w
 refine⟨sqq m h s,e,by simp[O.sz],λj x q=>?_,λi j x E G=>?_,λx U q=>?_⟩
 ·by_cases z:j=sqq m h s
  ·ext
  ·rw[A j z]at q;have:=O.lt _ _ q;simp;lia
 ·by_cases H:i=sqq m h s <;> by_cases I:j=sqq m h s
  ·rw[H,I]
  ·rw[H,B]at E;rw[A j I]at G;cases E;have:=O.lt _ _ G;ext
  ·rw[I,B]at G;rw[A i H]at E;cases G;have:=O.lt _ _ E;lia
  ·rw[A i H]at E;rw[A j I]at G;exact O.inj _ _ _ E G
 ·by_cases z:x < l.length
  ·rw[Br z]at q
   obtain⟨r,X,Y⟩:=O.has x U q;refine⟨r,?_,λL C=>P _ (Y L C)⟩;rw[A _ λw=>?_]
   ·exact X
   lia
  ·have Z:x=l.length:=by
    have:=(AJ.mp q).1;simp at this;lia
   subst Z;rw[Bl (AN _),oM]at q;cases q;exact⟨s,B,λL C=>P _ (n L C)⟩
theorem U5{m:Nat}(H:Msk m){hs:Array Int}(hl:hs.size<=m+1):∃o,layClean m hs=some o/\Qo m o hs.toList:=by
 have B:∀(r l:ZLi) (o:Array (Option Nat)),Qo m o l->l.length+r.length<=m+1 ->
   ∃A ,r.foldl (λ(C:Option (Array (Option Nat)×Nat)) h=>do
    let (w,k) <-C
    let j <-IF m w (Vd m) (bits h % (m+1)) (bits h)
    pure (w.setIfInBounds j (some k),k+1)) (some (o,l.length))=some (A,l.length+r.length)/\Qo m A (l++r):=by
  intro r
  induction r with
  | nil=>intro l o O _;exact⟨o,rfl,by rw[BO];exact O⟩
  | cons h r I=>
   intro l o O hl;rw[Am]at hl;obtain⟨j,e,J⟩:=O.step H ∅ h;obtain⟨A,E,G⟩:=I (l++[h]) _ J (by rw[AS,Ap];lia);refine⟨A,?_,by rw[Bf]at G;exact G⟩;rw[List.foldl_cons];show List.foldl _ ((IF m o (Vd m) (bits h % (m+1)) (bits h)).bind λj=>some (o.setIfInBounds j (some l.length),l.length+1)) r=_;rw[e];rw[AS,Ap]at E;rw[Am,show l.length+(r.length+1)=l.length+1+r.length by lia];exact E
 obtain⟨o,e,O⟩:=B hs.toList [] _ (Qo.nil m) (by simpa using hl);refine⟨o,?_,by simpa using O⟩;unfold layClean
 ext
noncomputable abbrev HI(es:Array (Int×AD)):ZLi:=es.toList.map (·.1)
theorem WN{l:List Nat}{n:Nat}(m:l.Nodup)(o:∀x∈l,x < n)(w:∀x,x < n->x∈l):l.Perm (A0 n):=
 (List.perm_ext_iff_of_nodup m Om).mpr λx=>⟨λh=>B9.mpr (o x h),λh=>w x (B9.mp h)⟩
theorem bI{m:Type}(l:List m):(A0 l.length).filterMap (λi=>l[i]?)=l:=by
 induction l with
 | nil=>rfl
 | cons a l o=>
  rw[Am,VX,Hj];simp only[UA,Zl];exact congrArg (a :: ·) o
theorem iJ{m fg mv:Nat}{led plain:Bool}(P:Msk m){es:Array (Int×AD)}(hl:es.size * 5 < m * 3) :
  ∃t ord,laid m fg mv led plain (es.map (·.1))=some (t,ord)/\t.mask=m/\t.led=led/\t.moves=mv/\EN (ord.filterMap (es[·]?)).toList es.toList/\Tbq t (HI (ord.filterMap (es[·]?))):=by
 obtain⟨o,e,O⟩:=U5 P (hs:=es.map (·.1)) (by rw[eR];lia)
 have Q:(es.map (·.1)).toList.length=es.size:=by simp
 have A:∀j x,(j,x)∈(A0 (m+1)).filterMap (λj=>(o.getD j none).map (j,·))↔o[j]?=some (some x):=λj x=>by
  rw[NC]
  constructor
  ·rintro⟨Z,B,q⟩
   rw[Ct]at q
   cases w:o[Z]? with
   | none=>ext
   | some y=>
    ext
  ·intro q
   have B:j < o.size:=by
    rcases Gf j o.size with z | z
    ·exact z
    ·ext
   exact⟨j,B9.mpr (by rw[<-O.sz];exact B),by ext⟩
 have R:((A0 (m+1)).filterMap (λj=>(o.getD j none).map (j,·))).Pairwise λa b=>a.1 < b.1:=by
  refine N7 _ (λa a' h b hb b' G=>?_) KC
  have k:∀(a:Nat) (b:Nat×Nat),(o.getD a none).map (a,·)=some b->b.1=a:=λa b q=>by
   cases w:o.getD a none with
   | none=>ext
   | some _=>rw[w]at q;cases q;rfl
  rw[k _ _ hb,k _ _ G];exact h
 have H:laid m fg mv led plain (es.map (·.1))=some ({ mask:=m,place:=(((A0 (m+1)).filterMap λj=>(o.getD j none).map (j,·)).map (·.1)).toArray,dummies:=#[],finger:=fg,led,moves:=mv,plain },(((A0 (m+1)).filterMap λj=>(o.getD j none).map (j,·)).map (·.2)).toArray):=by
  unfold laid;rw[e];rfl
 have S:=(iI H).1;generalize (A0 (m+1)).filterMap (λj=>(o.getD j none).map (j,·))=lv' at A R H S
 have T:(lv'.map (·.2)).Perm (A0 es.size):=by
  refine WN ?_ (λx C=>?_) λx C=>?_
  ·rw[Ra,BN]
   refine R.imp_of_mem λ{a b} E hb sf e=>?_
   have:=O.inj _ _ _ ((A a.1 a.2).mp E) (by rw[e];exact(A b.1 b.2).mp hb)
   ext
  ·obtain⟨⟨j,y⟩,I,rfl⟩:=Ax.mp C
   have:=O.lt _ _ ((A j y).mp I);ext
  ·have:x < (es.map (·.1)).toList.length:=by rw[Q];exact C
   obtain⟨s,J,_⟩:=O.has x _ (AI this);exact Ax.mpr ⟨_,(A _ _).mpr J,rfl⟩
 have ef:((lv'.map (·.2)).toArray.filterMap (es[·]?)).toList=(lv'.map (·.2)).filterMap (es.toList[·]?):=by
  rw[Array.toList_filterMap];simp
 have L:EN ((lv'.map (·.2)).toArray.filterMap (es[·]?)).toList es.toList:=by
  rw[ef]
  have:=T.filterMap λi=>es.toList[i]?
  rw[<-Ac,bI]at this;exact this
 refine⟨_,_,H,rfl,rfl,rfl,L,P,rfl,S,?_,λj B=>?_,?_,λq l=>?_⟩
 ·rw[AF,L.length_eq,BU,AF,Ac]
  have:=T.length_eq
  ext
 ·have B:j∈lv'.map (·.1):=by simpa using B
  obtain⟨⟨j,y⟩,I,rfl⟩:=Ax.mp B;have B:=(A j y).mp I
  rcases Gf j o.size with z | z
  ·rw[O.sz]at z;exact OX z
  ext
 ·rw[AF,L.length_eq,Ac];exact hl
 ·-- each entry is come to
  have l:q∈(((lv'.map (·.2)).filterMap (es.toList[·]?)).map (·.1)).zip (lv'.map (·.1)):=by
   rw[show HI ((lv'.map (·.2)).toArray.filterMap (es[·]?))=((lv'.map (·.2)).filterMap (es.toList[·]?)).map (·.1) by ext]at l;simpa using l
  have N:∀k:List (Nat×Nat),(∀x∈k,x∈lv')->∀q∈(((k.map (·.2)).filterMap (es.toList[·]?)).map (·.1)).zip (k.map (·.1)),∃x,(q.2,x)∈lv'/\((es.map (·.1)).toList)[x]?=some q.1:=by
   intro k
   induction k with
   | nil=>intro _ q l;simp at l
   | cons a k ih=>
    intro U q l;have E:=U a AW
    have X:a.2 < es.toList.length:=by
     have:=O.lt _ _ ((A a.1 a.2).mp E);rw[Q]at this;rw[Ac];exact this
    rw[Ai,Hj,AI X,Ai,Ai,IG]at l
    rcases Aj.mp l with rfl | l
    ·refine⟨a.2,E,?_⟩
     rw[G4,Ab,AI X];rfl
    ·exact ih (λx C=>U x (AM _ C)) q l
  obtain⟨x,J,h2⟩:=N lv' (λM h=>h) q l;obtain⟨s,s1,s2⟩:=O.has x _ h2;refine⟨s,O.inj _ _ _ s1 ((A _ _).mp J),λY hs'=>?_⟩
  have hz:sqq m q.1 Y < o.size:=by rw[O.sz];exact da (XX _ _)
  cases w:o[sqq m q.1 Y]with
  | none=>grind
  | some y=>
   ext
theorem Gx{l:Type}(xs:Array l)(p:Nat)(x:l):(insertAt xs p x).toList=xs.toList.take p++x :: xs.toList.drop p:=by
 unfold insertAt;simp[Array.toList_extract,List.extract_eq_drop_take];exact CU ∅
theorem Rch.mono{m:Nat}{l o:List Nat}{q:Int×Nat}(r:Rch m l q)(h:∀x∈l,x∈o):Rch m o q:=let ⟨s,a,b⟩:=r;⟨s,a,λw z=>h _ (b w z)⟩
theorem Tbq.put{t:Dz}{es:Array (Int×AD)}{h:Int}{x:AD}(T:Tbq t (HI es)){E:Nat}(C:sqq t.mask h E∉t.place.toList)(hl:∀s,s < E->sqq t.mask h s∈t.place.toList) :
  (t.put (sqq t.mask h E)).1={ t with place:=insertAt t.place (FK t.place (sqq t.mask h E)) (sqq t.mask h E) } /\
  ((es.size+1) * 5 < t.mask * 3->Tbq (t.put (sqq t.mask h E)).1 (HI (insertAt es (t.put (sqq t.mask h E)).2 (h,x)))):=by
 have B:(t.put (sqq t.mask h E)).1={ t with place:=insertAt t.place (FK t.place (sqq t.mask h E)) (sqq t.mask h E) }:=by
  show({ t with place:=insertAt t.place (FK t.place (sqq t.mask h E)) (sqq t.mask h E),dummies:=_ }:Dz)=_;rw[T.dm];rfl
 refine⟨B,λG=>?_⟩;have H:(t.put (sqq t.mask h E)).2=FK t.place (sqq t.mask h E):=rfl;rw[B,H]
 have I:=Yb T.up λz=>C (BB.mpr (Ce z))
 generalize FK t.place (sqq t.mask h E)=p at *
 have N:t.place.toList.length=(HI es).length:=by rw[Ac];exact T.sz
 have l:=Gx t.place p (sqq t.mask h E)
 have w:HI (insertAt es p (h,x))=(HI es).take p++h :: (HI es).drop p:=by
  unfold HI;rw[Gx,Be,Ai,Mc,Tx]
 have sub:∀y∈t.place.toList,y∈(insertAt t.place p (sqq t.mask h E)).toList:=λy J=>by
  rw[l];rw[<-DC p t.place.toList]at J
  grind
 refine⟨T.msk,T.dm,I,?_,λj m=>?_,?_,λq o=>?_⟩
 ·rw[<-Ac,l,w]
  ext
 ·have m:=m
  rw[l]at m
  rcases Ak.mp m with z | z
  ·exact T.le j (FE z)
  ·rcases Aj.mp z with z | z
   ·rw[z];exact XX _ _
   ·exact T.le j (HM z)
 ·rw[w]
  have:(HI es).length=es.size:=by unfold HI;simp
  simp only[AS,Am,CV,FM,this]
  grind
 ·have o:=o
  rw[w,l,Qw (by ext),IG,show((HI es).take p).zip (t.place.toList.take p)=((HI es).zip t.place.toList).take p from List.take_zipWith.symm,show((HI es).drop p).zip (t.place.toList.drop p)=((HI es).zip t.place.toList).drop p from List.drop_zipWith.symm]at o
  rcases Ak.mp o with z | z
  ·exact(T.rch q (FE z)).mono sub
  ·rcases Aj.mp z with z | z
   ·rw[z];exact⟨E,rfl,λL A=>sub _ (hl L A)⟩
   ·exact(T.rch q (HM z)).mono sub
section
variable{prog:Al}{w:A1}{A:BP}{E:AD->AK->Prop}{s:AK}
abbrev IsR(prog:Al)(w:A1)(h:BI)(k:ZLi)(a:AL):Prop:=jv (Hz prog w) h k a
theorem QO{k:ZLi}{vs:List AD}(h:ItemsAre (Hz prog w) k vs):∀v∈vs,∃i t,v=.int i t:=by
 induction h with
 | nil=>ext
 | cons m _ o=>
  intro v l
  rcases Aj.mp l with rfl | l
  ·obtain⟨t,e⟩:=Zf m;exact⟨_,t,e⟩
  ext
theorem KQ{k:ZLi}{a:AL}{Q:Bool->AK->Prop}(G:IsR prog w s.heap k a)(h:Q true s):AZ (AY prog w) A (dq 8 (.ref a)) Q E s:=by
 have I:=G.typeIs;obtain⟨o,m,n,J,_,L,N⟩:=G;unfold dq;refine AA (E4 I G2.lookup ?_);refine AA (Ea J L ?_);dsimp only[Option.getD];refine AA ?_;rw[<-Fs];refine LR _ (λl r B=>r.1=none/\B=s/\∀v∈l,∃i t,v=.int i t) _ ?_ ?_ _ _ ⟨rfl,rfl,QO N⟩
 ·rintro v l r B ⟨C,rfl,H⟩
  obtain⟨i,t,rfl⟩:=H v AW;refine AA (AC ?_);exact AC ⟨rfl,rfl,λu O=>H u (AM _ O)⟩
 ·rintro⟨P,R⟩ B ⟨C,rfl,_⟩
  simp only at C;subst C;exact AC h
theorem N9{k:ZLi}{a:AL}{Q:Bool->AK->Prop}(I:IsR prog w s.heap k a)(h:Q false s):AZ (AY prog w) A (J9 8 (.ref a)) Q E s:=by
 obtain⟨o,m,n,G,J,L,N⟩:=I;unfold J9;refine AA (wpAny_typeOf_ref G ?_);rw[J];refine AA (AC ?_);refine AA (Ea G L ?_);refine AA ?_;rw[<-Fs];refine LR _ (λl r B=>r.1=none/\B=s/\∀v∈l,∃i t,v=.int i t) _ ?_ ?_ _ _ ⟨rfl,rfl,QO N⟩
 ·rintro v l r B ⟨C,rfl,H⟩
  obtain⟨i,t,rfl⟩:=H v AW
  have O:J9 7 (.int i t)=pure false:=by unfold J9;rfl
  rw[O];refine AA (AC ?_);exact AC ⟨rfl,rfl,λu P=>H u (AM _ P)⟩
 ·rintro⟨R,S⟩ B ⟨C,rfl,_⟩
  simp only at C;subst C;exact AC h
theorem eY{k:ZLi}{a:AL}{B:List AD}{Q:Bool->AK->Prop}(C:IsR prog w s.heap k a)(H:∀y∈B,∃b k',y=.ref b/\IsR prog w s.heap k' b)(h:Q false s):AZ (AY prog w) A (nU (.ref a) B) Q E s:=by
 unfold nU;refine AA ?_;refine LR _ (λl r m=>r.1=none/\m=s/\∀v∈l,∃b k',v=.ref b/\IsR prog w s.heap k' b) _ ?_ ?_ _ _ ⟨rfl,rfl,H⟩
 ·rintro v l r m ⟨o,e,G⟩
  subst e;obtain⟨b,k',rfl,hb⟩:=G v AW
  have nx:=λu (I:u∈l)=>G u (AM _ I)
  symm;split
  ·exact AC ⟨rfl,rfl,nx⟩
  ·refine AA (dX C ?_)
   refine AA (dX hb ?_);refine AA (N9 C ?_);refine AA (N9 hb ?_);exact AC ⟨rfl,rfl,nx⟩
 ·rintro⟨J,L⟩ m ⟨o,rfl,_⟩
  simp only at o;subst o;exact AC h
end
noncomputable abbrev hRq(prog:Al)(w:A1)(k:ZLi):Int:=Q0 (Hz prog w) k
def EnR(prog:Al)(w:A1)(h:BI)(p:(Int×AD)×ZLi):Prop:=∃b,p.1=(hRq prog w p.2,.ref b)/\IsR prog w h p.2 b
structure Of(prog:Al)(w:A1)(h:BI)(a:AL)(es:Array (Int×AD))(ep:Nat)(t:Dz)(ps:List ((Int×AD)×ZLi)):Prop where
 ob:∃o,h.get? a=some o/\o.ExactSet/\o.data=.set es ep t
 tb:Tbq t (HI es)
 led:t.led=(!(w.params.followText "set-order"))
 es':ps.map (·.1)=es.toList
 en:∀p∈ps,EnR prog w h p
theorem Tbq.fits{t:Dz}{es:Array (Int×AD)}(T:Tbq t (HI es)):t.fits es.size=true:=by
 have l:=T.sz;have m:=T.few
 have o:(HI es).length=es.size:=by unfold HI;simp
 rw[o]at l m;unfold Qr Qs;rw[T.dm,l];simp
 lia
theorem Msk.odd{m:Nat}(h:Msk m):(m % 2==0)=false:=by rcases h with rfl | rfl | rfl <;> rfl
section
variable{prog:Al}{w:A1}{A:BP}{E:AD->AK->Prop}{s:AK}{a b:AL}{es:Array (Int×AD)}{ep:Nat}{t:Dz}{ps:List ((Int×AD)×ZLi)}{k:ZLi}
theorem Of.state{Q:Array (Int×AD)×Nat×Dz->AK->Prop}(S:Of prog w s.heap a es ep t ps)(h:Q (es,ep,t) s):AZ (AY prog w) A (setState a) Q E s:=by
 obtain⟨o,l,_,m⟩:=S.ob;exact C9 l m S.tb.fits h
theorem Of.at{i:Nat}(S:Of prog w s.heap a es ep t ps)(hi:i < es.size):∃k' l,es[i]?=some (hRq prog w k',.ref l)/\IsR prog w s.heap k' l/\((hRq prog w k',AV l),k')∈ps/\ps[i]?=some ((hRq prog w k',.ref l),k'):=by
 have m:i < ps.length:=by rw[<-AF,S.es',Ac];exact hi
 obtain⟨l,e,hb⟩:=S.en _ (CB m)
 have o:(ps.map (·.1))[i]?=some (ps[i]).1:=by rw[Ab,AI m];rfl
 rw[S.es',CF]at o
 grind
theorem Rn(S:Of prog w s.heap a es ep t ps)(hu:A.units+4 < Bd)(R:IsR prog w s.heap k b){F:Nat}(hF:sqq t.mask (hRq prog w k) F∉t.place.toList)(hl:∀s,s < F->sqq t.mask (hRq prog w k) s∈t.place.toList)(T:F < 10 * Vd t.mask)
  {Q:SetFound->AK->Prop} (h1:(∃p∈ps,p.2=k)->Q (.there none) s) (h2:(∀p∈ps,p.2≠k)->Q (.free (sqq t.mask (hRq prog w k) F) false) s) :
  ∀(f s0:Nat) (st:Option Tw),s0<=F->F < s0+f->st.getD (t.probeStart (hRq prog w k))=itq t.mask s0 (p0q t.mask (hRq prog w k)) ->
   (∀s' (i:Nat) p,s' < s0->t.place[i]?=some (sqq t.mask (hRq prog w k) s')->ps[i]?=some p->p.2≠k)->AZ (AY prog w) A (Oi a (.ref b) (hRq prog w k) true f st) Q E s
 | 0,s0,st,q1,q2,_,_=>zX q2 ∅
 | f+1,s0,st,q1,q2,tW,C=>by
  have ih:=Rn S hu R hF hl T h1 h2 f
  have U:∀{i j:Nat},t.place[i]?=some j->i < es.size:=λ{i j} e=>by
   have:i < t.place.size:=by
    rcases Gf i t.place.size with z | z
    ·exact z
    ·rw[J1 z]at e;cases e
   rw[S.tb.sz]at this;ext
  have G:∀{m:Met},LU t (λi=>(es[i]?.map (·.1)).getD 0) (hRq prog w k) (10 * Vd t.mask) (itq t.mask s0 (p0q t.mask (hRq prog w k)))=some m->Dz.probe t (λi=>(es[i]?.map (·.1)).getD 0) (hRq prog w k) (st.getD (t.probeStart (hRq prog w k)))=some m:=λe=>by rw[tW];exact e
  have met:∀p∈ps,p.2=k->∃s' i,s' < F/\t.place[i]?=some (sqq t.mask (hRq prog w k) s')/\ps[i]?=some p:=λp H e=>by
   obtain⟨i,I⟩:=HN H
   have hz:i < es.size:=by
    have:=(AJ.mp I).1;rw[<-AF,S.es',Ac]at this;exact this
   have X:i < t.place.size:=by rw[S.tb.sz];simpa using hz
   obtain⟨L,b',J,_,_,N⟩:=S.at hz;rw[I]at N;cases N;have e:L=k:=e;rw[e]at J
   have Y:(hRq prog w k,t.place[i])∈(HI es).zip t.place.toList:=by
    refine A2 (i:=i) ?_;rw[SV];exact⟨by ext,by ext⟩
   obtain⟨r,r1,r2⟩:=S.tb.rch _ Y
   have hr:r < F:=by
    rcases dZ r F with z | z | z
    ·exact z
    ·ext
    ·ext
   exact⟨r,i,hr,by rw[r1,Bq X],I⟩
  unfold Oi;refine AA (S.state ?_);symm;unfold Dz.gaveWay;rw[S.tb.msk.odd]
  rcases S.tb.go hF hl (10 * Vd t.mask) s0 q1 ∅with⟨e,B⟩ | ⟨s',i,a1,a2,Z,a4,e,a5⟩
  ·have e:=G e
   erw [e]
   refine AC (h2 λp H z=>?_);obtain⟨s',i,c1,c2,c3⟩:=met p H z
   by_cases c:s' < s0
   ·exact C s' i p c c2 c3 z
   ·refine B s' i (by ext) c1 c2 ?_
    obtain⟨L,b',J,_,_,N⟩:=S.at (U c2)
    grind
  ·have e:=G e
   erw [e]
   have I:=U Z;obtain⟨L,b',J,hb',hm,N⟩:=S.at I
   have cont:AZ (AY prog w) A (do
     let some (_,y):=es[i]? | unsupported "internal:set-entry"
     let l <-Fn [y] (eqBool y (.ref b))
     let (es',_,t') <-setState a
     if true&&l then return .there none
     let some same:=t'.sameMemory t.moves t.mask | unsupported "set.changed-during-lookup:is-the-new-block-at-the-old-address"
     let xX <-match(if same then t'.slot (sqq t.mask (hRq prog w k) s')else .empty)with
      | .live o=>match es'[o]? with
       | some (_,y')=>do pure (if <-isSame y' y then some o else none)
       | none=>pure none
      | _=>pure none
     match xX with
     | none=>rule "set.search.anew";Oi a (.ref b) (hRq prog w k) true f none
     | some o=>if l then return .there (some o)else Oi a (.ref b) (hRq prog w k) true f (some (itq t.mask (s'+1) (p0q t.mask (hRq prog w k))))) Q E s:=by
    rw[J];refine AA (Cp (ji ∅ hb' R ?_));refine AA (S.state ?_)
    by_cases c:L=k
    ·rw[wX c]
     exact AC (h1 ⟨_,hm,c⟩)
    ·rw[wY c]
     simp only[i8,A5,if_false];rw[show t.sameMemory t.moves t.mask=some true by unfold Dz.sameMemory;simp];simp only[if_true];rw[LH S.tb.up Z];symm;rw[J];refine AA (wpAny_isSame_ref_self ?_);refine AA (AC ?_)
     refine ih (s'+1) _ (by trivial) ∅ rfl λO o p d1 d2 d3=>?_
     by_cases z:O < s0
     ·exact C O o p z d2 d3
     ·by_cases z2:O=s'
      ·subst z2
       have:o=i:=by
        have x:=LH S.tb.up d2;rw[LH S.tb.up Z]at x;cases x;rfl
       lia
      ·intro y
       refine a5 O o ∅ ∅ d2 ?_;obtain⟨k2,b2,f1,_,_,f4⟩:=S.at (U d2)
       grind
   cases hld:t.led with
   | true=>
    assumption
   | false=>
    refine AA (eY R (λy hy=>?_) ?_)
    ·obtain⟨en,P,rfl⟩:=Ax.mp hy
     have P:en∈es.toList:=by
      have:=BB.mp P;exact BB.mpr (Array.mem_filter.mp this).1
     rw[<-S.es']at P;obtain⟨p,H,rfl⟩:=Ax.mp P;obtain⟨b2,q,Y⟩:=S.en p H;exact⟨b2,p.2,by rw[q],Y⟩
    ·exact cont
end
theorem Rx{w E:Type}{f:w->E}{l k:List E}(h:l.Perm k):∀m:List w,m.map f=k->∃o:List w,o.Perm m/\o.map f=l:=by
 induction h with
 | nil=>simp
 | cons x _ H=>
  intro m e
  cases m with
  | nil=>cases e
  | cons p m=>
   rw[Ai,JM]at e;obtain⟨o,A,G⟩:=H m e.2;exact⟨p :: o,A.cons p,by ext⟩
 | swap x y l=>
  intro m e
  match m,e with
  | p :: q :: m,e=>
   rw[Ai,Ai,JM,JM]at e;exact⟨q :: p :: m,.swap _ _ _,by ext⟩
 | trans _ _ B C=>
  intro m e;obtain⟨o,A,G⟩:=C m e;obtain⟨I,J,L⟩:=B o G;exact⟨I,J.trans A,L⟩
section
variable{prog:Al}{w:A1}{A:BP}{E:AD->AK->Prop}{s:AK}{a b:AL}{es:Array (Int×AD)}{ep:Nat}{t:Dz}{ps:List ((Int×AD)×ZLi)}{k:ZLi}
theorem IsR.keep{h h':BI}(x:IsR prog w h k b)(e:∀o,h.get? b=some o->h'.get? b=some o):IsR prog w h' k b:=let ⟨o,l,n,m,r⟩:=x;⟨o,l,n,e _ m,r⟩
theorem IsR.ne{h:BI}(x:IsR prog w h k b){o:Obj}(B:h.get? a=some o)(C:o.data=.set es ep t):b≠a:=by
 rintro rfl;obtain⟨G,l,n,H,_,m,_⟩:=x
 ext
theorem Of.store{h:BI}(S:Of prog w h a es ep t ps){l:Array (Int×AD)}{t':Dz}{uG:List ((Int×AD)×ZLi)}(C:Tbq t' (HI l))(hl:t'.led=t.led)(G:uG.map (·.1)=l.toList)(H:∀p∈uG,EnR prog w h p) :
  Of prog w (h.update a (DV l t')) a l (ep+1) t' uG:=by
 obtain⟨o,B,I,m⟩:=S.ob
 have J:(h.update a (DV l t')).get? a=some { o with data:=.set l (ep+1) t' }:=by
  have:=Ch (DV l t') B (by rw[N4 l t' m];rfl);rw[N4 l t' m]at this;exact this
 have L:=B4 h a (DV l t')
 exact⟨⟨_,J,I,rfl⟩,C,hl.trans S.led,G,λp q=>by
  obtain⟨b,e,hb⟩:=H p q
  exact⟨b,e,hb.keep λN q=>(L.2 b (hb.ne B m)).trans q⟩⟩
theorem bG{h:BI}{es:Array (Int×AD)}{t:Dz}(B:Msk t.mask)(G:(es.size - 1) * 5 < t.mask * 3)(C:¬es.size * 5 < t.mask * 3)(N:es.size<=76) :
  Ld (Fu es.size)<=sizeLine/\∃l ord,t.relaid (es.map (·.1)) (Fu es.size)=some (l,ord)/\l.led=t.led/\EN (ord.filterMap (es[·]?)).toList es.toList/\Tbq l (HI (ord.filterMap (es[·]?))):=by
 have o:∀m,Msk m->Ld (Fu es.size)=m+1->es.size * 5 < m * 3->Ld (Fu es.size)<=sizeLine/\∃l ord,t.relaid (es.map (·.1)) (Fu es.size)=some (l,ord)/\l.led=t.led/\EN (ord.filterMap (es[·]?)).toList es.toList/\Tbq l (HI (ord.filterMap (es[·]?))):=λm B e H=>by
  refine⟨by rw[e,Tt];rcases B with rfl | rfl | rfl <;> decide,?_⟩;obtain⟨l,ord,O,_,I,_,J,L⟩:=iJ (fg:=t.finger) (mv:=t.movedTo m) (plain:=t.plain) B H;refine⟨l,ord,?_,I,J,L⟩;unfold Dz.relaid;ext
 rcases B with z | z | z
 ·have:es.size=5:=by rw[z]at G C;lia
  rw[this]at o ⊢;exact o 31 (.inr (.inl rfl)) (by rfl) (by ext)
 ·have:es.size=19:=by rw[z]at G C;lia
  rw[this]at o ⊢;exact o 127 (.inr (.inr rfl)) (by rfl) (by ext)
 ·rw[z]at C;omega
theorem nJ(S:Of prog w s.heap a es ep t ps)(hu:A.units+4 < Bd)(T:IsR prog w s.heap k b)(uN:k∈ps.map (·.2)∨ps.length+1<=76){Q:Bool->AK->Prop}
  (h:∀h' bl Z va t' uG,DM a s.heap h'->Of prog w h' a Z va t' uG->(uG.map (·.2)).Perm (if k∈ps.map (·.2)then ps.map (·.2)else ps.map (·.2)++[k])->(∀p∈uG,p∈ps∨p.1.2=.ref b)->Q bl { s with heap:=h' }) :
  AZ (AY prog w) A (setAddHashed a (.ref b) (hRq prog w k)) Q E s:=by
 obtain⟨F,f1,f2,f3⟩:=S.tb.first (hRq prog w k)
 have hbig:10 * (t.mask+14) < 100000:=by rcases S.tb.msk with z | z | z <;> rw[z] <;> decide
 have hn:es.size=ps.length:=by rw[<-Ac,<-S.es',AF]
 have G:(HI es).length=es.size:=by unfold HI;simp
 unfold setAddHashed setAddHashedIn;refine Cp (AA (S.state ?_));symm;rw[show byScan (.ref b) es=false from rfl];unfold setSearch;refine AA (Rn S hu T f2 f3 (by unfold Vd;lia) (λhex=>?_) (λzo=>?_) 100000 0 none (Bc _) ∅ rfl λs' i p z=>zX z (by ext))
 ·obtain⟨p,hp,e⟩:=hex
  have U:=Ax.mpr ⟨p,hp,e⟩
  have:=h s.heap false es ep t ps (SY a s.heap) S (by rw[qX U]) λM h=>.inl h
  exact AC (by assumption)
 ·have U:k∉ps.map (·.2):=λz=>by
   obtain⟨p,hp,e⟩:=Ax.mp z;exact zo p hp e
  have room:es.size+1<=76:=by rw[hn];exact uN.resolve_left U
  rw[qY U]at h;refine AA (S.state ?_);obtain⟨X,pt⟩:=S.tb.put f2 f3
  have byv:∀{R:Bool->AK->Prop},R true s->AZ (AY prog w) A (if (t.put (sqq t.mask (hRq prog w k) F)).1.plain=true then dq 8 (.ref b)else pure true) R E s:=λ{R} hr=>by
   split
   ·exact KQ T hr
   ·exact AC hr
  have tail:AZ (AY prog w) A (do
    storeSet a (MQ es (t.put (sqq t.mask (hRq prog w k) F)).2 (hRq prog w k,.ref b)) (t.put (sqq t.mask (hRq prog w k) F)).1
    if !false&&(t.put (sqq t.mask (hRq prog w k) F)).1.tooFull then setRelay a (Fu (es.size+1))
    return true) Q E s:=by
   have xY:(t.put (sqq t.mask (hRq prog w k) F)).1.led=t.led:=by rw[X]
   have I:(t.put (sqq t.mask (hRq prog w k) F)).1.mask=t.mask:=by rw[X]
   have J:(t.put (sqq t.mask (hRq prog w k) F)).1.dummies = #[]:=by rw[X];exact S.tb.dm
   have li:=Gx es (t.put (sqq t.mask (hRq prog w k) F)).2 (hRq prog w k,AV b)
   have L:(t.put (sqq t.mask (hRq prog w k) F)).1.place.size=es.size+1:=by
    rw[X];rw[<-Ac,Gx];have:=S.tb.sz;rw[G]at this;simp only[AS,Am,CV,FM,Ac,this]
    grind
   have p2:(t.put (sqq t.mask (hRq prog w k) F)).2<=es.size:=by
    have:=(K3 S.tb.up (sqq t.mask (hRq prog w k) F)).le;rw[S.tb.sz,G]at this;exact this
   generalize (t.put (sqq t.mask (hRq prog w k) F)).1=m at *
   generalize (t.put (sqq t.mask (hRq prog w k) F)).2=p at *
   have H:(MQ es p (hRq prog w k,AV b)).size=es.size+1:=by
    rw[<-Ac,li];simp only[AS,Am,CV,FM,Ac]
    grind
   generalize MQ es p (hRq prog w k,AV b)=l at *
   have N:∀q∈ps.take p++((hRq prog w k,AV b),k) :: ps.drop p,EnR prog w s.heap q:=λq hq=>by
    rcases Ak.mp hq with z | z
    ·exact S.en q (FE z)
    ·rcases Aj.mp z with rfl | z
     ·exact⟨b,rfl,T⟩
     ·exact S.en q (HM z)
   have e1:(ps.take p++((hRq prog w k,AV b),k) :: ps.drop p).map (·.1)=l.toList:=by
    rw[li,Be,Ai,Mc,Tx,S.es']
   have pk:((ps.take p++((hRq prog w k,AV b),k) :: ps.drop p).map (·.2)).Perm (ps.map (·.2)++[k]):=by
    have:(ps.take p++((hRq prog w k,AV b),k) :: ps.drop p).Perm (ps++[((hRq prog w k,AV b),k)]):=by
     refine List.perm_middle.trans ?_;rw[DC];exact(List.perm_append_singleton _ _).symm
    exact(this.map (·.2)).trans (by rw[Be])
   have O:∀q∈ps.take p++((hRq prog w k,AV b),k) :: ps.drop p,q∈ps∨q.1.2=.ref b:=λq hq=>by
    rcases Ak.mp hq with z | z
    ·exact .inl (FE z)
    ·rcases Aj.mp z with rfl | z
     ·exact .inr rfl
     ·exact .inl (HM z)
   generalize ps.take p++((hRq prog w k,AV b),k) :: ps.drop p=ps1 at *
   obtain⟨o,ho,hx,Y⟩:=S.ob;refine AA (nQ ho Y ?_ (nX (by rw[H];unfold scanBound;lia)));have vn:=B4 s.heap a (DV l m)
   have tf:m.tooFull = !decide ((es.size+1) * 5 < t.mask * 3):=by
    unfold Dz.tooFull Qs;rw[J,L,I,<-decide_not];simp
   rw[tf]
   by_cases C:(es.size+1) * 5 < t.mask * 3
   ·rw[wX C]
    exact AC (h _ true l (ep+1) m ps1 vn (S.store (pt C) xY e1 N) pk O)
   ·rw[wY C]
    have uF:(s.heap.update a (DV l m)).get? a=some { o with data:=.set l (ep+1) m }:=by
     have:=Ch (DV l m) ho (by rw[N4 l m Y];rfl);rw[N4 l m Y]at this;exact this
    have f0:=S.tb.few;rw[G]at f0
    have m7:7<=t.mask:=by rcases S.tb.msk with z | z | z <;> rw[z] <;> decide
    have ft:m.fits l.size=true:=by
     unfold Qr Qs;rw[J,L,H,I];simp
     lia
    obtain⟨r1,B,ord,r2,r3,r4,r5⟩:=bG (h:=s.heap) (by rw[I];exact S.tb.msk) (by rw[H,I];simpa using f0) (by rw[H,I];exact C) (by rw[H];exact room);rw[H]at r1 r2;refine AA ?_;unfold setRelay;refine AA (C9 uF rfl ft ?_);symm;rw[qY (Nat.not_lt.mpr r1)];rw[r2]
    have P:(ord.filterMap (l[·]?)).size=l.size:=by rw[<-Ac,r4.length_eq,Ac]
    refine AA (J7 (a:=(ord.filterMap (l[·]?),B)) ?_ ?_)
    ·show(if ((ord.filterMap (l[·]?)).size != l.size)=true then _ else _)=_
     rw[qY (by rw[P];simp)]
    ·refine nQ uF rfl ?_ (nX (by rw[P,H];unfold scanBound;lia))
     obtain⟨ps2,q1,q2⟩:=Rx r4 ps1 e1
     have S2:Of prog w ((s.heap.update a (DV l m)).update a (DV (ord.filterMap (l[·]?)) B)) a (ord.filterMap (l[·]?)) (ep+1+1) B ps2:=by
      have uh:((s.heap.update a (DV l m)).update a (DV (ord.filterMap (l[·]?)) B)).get? a=some { o with data:=.set (ord.filterMap (l[·]?)) (ep+1+1) B }:=by
       have:=Ch (DV (ord.filterMap (l[·]?)) B) uF (by rw[N4 (ord.filterMap (l[·]?)) B rfl];rfl);rw[N4 (ord.filterMap (l[·]?)) B rfl]at this;exact this
      have zO:=vn.trans (B4 (s.heap.update a (DV l m)) a (DV (ord.filterMap (l[·]?)) B));refine⟨⟨_,uh,hx,rfl⟩,r5,r3.trans (xY.trans S.led),q2,λp q=>?_⟩;obtain⟨b',e,hb⟩:=N p (q1.mem_iff.mp q);exact⟨b',e,hb.keep λo' q=>(zO.2 b' (hb.ne ho Y)).trans q⟩
     exact AC (h _ true _ _ B ps2 (vn.trans (B4 _ a _)) S2 ((q1.map _).trans pk) λp q=>O p (q1.mem_iff.mp q))
  split
  ·refine AA (KQ T ?_)
   exact tail
  assumption
end
open PySem.Sem (wp)
open SetTable
noncomputable def ddR(rows:List ZLi):List ZLi:=rows.foldl (λl k=>if k∈l then l else l++[k]) []
theorem K0(l:List ZLi)(k:ZLi):ddR (l++[k])=if k∈ddR l then ddR l else ddR l++[k]:=by unfold ddR;ext
theorem nA(l r:List ZLi):(ddR l).length<=(ddR (l++r)).length:=by
 induction r generalizing l with
 | nil=>ext
 | cons k r m=>
  have h:=m (l++[k]);rw[Bf]at h;refine A7 ?_ h;rw[K0];split
  ·ext
  ·simp
def AD.addr0:AD->AL
 | .ref a=>a
 | _=>0
section
variable{prog:Al}{w:A1}{A:BP}{E:AD->AK->Prop}{s:AK}
def LP(prog:Al)(w:A1)(h:BI)(vs:List AD)(rows:List ZLi):Prop:=vs.length=rows.length/\∀(i:Nat) v k,vs[i]?=some v->rows[i]?=some k->∃b,v=.ref b/\IsR prog w h k b
theorem LP.at'{h:BI}{vs:List AD}{rows:List ZLi}(x:LP prog w h vs rows){i:Nat}{v:AD}(e:vs[i]?=some v):∃b k,v=.ref b/\IsR prog w h k b:=by
 have l:i < rows.length:=by rw[<-x.1];exact(AJ.mp e).1
 obtain⟨b,m,o⟩:=x.2 i v _ e (AI l);exact⟨b,_,m,o⟩
theorem LP.row{h:BI}{vs:List AD}{rows:List ZLi}(x:LP prog w h vs rows){i:Nat}{k:ZLi}(e:rows[i]?=some k):∃b,vs[i]?=some (.ref b)/\IsR prog w h k b:=by
 have l:i < vs.length:=by rw[x.1];exact(AJ.mp e).1
 obtain⟨b,m,o⟩:=x.2 i _ k (AI l) e;ext
def MK(prog:Al)(w:A1)(h:BI)(a:AL)(ks:List ZLi)(Ok:AL->Prop):Prop:=∃m o t l,Of prog w h a m o t l/\(l.map (·.2)).Perm ks/\∀p∈l,∃b,p.1.2=.ref b/\Ok b
theorem MK.imp{h:BI}{a:AL}{ks:List ZLi}{Ok Ok':AL->Prop}(x:MK prog w h a ks Ok)(i:∀b,Ok b->Ok' b):MK prog w h a ks Ok':=let ⟨l,m,t,o,B,C,G⟩:=x;⟨l,m,t,o,B,C,λp H=>let ⟨b,I,J⟩:=G p H;⟨b,I,i b J⟩⟩
theorem MK.at'{h h':BI}{a:AL}{ks:List ZLi}{Ok:AL->Prop}(x:MK prog w h a ks Ok)(e:∀b o,h.get? b=some o->(b=a∨Ok b)->h'.get? b=some o):MK prog w h' a ks Ok:=by
 obtain⟨C,G,t,H,S,I,l⟩:=x;obtain⟨o,J,r⟩:=S.ob;refine⟨C,G,t,H,⟨⟨o,e _ _ J (.inl rfl),r⟩,S.tb,S.led,S.es',λp m=>?_⟩,I,l⟩;obtain⟨b,q,hb⟩:=S.en p m;obtain⟨b2,B,ok⟩:=l p m;rw[q]at B;cases B;exact⟨b,q,hb.keep λo q=>e _ _ q (.inr ok)⟩
theorem WJ{h:BI}{a:AL}{led:Bool}{Ok:AL->Prop}(hl:led=(!(w.params.followText "set-order"))) (m:h.get? a=some { cls:=.type "set",dict:=none,data:=.set #[] 0 (.fresh 0 0 led) }):MK prog w h a [] Ok:=
 ⟨#[],0,_,[],⟨⟨_,m,⟨rfl,rfl,rfl⟩,rfl⟩,⟨.inl rfl,rfl,Rc,rfl,λj o=>(nomatch o),(by show 0 * 5 < 7 * 3;decide),λq B=>(nomatch B)⟩,hl,rfl,λp l=>(nomatch l)⟩,.nil,λp l=>(nomatch l)⟩
theorem Ym{R:jp->AK->Prop}{I:AL}{fp wr:List AL}{G:Array eG->Array eG->Prop}{n:Nat}{P:Nat->AD->Prop}{St:Nat->AK->Prop}{rows:List ZLi}{ad:Nat->AL}(W:WalksS prog w A.in1 I fp wr G n P St)(S:AL)(w8:S∉fp)
  (hval:∀i v,P i v->v=.ref (ad i)) (hu:A.units+8 < Bd) (hnot:∀(i:Nat) k,rows[i]?=some k->ad i∉S :: wr) (hb:(ddR rows).length<=76) (hn:n=rows.length) :
  ∀(k i:Nat) (s:AK),n - i=k->i<=n->St i s->(∀(j:Nat) k,rows[j]?=some k->IsR prog w s.heap k (ad j))->MK prog w s.heap S (ddR (rows.take i)) (λb=>∃(j:Nat) (k:ZLi),rows[j]?=some k/\b=ad j) ->
   (∀s',Moved (S :: wr) G s s'->MK prog w s'.heap S (ddR rows) (λb=>∃(j:Nat) (k:ZLi),rows[j]?=some k/\b=ad j)->R (.ok (.ret .none)) s') ->
   HE (AY prog w) A (.builtin "set.update.loop" ⟨[.ref S,.ref I],[]⟩) R s:=by
 have hSw:S∉wr:=λh=>w8 (W.sub _ h)
 have tL:∀b∈wr,b∈S :: wr:=λb hb=>AM _ hb
 intro k
 induction k with
 | zero=>
  intro i s hk hi N _ J hRq
  have uW:i=n:=by grind
  subst uW;refine GU W6 ?_;rw[E3 KO _];show AZ _ A.in1 (F3 (.ref I) >>= _) _ _ s;refine AA (W.done s _ _ N λs' m=>?_);show AZ _ A.in1 (ret C0) _ _ s';rw[CU (by ext)]at J;refine AC (hRq s' (m.mono tL) (J.at' λb o e ok=>m.heap b o ?_ e))
  grind
 | succ k ih=>
  intro i s hk hi N O J hRq
  have rk:i < n:=by grind
  refine GU W6 ?_;rw[E3 KO _];show AZ _ A.in1 (F3 (.ref I) >>= _) _ _ s;refine AA (W.item i s _ _ rk N λv s' hP w5 m=>?_);obtain rfl:=hval i v hP
  have tN:=J.at' λb o e ok=>m.heap b o (by
   grind) e
  have Q:∀(j:Nat) k,rows[j]?=some k->IsR prog w s'.heap k (ad j):=λj k B=>(O j k B).keep λo e=>m.heap _ o (λz=>hnot j k B (AM _ z)) e
  have T:i < rows.length:=by ext
  have C:=AI T;generalize rows[i]=l at C
  have xq:rows.take (i+1)=rows.take i++[l]:=by rw[List.take_succ,C];rfl
  show AZ _ A.in1 (Fn [AV (ad i)] (setAdd S (.ref (ad i))) >>= _) _ _ s';refine AA (Cp ?_);unfold setAdd;refine Cp ?_;refine AA (jf (knd:=Hz prog w) (ks:=l) (by simp;lia) (Q i l C) ?_);obtain⟨es,ep,t,ps,S0,L,U⟩:=tN
  have uN:l∈ps.map (·.2)∨ps.length+1<=76:=by
   by_cases c:l∈ddR (rows.take i)
   ·exact .inl (L.mem_iff.mpr c)
   ·have h1:=nA (rows.take (i+1)) (rows.drop (i+1))
    rw[DC,xq,K0,qY c,AS,<-L.length_eq,AF]at h1;exact .inr (by simp at h1;lia)
  refine nJ (s:={ s' with toks:=s'.toks+(l.length+1) }) S0 (by simp;lia) (Q i l C) uN λh' bl X va t' uG Y S1 H fr=>?_
  have e1:(uG.map (·.2)).Perm (ddR (rows.take (i+1))):=by
   rw[xq,K0]
   by_cases c:l∈ddR (rows.take i)
   ·grind
   ·rw[qY c]
    rw[qY λz=>c (L.mem_iff.mp z)]at H;exact H.trans (L.append_right _)
  have Z:MK prog w h' S (ddR (rows.take (i+1))) (λb=>∃(j:Nat) (k:ZLi),rows[j]?=some k/\b=ad j):=⟨X,va,t',uG,S1,e1,λp hp=>by
   rcases fr p hp with z | z
   ·exact U p z
   ·exact⟨_,z,i,l,C,rfl⟩⟩
  refine AC ⟨KF KO _,ih (i+1) _ (by grind) rk (W.frame _ s' _ _ w5 (by ext) λb hb o e=>?_) (λj k B=>(Q j k B).keep λo e=>(Y.2 _ λz=>hnot j k B (by grind)).trans e) Z λsV Cs C'=>?_⟩
  ·rw[Y.2 b (λh:b=S=>w8 (by ext))];exact e
  ·refine hRq sV (Moved.trans W.gtrans ((m.mono tL).then_heap ∅ λb o hb e=>?_) Cs) C'
   rw[Y.2 b (λh:b=S=>hb (by ext))];exact e
theorem Th{l:AL}{items:Array AD}{rows:List ZLi}{Q:AD->AK->Prop}(hh:A.handled=none)(hu:A.units+40 < Bd)(hl:s.heap.IsList l items)(hi:LP prog w s.heap items.toList rows)(hb:(ddR rows).length<=76)
  (h:∀(h':BI) (N:Nat),MK prog w h' s.heap.objs.size (ddR rows) (λb=>AV b∈items.toList) ->
   (∀b o,b < s.heap.objs.size->s.heap.get? b=some o->h'.get? b=some o)->Q (.ref s.heap.objs.size) { s with heap:=h',toks:=N }):AZ (AY prog w) A (call (.type "set") [.ref l]) Q E s:=by
 obtain⟨c,tl,hmro⟩:=FX.mro;have P:=FX.made;have tL:=FX.sub;refine jj (rB ?_);show AZ _ _ (callAny (.type "set") _) _ _ _;refine AC ⟨Code.quiet_builtin _ ∅,GU F.entry_type_call ?_⟩;rw[BP.under_plain (weight_type_call_type "set" [.ref l] []) rfl];have h1:=FX.notType;have h2:=FX.canCreate;have hct:=F.typeCall_set_1 (.ref l);(repeat(any_goals (first | assumption | wp_step)))
 refine Ep (RO (.ref l) (E:=E) (Q₁:=λobj B=>∃led:Bool,led=(!(w.params.followText "set-order"))/\obj=.ref s.heap.objs.size/\B={ s with heap:=s.heap.push { cls:=.type "set",dict:=none,data:=.set #[] 0 (.fresh 0 0 led) } }) ⟨_,rfl,rfl,rfl⟩) λr B G=>?_
 cases r with
 | error e=>exact G
 | ok fl=>
  cases fl with
  | ret obj=>
   obtain⟨led,D',rfl,rfl⟩:=G;have hS:(s.heap.push { cls:=.type "set",dict:=none,data:=.set #[] 0 (.fresh 0 0 led) }).get? s.heap.objs.size=some { cls:=.type "set",dict:=none,data:=.set #[] 0 (.fresh 0 0 led) }:=AQ _ rfl;have hT:AK.TypeIs { s with heap:=s.heap.push { cls:=.type "set",dict:=none,data:=.set #[] 0 (.fresh 0 0 led) } } (.ref s.heap.objs.size) "set":=⟨_,hS,rfl⟩;have hli:=FX.init.lookup;have hbi:=FX.init.bind (.ref s.heap.objs.size);(repeat(any_goals (first | assumption | wp_step)))
   refine Ep (codeAny_call_builtin (R:=wants (λr C=>r=.none/\∃h' N,C={ s with heap:=h',toks:=N } /\
     MK prog w h' s.heap.objs.size (ddR rows) (λb=>AV b∈items.toList) /\
     (∀b o,b < s.heap.objs.size->s.heap.get? b=some o->h'.get? b=some o)) E) FX.init.plain F.entry_set_init (check_set_init_1 hT ?_)) λI C S=>?_
   ·obtain⟨ol,vY,tS,nl,vZ⟩:=hl
    obtain⟨ocls,y3,T,we⟩:=ol;simp only at tS vZ;subst tS;subst vZ;have G':(s.heap.push { cls:=.type "set",dict:=none,data:=.set #[] 0 (.fresh 0 0 led) }).get? l=some { cls:=.type "list",dict:=y3,data:=.seq items nl,slots:=we }:=AG _ vY
    have hsls:isSubtype (.type "list") (.type "set")=pure false:=by rw[isSubtype_type];kernel_rfl
    have hslf:isSubtype (.type "list") (.type "frozenset")=pure false:=by rw[isSubtype_type];kernel_rfl
    have sf:(Fo "list"==Fo "dict")=false:=by decide
    have uP:(s.heap.push { cls:=.type "set",dict:=none,data:=.set #[] 0 (.fresh 0 0 led) }).IsList l items:=⟨_,G',rfl,nl,rfl⟩;unfold Builtin.«set.__init__» noKeywords eI;generalize U:PM=PI
    wp_walk
    subst U;refine Qy uP (AA (wpAny_runValue ?_));have J:l < s.heap.objs.size:=AX vY
    have X:A.in1.in1.in1.handled=none:=by simp[hh]
    have J':l≠(s.heap.push { cls:=.type "set",dict:=none,data:=.set #[] 0 (.fresh 0 0 led) }).objs.size:=by
     rw[C2];exact Ao (D6 J)
    have w8:s.heap.objs.size∉[(s.heap.push { cls:=.type "set",dict:=none,data:=.set #[] 0 (.fresh 0 0 led) }).objs.size,l]:=by
     rw[C2];simp only[Aj,Au,DG,or_false,not_or];exact⟨Ao (FP _),Ed J⟩
    have Y:items.size=rows.length:=by rw[<-Ac];exact hi.1
    refine Ym (rows:=rows) (ad:=λi=>(AD.addr0 (items.getD i .none))) ((oH X _ l J' items).toS) s.heap.objs.size w8 (λi v m=>?hval) (by simp;lia) (λi k Z=>?hnot) hb Y (items.size - 0) 0 _ (by simp) (Bc _)
     ⟨⟨_,AQ _ rfl,rfl,rfl⟩,(uP.push _)⟩ (λi k Z=>?hrow) ?hS0 ?hRq
    case hval=>
     obtain⟨b,k,e,_⟩:=hi.at' (i:=i) (by rw[CF];exact m);rw[e]at m ⊢
     have:items.getD i .none=.ref b:=by rw[Ct,m];rfl
     rw[this];rfl
    case hnot=>
     obtain⟨b,m,G⟩:=hi.row Z
     have:items.getD i .none=.ref b:=by rw[Ct,<-CF,m];rfl
     have lt:b < s.heap.objs.size:=by obtain⟨o,_,_,ho,_⟩:=G;exact AX ho
     show(AD.addr0 (items.getD i .none))∉_;rw[this];show b∉_;rw[C2]
     grind
    case hrow=>
     obtain⟨b,m,G⟩:=hi.row Z
     have:items.getD i .none=.ref b:=by rw[Ct,<-CF,m];rfl
     show IsR prog w _ k (AD.addr0 (items.getD i .none));rw[this]
     exact G.keep λo e=>AG _ (AG _ e)
    case hS0=>
     have Lf:((s.heap.push { cls:=.type "set",dict:=none,data:=.set #[] 0 (.fresh 0 0 led) }).push { cls:=.type "list_iterator",data:=.fields #[.ref l,.int 0 0] }).get? s.heap.objs.size
       = some { cls:=.type "set",dict:=none,data:=.set #[] 0 (.fresh 0 0 led) }:=AG _ hS
     exact WJ D' Lf
    case hRq=>
     intro s' O L;obtain⟨h',g',d',tk',zj⟩:=s';have eg:g'=s.gens:=O.gens;have ed:d'=s.drawn:=O.drawn;have eo:zj=s.os:=O.os;subst eg;subst ed;subst eo;show AZ _ _ _ _ _ _;refine AC ?_;show AZ _ _ (ret C0) _ _ _
     have L:MK prog w h' s.heap.objs.size (ddR rows) (λb=>AV b∈items.toList):=L.imp<|by
      rintro b ⟨j,k,hj,e⟩
      obtain⟨b2,m,_⟩:=hi.row hj;have e:b=(AD.addr0 (items.getD j .none)):=e
      have:items.getD j .none=.ref b2:=by rw[Ct,<-CF,m];rfl
      rw[this]at e;rw[e];exact A2 m
     refine AC ⟨rfl,h',tk',rfl,L,λb o hb e=>?_⟩;have hb1:b≠s.heap.objs.size:=Ao hb
     have vI:b≠(s.heap.push { cls:=.type "set",dict:=none,data:=.set #[] 0 (.fresh 0 0 led) }).objs.size:=by
      rw[C2];exact Ao (D6 hb)
     exact O.heap b o (by ext) (AG _ (AG _ e))
   ·cases I with
    | error e=>exact S
    | ok H=>
     cases H with
     | ret r=>
      obtain⟨rfl,h',N,rfl,L,sT⟩:=S;(repeat(any_goals (first | assumption | wp_step)));exact h _ _ L sT
     | _=>exact S.elim
  | _=>exact G.elim
end
section
variable{prog:Al}{w:A1}{A:BP}{E:AD->AK->Prop}{s:AK}{a:AL}{es:Array (Int×AD)}{ep:Nat}{t:Dz}
theorem Sy{ks:List ZLi}{Ok:AL->Prop}{R:List AD->AK->Prop}(hh:A.handled=none)(hS:MK prog w s.heap a ks Ok)(hn:ks.length<=sizeLine)
  (h:∀(h':BI) (m:Nat) d' (I:List AD),(∀b o,s.heap.get? b=some o->h'.get? b=some o)->(∃B:List (AD×ZLi),B.map (·.1)=I/\(B.map (·.2)).Perm ks/\∀q∈B,∃b,q.1=.ref b/\Ok b/\IsR prog w s.heap q.2 b)->R I { s with heap:=h',toks:=m,drawn:=d' }) :
  AZ (AY prog w) A (collect (.ref a)) R E s:=by
 obtain⟨es,ep,t,ps,C,U,ok⟩:=hS;obtain⟨o,X,hex,hd⟩:=C.ob;have hf:=C.tb.fits;have hu:=C.tb.up;have P:=C.led;have rk:=AX X
 have hz:es.size<=sizeLine:=by rw[<-Ac,<-C.es',AF,<-AF,U.length_eq];exact hn
 unfold collect;refine AA (wpAny_runValue (GU entry_proto_collect' ?_));rw[E3 PySem.F.plain_proto_collect _];refine AA (BD ?_);refine AC ⟨KF RX _,GU entry_list_iadd' ?_⟩;rw[E3 RX _];have w9:(s.heap.push { cls:=.type "list",data:=.seq ([]:List AD).toArray }).get? s.heap.objs.size=some { cls:=.type "list",data:=.seq #[] }:=AQ _ rfl
 have Q:=WI (prog:=prog) (s:={ s with heap:=s.heap.push { cls:=.type "list",data:=.seq ([]:List AD).toArray } })
  (R:=λ(q:jp) (S:AK)=>∃(h':BI) (m:Nat) (d':_) (G:Array AD) (J:Nat),q=.ok (.ret (.ref s.heap.objs.size))/\S={ s with heap:=h',toks:=m,drawn:=d' } /\
   (∀b o,s.heap.get? b=some o->h'.get? b=some o)/\h'.get? s.heap.objs.size=some { cls:=.type "list",dict:=none,data:=.seq G J,slots:=#[] }/\EN G.toList (es.toList.map (·.2)))
  hh ⟨o,AG _ X,hex,hd,hf⟩ hu P hz s.heap.objs.size (Ed rk) (.ref s.heap.objs.size) 0 w9
  (λh' m d' G J ord H L N O=>⟨h',m,d',G,J,rfl,rfl,λb o e=>L b o (Ao (AX e)) (AG _ e),N,O▸H⟩)
 have fin:∀{l:List AD},EN l (es.toList.map (·.2))->∃B:List (AD×ZLi),B.map (·.1)=l/\(B.map (·.2)).Perm ks/\∀q∈B,∃b,q.1=.ref b/\Ok b/\IsR prog w s.heap q.2 b:=λ{l} P=>by
  rw[<-C.es',Aw]at P;obtain⟨uG,Y,h2⟩:=Rx P ps rfl;refine⟨uG.map λp=>(p.1.2,p.2),by rw[Aw];exact h2,by rw[Aw];exact(Y.map _).trans U,λq hq=>?_⟩;obtain⟨p,H,rfl⟩:=Ax.mp hq;have H:=Y.mem_iff.mp H;obtain⟨b,e,hb⟩:=C.en p H;obtain⟨b2,Z,T⟩:=ok p H;rw[e]at Z;cases Z;exact⟨b,by rw[e],T,hb⟩
 refine DP Q (λL' S x=>?_) λe S x=>?_
 ·cases L' with
  | done f=>
   obtain⟨h',m,d',G,J,e,rfl,L,N,O⟩:=x;cases e;refine AA (jg N ?_);exact AC (h h' m d' _ L (fin O))
  | again c₁=>
   refine⟨x.1,Ep x.2 λq s₂ y=>?_⟩;obtain⟨h',m,d',G,J,rfl,rfl,L,N,O⟩:=y;refine AA (jg N ?_);exact AC (h h' m d' _ L (fin O))
 ext
end
end PySem
namespace L2
open Srt (ltL)
def Yn(l:List ZLi):List ZLi:=IM (ddR l)
set_option tactic.hygienic true in
theorem X6{l:List ZLi}{k:ZLi}:k∈ddR l↔k∈l:=by
 have m:∀(r l:List ZLi),(∀k,k∈ddR l↔k∈l)->∀k,k∈ddR (l++r)↔k∈l++r:=by
  intro r
  induction r with
  | nil=>intro l h;rw[BO];exact h
  | cons x r o=>
   intro l h;rw[show l++x :: r=(l++[x])++r by simp]
   refine o _ λk=>?_
   rw[K0];split
   ·rename_i c
    rw[h,Ak,Au];exact⟨.inl,λz=>z.elim id λe=>e▸(h x).mp c⟩
   ·rw[Ak,Ak,h]
 have:=m l [] (λk=>by simp[ddR]) k;trivial
theorem Ue{X:Cx}{C:List (AL×Obj)}{E:St}{H:Hp}{s:AK}(I:Inv X C E H s):∀{vs:List V} {l:List AD},Bp vs l->(∀v∈vs,∃b,v=.ref b/\H b=some (.tup ((Ew H v).map V.int))/\Ew H v≠[])->LP X.prog X.w s.heap l (vs.map (Ew H)):=by
 intro vs l A h
 have one:∀{k:ZLi} {us:List AD},Bp (k.map V.int) us->ItemsAre (Hz X.prog X.w) k us:=by
  intro k
  induction k with
  | nil=>intro us r;cases r;exact .nil
  | cons n k G=>
   intro us r
   cases r with
   | cons a b=>
    obtain⟨t,rfl⟩:=a;exact .cons (intKind_is _ _ _ _) (G b)
 refine⟨by rw[<-A.length,AF],λi v k J m=>?_⟩;rw[Ab]at m
 cases e:vs[i]? with
 | none=>ext
 | some x=>
  rw[e]at m;cases m;obtain⟨u,B,r⟩:=A.get e;rw[J]at B;cases B;obtain⟨b,rfl,hb,_⟩:=h x (A2 e);cases r;obtain⟨_,is,P,o,L,N,n,O⟩:=(I.hok b _ hb);exact⟨b,rfl,o,is.toArray,n,L,N,O,by ext⟩
theorem RQ{X:Cx}{ζ:List (AL×Obj)}{s:AK}{σ:St}{H:Hp}{a:AL}{vs:List V}{m:List AD}{Q:VK}(hc:X.calm=true)(I:Inv X ζ σ H s)(Y:Bp vs m)(Z:∀v∈vs,∃b,v=.ref b/\H b=some (.tup ((Ew H v).map V.int))/\Ew H v≠[])
  (hS:MK X.prog X.w s.heap a (ddR (vs.map (Ew H))) λb=>AV b∈m) (G:(ddR (vs.map (Ew H))).length<=sizeLine)
  (q:∀out,out.map (Ew H)=Yn (vs.map (Ew H))->(∀v∈out,∃b,v=.ref b/\H b=some (.tup ((Ew H v).map V.int))/\Ew H v≠[])->∀l,H l=none->Q (.ref l) (upd H l (.lst out))):AZ (AY X.prog X.w) X.A (call (.builtin "sorted") [.ref a]) (EP X ζ σ Q) X.xe s:=by
 have ra:=Ue I Y Z;refine IZ kind_sorted plain_sorted entry_sorted (args_sorted1 _) ?_;unfold Builtin.«sorted»;refine AA (AC (AA (Sy (I.ok.hd hc) hS G λg tk d' mh kp hp=>?_)));obtain⟨B,e1,pm,hq⟩:=hp
 have N:∀b,AV b∈m->V.ref b∈vs:=λb hb=>by
  obtain⟨i,O⟩:=HN hb
  have J:i < vs.length:=by rw[Y.length];exact(AJ.mp O).1
  obtain⟨u,hu,r⟩:=Y.get (AI J);rw[O]at hu;cases hu;obtain⟨b2,e,_⟩:=Z _ (CB J);rw[e]at r;cases r
  grind
 have hrow:∀q∈B,∃b,q.1=.ref b/\V.ref b∈vs/\q.2=Ew H (.ref b):=λq P=>by
  obtain⟨b,E,L,h3⟩:=hq q P;refine⟨b,E,N b L,?_⟩;obtain⟨i,O⟩:=HN (N b L);obtain⟨u,hu,r⟩:=Y.get O;cases r;obtain⟨b2,e2,hr⟩:=ra.2 i _ _ hu (by rw[Ab,O];rfl);cases e2;exact h3.inj hr
 have S:Bp (B.map λq=>V.ref (AD.addr0 q.1)) mh:=by
  rw[<-e1]
  clear pm e1
  induction B with
  | nil=>exact .nil
  | cons q B ih=>
   refine .cons ?_ (ih (λx hx=>hq x (AM _ hx)) λx hx=>hrow x (AM _ hx));obtain⟨b,E,_⟩:=hrow q AW;show RelV (V.ref (AD.addr0 q.1)) q.1;rw[E];rfl
 have ME:∀v∈B.map (λq=>V.ref (AD.addr0 q.1)),v∈vs:=λv T=>by
  obtain⟨q,P,rfl⟩:=Ax.mp T;obtain⟨b,E,L,_⟩:=hrow q P;rw[E];exact L
 have mr:(B.map λq=>V.ref (AD.addr0 q.1)).map (Ew H)=B.map (·.2):=by
  rw[Aw]
  refine By λq P=>?_
  obtain⟨b,E,_,h3⟩:=hrow q P;show Ew H (V.ref (AD.addr0 q.1))=q.2;rw[E,h3];rfl
 generalize (B.map λq=>V.ref (AD.addr0 q.1))=ms at S ME mr;rw[<-mr]at pm
 have G:mh.length<=sizeLine:=by rw[<-S.length,<-AF,pm.length_eq];exact G
 have C:SK H (Ew H) ms:=.inr λv T=>Z v (ME v T)
 refine AA (YF ?_ G);have I1:Inv X ζ σ H { s with heap:=g,toks:=tk,drawn:=d' }:=(I.kept (t':=tk) kp).drew;have J:(g.push (Hh "list" mh.toArray 0)).get? g.objs.size=some (Hh "list" mh.toArray 0):=AQ _ rfl;refine AA (Cp (BL slot_list_sort ⟨_,J,rfl⟩ rA (Srt.Ly (f:=bF H) J G (λL s' keep=>?_) λout po so=>⟨_,rfl,AC ⟨_,rfl,?_⟩⟩) (args_list_sort _)))
 ·refine OI (λb xs e=>?_) C S L
  obtain⟨_,is,r,o,ho,tS,n,hd⟩:=(I1.hok b _ e);exact⟨is,r,o,keep b o (Ao (AX ho)) (AG _ ho),tS,n,hd⟩
 ·obtain⟨vo,ro,pv⟩:=ON po.symm S
  have zL:vo.Pairwise (λx y=>ltL (Ew H y) (Ew H x)=false):=by
   have e:=Jb ro λa ha b rb=>C.rel a (pv.mem_iff.mp ha) b rb
   have:=(BN (R:=λx y=>ltL y x=false)).mpr so;rw[e]at this;exact BN.mp this
  obtain⟨k,hk⟩:=sortedHeap_at J
  have U:vo.length<=sizeLine:=by rw[pv.length_eq,S.length];exact G
  have I2:=I1.laid (o:=.lst vo) (t':=tk) (h':=Ve (g.push (Hh "list" mh.toArray 0)) g.objs.size mh out)
   (λb u z=>by
    have lt:=AX z;rw[sortedHeap_old (Ao lt) (by rw[size_push'];exact D6 lt)]
    exact AG _ z) (AN _) ⟨U,out.toList,k,ro,hk⟩
  refine⟨.ref g.objs.size,_,I2,rfl,q vo ?_ (λv T=>Z v (ME v (pv.mem_iff.mp T))) _ (I1.hok.fresh (AN _))⟩;exact LG (((pv.map (Ew H)).trans pm).trans (Cz _).symm) (BN.mpr zL) (Ka _)
section
variable{X:Cx}{e b:Expr}{p p2 pos tP:Pos}{te:TE}
def jV(K:AB)(Q:VK)(x:V)(m:Hp):Prop:=∃q vs,x=.ref q/\SqL K m q vs/\(∀v∈vs,∃b,v=.ref b/\m b=some (.tup ((Ew m v).map V.int))/\Ew m v≠[])/\(ddR (vs.map (Ew m))).length<=76 /\
 ∀out,out.map (Ew m)=Yn (vs.map (Ew m))->(∀v∈out,∃b,v=.ref b/\m b=some (.tup ((Ew m v).map V.int))/\Ew m v≠[])->∀l,m l=none->Q (.ref l) (upd m l (.lst out))
def Ye(K:AB)(te:TE):TE:=λl H Q=>te l H λx m=>jV K Q x m
theorem Uo(C:X.calm=true)(hu:X.A.units+64 < Bd)(R:Gl X "sorted") (S:X.mg "sorted" = none) (T:Gl X "set") (U:X.mg "set" = none) (h:PE X e te)
  (E:autoParam (zSq X e) yq0q) (G:autoParam (AH [.Call (.Name "set" p2) [e] [] tP] X.env=(false,A6 (.Call (.Name "set" p2) [e] [] tP) X.env) :: AH [] X.env) yq0q) :
  PE X (.Call (.Name "sorted" p) [.Call (.Name "set" p2) [e] [] tP] [] pos) (Ye X.K te):=by
 intro J s L H Q I Y;refine Eo (Jj I R S boot_sorted ?_ ∅ (by rfl));refine Lh ?_ G rfl;rw[G];refine ID ?_;refine Eo (Jj I T U rL ?_ ∅ (by rfl));refine Cg (thn (B3 h ET E tP J s L H (λvs l=>match vs with | [x]=>jV X.K Q x l | _=>False) I Y) ?_) E rfl;rintro us Z ⟨vs,l,m,w,B⟩
 match vs,w,B with
 | [x],w,B=>
  obtain⟨q,vs,rfl,sqq,N,O,k⟩:=B;obtain⟨u,rfl,ru⟩:=vals1 w;cases ru;obtain⟨mh,P,pl,hz⟩:=m.list sqq
  refine Th (I.ok.hd C) ∅ pl.isList (by simpa using Ue m P N) O λh' tk hS hk=>?_
  refine NQ ?_
  have I2:Inv X J L l { Z with heap:=h',toks:=tk }:=m.kept λb o e=>hk b o (AX e) e
  exact RQ C I2 P N (by simpa using hS) (A7 O ∅) k
end
end L2
namespace NK
section
variable{prog:Al}{w:A1}{K:Type}[DecidableEq K](knd:KeyKind prog w K)
def IsPair(h:BI)(k:List K×K)(a:AL):Prop:=∃o n c v,h.get? a=some o/\o.cls=.type "tuple"/\o.data=.seq #[.ref c,v] n/\jv knd h k.1 c/\knd.is k.2 v=true
noncomputable def QC(k:List K×K):Int:=Vh (Da [Q0 knd k.1,knd.hash k.2])
variable{knd}
theorem IsPair.typeIs{s:AK}{k:List K×K}{a:AL}(x:IsPair knd s.heap k a):s.TypeIs (.ref a) "tuple":=let ⟨o,_,_,_,l,m,_⟩:=x;⟨o,l,m⟩
theorem IsPair.inj{h:BI}{a:AL}{x y:List K×K}(B:IsPair knd h x a)(C:IsPair knd h y a):x=y:=by
 obtain⟨o,n,c,v,E,-,G,H,I⟩:=B;obtain⟨o',O,P,Q,J,-,l,L,N⟩:=C;obtain rfl:o=o':=B1 (E.symm.trans J);rw[G]at l
 injection l with e _
 have e:=congrArg UB e
 injection e with m A
 injection m with m
 injection A with A _
 subst m A;exact RZ (H.inj L) (knd.inj _ _ _ I N)
theorem IsPair.keeps{h h':BI}{k:List K×K}{a d:AL}{o:Obj}{es ep}(x:IsPair knd h k a)(m:h.get? d=some o)(A:o.data=.dict es ep)(hs:DM d h h'):IsPair knd h' k a:=by
 obtain⟨B,n,c,v,C,E,l,G,H⟩:=x
 have I:a≠d:=by
  rintro rfl;obtain rfl:B=o:=B1 (C.symm.trans m);rw[A]at l;exact nomatch l
 exact⟨B,n,c,v,(hs.2 a I).trans C,E,l,G.keeps m A hs,H⟩
variable{A:BP}{E:AD->AK->Prop}{s:AK}
theorem Mh{k:List K×K}{a:AL}{Q:Int->AK->Prop}(J:A.units+8 < Bd)(B:IsPair knd s.heap k a)(h:Q (QC knd k) { s with toks:=s.toks+(k.1.length+3) }) :
  AZ (AY prog w) A (pyHash (.ref a)) Q E s:=by
 have l:=B.typeIs;obtain⟨o,n,c,v,C,_,G,H,I⟩:=B;unfold pyHash
 first | unfold pyHashByItsType | skip
 first | refine AA (wpAny_cRoomFor_or (.inr ∅) ?_) | skip
 refine AA (E4 l G2.lookup ?_);show AZ _ _ (if (some (AD.builtin "tuple.__hash__")==some C0)=true then _ else _) Q E s;rw[qY (by rw[beq_builtin_none];exact Av)];refine AA (E4 l G2.lookup ?_);show AZ _ _ (callSpecialIfBoundUnlessNone? (.ref a) "__hash__" _ >>= _) Q E s;refine AA (wpAny_callSpecialIfBoundUnlessNone?_slot l G2 (BL G2 l F.entry_tuple_hash ?_ (F.args_tuple_hash_1 _)));show AZ _ _ (G3 (.ref a) >>= _) _ _ s;refine AA (PL C G ?_);refine AA ?_;rw[<-Fs];show AZ _ _ (forIn [AV c,v] _ _) _ _ s;rw[D0];refine AA (AA (jf (show A.units+1 < Bd by lia) H ?_));refine AC ?_;symm;rw[D0];refine AA (AA (knd.pyHash I (AC ?_)));symm;rw[GW];refine AC ?_;show AZ _ _ (retInt (Da [Q0 knd k.1,knd.hash k.2])) _ _ _;unfold QC Vh at h;generalize Da [Q0 knd k.1,knd.hash k.2]=z at h;refine q9 ?_;show AZ _ _ (if (decide (-(2:Int) ^ 63<=z)&&decide (z < 2 ^ 63))=true then _ else _) Q E _
 by_cases m:(decide (-(2:Int) ^ 63<=z)&&decide (z < 2 ^ 63))=true
 ·rw[qX m]
  rw[qX m]at h;exact AC (by simpa[nc]using h)
 ·rw[qY m]
  rw[qY m]at h;exact AA (JO (AC (by simpa[nc]using h)))
theorem TD{x y:List K×K}{a b:AL}{P:Fin->AK->Prop}(U:A.units+4 < Bd)(H:IsPair knd s.heap x a)(G:IsPair knd s.heap y b)(h:P (.done (.ret (.bool (decide (x=y))))) s) :
  AZ (AY prog w) A (Builtin.«tuple.__eq__» ⟨[.ref a,.ref b],[]⟩) P E s:=by
 have B:=G.typeIs;obtain⟨o,n,c,v,I,_,J,L,N⟩:=H;obtain⟨X,Y,O,Q,R,_,C,S,T⟩:=G;show AZ _ _ (jm (.ref b) (.type "tuple") >>= _) _ _ s;refine AA (Dt B MW ?_);simp only[C1,A5,if_false];refine AA (PL I J ?_);refine AA (PL R C ?_);refine AA ?_;show AZ _ _ (forIn [(AV c,AV O),(v,Q)] _ _) _ _ s;rw[D0];refine AA (AA (ji ∅ L S ?_))
 by_cases l:x.1=y.1
 ·rw[wX l]
  simp only[C1,A5,if_false];refine AC ?_;symm;rw[D0];refine AA (AA (knd.eqBool N T ?_))
  by_cases m:x.2=y.2
  ·rw[wX m]
   simp only[C1,A5,if_false];refine AC ?_;symm;rw[GW];refine AC ?_;rw[wX (RZ l m)]at h;refine AC ?_;exact h
  ·rw[wY m]
   simp only[IJ,if_true];rw[wY (λz=>m (congrArg Prod.snd z))]at h;exact AA (AC (AC (AC (AC h))))
 ·rw[wY l]
  simp only[IJ,if_true];rw[wY (λz=>l (congrArg Prod.fst z))]at h;exact AA (AC (AC (AC (AC h))))
theorem Mi{x y:List K×K}{a b:AL}{Q:Bool->AK->Prop}(B:A.units+8 < Bd)(l:IsPair knd s.heap x a)(m:IsPair knd s.heap y b)(h:Q (decide (x=y)) s) :
  AZ (AY prog w) A (eqBool (.ref a) (.ref b)) Q E s:=by
 unfold eqBool
 try with_reducible refine Cp ?_
 show AZ _ _ (if (AV a==AV b)=true then _ else _) Q E s
 by_cases o:(AV a==AV b)=true
 ·rw[qX o]
  have e:a=b:=by have:=eq_of_beq o;injection this
  subst e;obtain rfl:=l.inj m;exact AA (JO (AC (by simpa using h)))
 ·rw[qY o]
  exact AA (wpAny_richCompare_same_room (op:=.Eq) l.typeIs m.typeIs Lm
   (BL Lm l.typeIs F.entry_tuple_eq (TD (show A.units+1+4 < Bd by lia) l m ⟨_,rfl,(λe=>nomatch e),CL h⟩) (F.args_tuple_eq_2 _ _)) ∅)
theorem Uj{ks:List K}{a:AL}{Q:Bool->AK->Prop}(m:Nat)(H:jv knd s.heap ks a)(h:Q true s):AZ (AY prog w) A (Zc (m+1) (.ref a)) Q E s:=by
 have I:=H.typeIs;obtain⟨o,B,n,L,_,N,O⟩:=H;unfold Zc;refine AA (E4 I Lm.lookup ?_);show AZ _ _ (jm (.ref a) (.type "tuple") >>= _) _ _ s;refine AA (Dt I MW ?_);simp only[C1,A5,if_false];refine AA (Ea L N ?_);refine AA ?_;show AZ _ _ (forIn B _ _) _ _ s;rw[<-Fs];refine LR _ (λl r C=>r.1=none/\C=s/\∀v∈l,carriedByValue v=true) _ ?_ ?_ _ _ ⟨rfl,rfl,O.byValue⟩
 ·rintro v l r C ⟨G,rfl,J⟩
  rw[nY _ (J v AW)];refine AA (AC ?_);simp only[C1,A5,if_false];exact AC ⟨rfl,rfl,λu P=>J u (AM _ P)⟩
 ·rintro⟨R,S⟩ C ⟨G,rfl,_⟩
  simp only at G;subst G;exact AC h
theorem WK{k:List K×K}{a:AL}{Q:Bool->AK->Prop}(l:IsPair knd s.heap k a)(h:Q true s):AZ (AY prog w) A (Zc 8 (.ref a)) Q E s:=by
 have m:=l.typeIs;obtain⟨o,n,c,v,B,_,C,G,H⟩:=l;unfold Zc;refine AA (E4 m Lm.lookup ?_);show AZ _ _ (jm (.ref a) (.type "tuple") >>= _) _ _ s;refine AA (Dt m MW ?_);simp only[C1,A5,if_false];refine AA (Ea B C ?_);refine AA ?_;show AZ _ _ (forIn #[AV c,v] _ _) _ _ s;rw[<-Fs];show AZ _ _ (forIn [AV c,v] _ _) _ _ s;rw[D0];refine AA (AA (Uj _ G ?_));simp only[C1,A5,if_false];refine AC ?_;symm;rw[D0,nY _ (knd.byValue _ _ H)];refine AA (AA (AC ?_));simp only[C1,A5,if_false];refine AC ?_;symm;rw[GW];exact AC (AC h)
end
def pairKind{prog:Al}{w:A1}{K:Type}[DecidableEq K](knd:KeyKind prog w K):HeapKind prog w (List K×K) where
 is:=IsPair knd
 hash:=QC knd
 draws:=λk=>k.1.length+3
 room:=λA=>A.units+8 < Bd
 inj:=λl m=>l.inj m
 keeps:=λx C E G=>x.keeps C E G
 pyHash:=λo B h=>Mh o B h
 eqBool:=λo l m h=>Mi o l m h
 quiet:=λB h=>WK B h
end NK
namespace L2
noncomputable abbrev PKy:=ZLi×Int
def lU(k:PKy):Int:=Vh (Da [Vh (Da (k.1.map hashInt)),hashInt k.2])
def gh(x:PKy×AL×AD):LZ:=⟨lU x.1,.ref x.2.1,x.2.2⟩
def JL(a:AL)(xs:List (PKy×AL×AD)):BI->Prop:=λh=>∃o l m,h.get? a=some o/\o.ExactDict/\o.data=.dict l m/\l.toList=xs.map gh
def Ny(H:Hp)(k:PKy)(b:AL):Prop:=∃c,H b=some (.tup [.ref c,.int k.2])/\H c=some (.tup (k.1.map V.int))
abbrev KPr(H:Hp):List (PKy×V)->List (PKy×AL×AD)->Prop:=Er λp q=>p.1=q.1/\Ny H p.1 q.2.1/\RelV p.2 q.2.2
theorem KPr.val{H:Hp}{kvs:List (PKy×V)}{xs:List (PKy×AL×AD)}(r:KPr H kvs xs)(k:PKy):JK (JX kvs k) ((KA xs k).map (·.2)):=by
 induction r with
 | nil=>trivial
 | @cons p q o l h t m=>
  by_cases e:p.1=k
  ·rw[KW e,show KA (q :: l) k=some q.2 by simp[KA,CP,<-h.1,e]]
   exact h.2.2
  ·rw[KY e,show KA (q :: l) k=KA l k by simp[KA,CP,<-h.1,e]]
   exact m
set_option tactic.hygienic true in
theorem KPr.put{H:Hp}{kvs:List (PKy×V)}{xs:List (PKy×AL×AD)}(r:KPr H kvs xs)(k:PKy){b:AL}{y:V}{u:AD}(hb:Ny H k b)(l:RelV y u):KPr H (IE kvs k y) (N3 xs k b u):=by
 have e:(kvs.any λm=>decide (m.1=k))=(KA xs k).isSome:=by
  rw[Pj,(r.val k).isSome_eq,GN]
 unfold IE N3;rw[e];split
 ·rename_i z
  clear e z
  induction r with
  | nil=>exact .nil
  | @cons p q w A h t o=>
   refine .cons ?_ o
   by_cases c:p.1=k
   ·show(if p.1=k then(p.1,y)else p).1=(Tu k u q).1/\Ny H (if p.1=k then(p.1,y)else p).1 (Tu k u q).2.1/\RelV (if p.1=k then(p.1,y)else p).2 (Tu k u q).2.2
    unfold Tu;rw[qX c,qX (h.1.symm.trans c)];exact⟨h.1,h.2.1,l⟩
   ·show(if p.1=k then(p.1,y)else p).1=(Tu k u q).1/\Ny H (if p.1=k then(p.1,y)else p).1 (Tu k u q).2.1/\RelV (if p.1=k then(p.1,y)else p).2 (Tu k u q).2.2
    unfold Tu;rw[qY c,qY (λz=>c (h.1.trans z))];exact h
 ·exact OU r ⟨rfl,hb,l⟩
theorem Ny.keeps{H H':Hp}{k:PKy}{b:AL}(l:∀b m,H b=some (.tup m)->H' b=some (.tup m)):Ny H k b->Ny H' k b:=by rintro ⟨c,o,w⟩;exact ⟨c,l _ _ o,l _ _ w⟩
theorem KPr.keeps{H H':Hp}{kvs:List (PKy×V)}{xs:List (PKy×AL×AD)}(r:KPr H kvs xs)(m:∀b l,H b=some (.tup l)->H' b=some (.tup l)):KPr H' kvs xs:=
 Er.mapP r λG G z=>⟨z.1,z.2.1.keeps m,z.2.2⟩
section
variable{P:Al}{w:A1}{H:Hp}{h:BI}{a b:AL}
theorem U7:∀{l:ZLi} {us:List AD},Bp (l.map V.int) us->ItemsAre (Hz P w) l us
 | [],_,r=>by cases r;exact .nil
 | n :: l,_,r=>by
  cases r with
  | cons h t=>
   obtain⟨m,rfl⟩:=show ∃t,_=Ft n t from h
   exact .cons (by simp[Hz,Ol]) (U7 t)
theorem O3{k:PKy}(ok:HOk P w H h)(e:Ny H k b):(NK.pairKind (Hz P w)).is h k b:=by
 obtain⟨c,m,A⟩:=e;obtain⟨_,S,r,o,B,C,n,E⟩:=(show CS P w H h b (.tup [.ref c,.int k.2])from ok b _ m);obtain⟨_,l,G,I,J,L,N,O⟩:=(show CS P w H h c (.tup (k.1.map V.int))from ok c _ A)
 cases r with
 | cons Q r=>
  cases r with
  | cons R r=>
   cases r;cases(show _=AV c from Q);refine⟨o,n,c,_,B,C,E,⟨I,l.toArray,N,J,L,O,?_⟩,?_⟩
   ·rw[List.toList_toArray]
    exact U7 G
   ·obtain⟨t,rfl⟩:=show ∃t,_=Ft k.2 t from R
    simp[Hz,Ol]
def PD(H:Hp)(a:AL)(kvs:List (PKy×V)):Prop:=kvs.length<=sizeLine/\(a==B0)=false/\(kvs.map (·.1)).Nodup/\∃l,H a=some (.ext (JL a l))/\KPr H kvs l
theorem PD.keeps{H':Hp}{kvs:List (PKy×V)}(m:∀b l,H b=some (.tup l)->H' b=some (.tup l))(e:H' a=H a):PD H a kvs->PD H' a kvs:=by rintro ⟨o,A,B,C,E,G⟩;exact ⟨o,A,B,C,e.trans E,G.keeps m⟩
theorem qE{kvs:List (PKy×V)}(ok:HOk P w H h)(d:PD H a kvs):∃xs,KPr H kvs xs/\xs.length<=sizeLine/\h.DictOfH (NK.pairKind (Hz P w)) a xs:=by
 obtain⟨z,-,m,xs,e,r⟩:=d;obtain⟨⟨o,C,E,G,I,J,A⟩,-⟩:=(show CS P w H h a (.ext (JL a xs))from ok a _ e);refine⟨xs,r,by rw[<-Cw r];exact z,o,C,E,G,I,J,A,?_,?_⟩
 ·clear e A z m
  induction r with
  | nil=>exact λx l=>zX l DG
  | @cons p q L N h t B=>
   intro x l
   rcases Aj.mp l with rfl | l
   ·rw[<-h.1];exact O3 ok h.2.1
   ·exact B x l
 ·have:xs.map (·.1)=kvs.map (·.1):=by
   clear e A z m
   induction r with
   | nil=>rfl
   | cons h t B=>rw[Ai,Ai,B,h.1]
  rw[this];exact m
end
section
variable{X:Cx}{ζ:List (AL×Obj)}{σ:St}{H:Hp}{s:AK}{a b:AL}{v:V}{r:AD}{A:BP}{E:AD->AK->Prop}{kvs:List (PKy×V)}{k:PKy}
theorem WP{Q:Unit->AK->Prop}(hu:A.units+9 < Bd)(I:Inv X ζ σ H s)(d:PD H a kvs)(C:Ny H k b)(hl:kvs.length < sizeLine)(O:RelV v r)
  (h:∀H' s',Inv X ζ σ H' s'->PD H' a (IE kvs k v)->(∃R,H'=upd H a (.ext R))->Q () s'):AZ (AY X.prog X.w) A (Zp (.ref a) (.ref b) r) Q E s:=by
 obtain⟨B,rel,S,T⟩:=qE I.hok d;obtain⟨z,U,nd,Y,e,-⟩:=d
 refine je (hsz:=S) (show A.units+1+8 < Bd by omega) (O3 I.hok C) T λZ wO G=>?_
 obtain⟨q,J,L,N,h2,h3,h4,_,h5⟩:=wO;have new:CS X.prog X.w (upd H a (.ext (JL a (N3 B k b r)))) Z a (.ext (JL a (N3 B k b r))):=⟨⟨q,J,L,N,h2,h3,h4⟩,⟨q,N⟩,λh1 y6 ⟨o,J,L,g1,g2⟩ k=>⟨o,J,L,k o g1,g2⟩⟩;refine h _ _ (Td I (by rw[e];exact D8) G ⟨q,N⟩ new) ⟨?_,U,?_,_,Ar,(rel.put k C O).keeps λc ys P=>?_⟩ ⟨_,rfl⟩
 ·have:=Ku kvs k v
  lia
 ·have e1:(N3 B k b r).map (·.1)=(IE kvs k v).map (·.1):=by
   have:=rel.put k C O;generalize N3 B k b r=m at this;generalize IE kvs k v=l at this
   induction this with
   | nil=>rfl
   | cons h t ih=>rw[Ai,Ai,ih,h.1]
  rw[<-e1];exact h5
 ·rw[AO (jT P e (λz=>nomatch z))]
  exact P
theorem ll(h:BI)(hb:B0 < h.objs.size){P:Al}{w:A1}{H:Hp}:CS P w H (h.push { cls:=.type "dict",data:=.dict #[] }) h.objs.size (.ext (JL h.objs.size [])):=
 ⟨⟨_,#[],0,AQ _ rfl,⟨rfl,rfl,rfl⟩,rfl,rfl⟩,⟨_,AQ _ rfl⟩,by rintro G I ⟨o,l,m,B,C⟩ k;exact ⟨o,l,m,k o B,C⟩⟩
end
end L2
namespace L7
open L2
open L4 (Fw AR eT eP oL oDR Nm Lb Kk)
def setRO(l:List ZLi):Option (List ZLi):=if l.all (λr=>!r.isEmpty)=true/\(ddR l).length<=76 then some (Yn l)else none
section
variable{X:Cx}{A:List Sl}{e o:Expr}{p p2 pos tP:Pos}{ρ:Type}{K:AB}
set_option tactic.hygienic true in
theorem UJ(G:X.A.units+64 < Bd)(I:X.mg "sorted" = none) (J:X.mg "set" = none) (h:VE X A e (rO X.K (oL (eT D.int))) pl) (L:autoParam (X.calm=true) yq0q) (N:autoParam (Gl X "sorted") yq0q) (O:autoParam (Gl X "set") yq0q)
  (P:autoParam (zSq X e) yq0q) (R:autoParam (AH [.Call (.Name "set" p2) [e] [] tP] X.env=(false,A6 (.Call (.Name "set" p2) [e] [] tP) X.env) :: AH [] X.env) yq0q) :
  VE X A (.Call (.Name "sorted" p) [.Call (.Name "set" p2) [e] [] tP] [] pos) (rN X.K (oL (eT D.int))) (pl.bind setRO):=λv S=>by
 obtain⟨l,T,w⟩:=AR S;unfold setRO at w
 split at w <;> cases w
 rename_i B
 refine(Uo L G N I O J (h l T) P R).imp λσ H Q ⟨U,F,Y,k⟩=>⟨U,F,Y,λx H1 kp ⟨a,Z,vs,e2,rr⟩=>?_⟩
 obtain⟨C,i2⟩:=Pz (Kk l B.1) rr;refine⟨a,vs,Z,.inl (.inl e2),i2,by rw[C];exact B.2,λout E ur q m=>k _ _ (kp.trans (BX m)) ⟨q,rfl,?_,out,Ar,?_⟩⟩
 ·cases e0:H q with
  | none=>rfl
  | some u=>rw[kp q u e0]at m;cases m
 ·rw[C]at E
  have:=P1 (K:=X.K) (ρ:=[]) ur;rw[E]at this
  exact this.keep (λb M z=>BX m b _ z) λb M M z=>BX m b _ z
theorem RK(l:(d==B0)=false):MeetsIn prog w (Builtin.«dict.__len__» ⟨[.ref d],[]⟩) (λG R s=>∃o es ep,s.heap.get? d=some o/\o.ExactDict/\o.data=.dict es ep/\R (.ok (.ret (.int es.size s.toks))) { s with toks:=s.toks+1 }):=
 .of_wp<|by
  rintro A R s ⟨o,es,ep,m,C,B,h⟩
  show AZ _ _ (dictSize d >>= _) _ _ s;unfold dictSize;refine AA (AA (J8 m B (AC ?_)));refine AA (wpAny_pendingCount_other l ?_);refine q9 ?_;simpa using h
theorem ZS:G8 X (.builtin "len") (λxs H Q=>∃a kvs,xs=[V.ref a]/\H a=some (.dT kvs)/\Q (.int kvs.length) H):=by
 intro R s S H xs T Q I r h;obtain⟨a,kvs,rfl,C,q⟩:=h;obtain⟨u,rfl,E⟩:=vals1 r;cases E;obtain⟨G,J,U,L,o,m,N,w,B,O,P,_⟩:=(I.hok a _ C)
 have l:m.size=kvs.length:=by
  have:=congrArg Dg P;rw[Ac,AF]at this;rw[this,<-Cw L]
 have ty:s.TypeIs (.ref a) "dict":=⟨o,w,B.1⟩;refine IZ kind_len plain_len entry_len (args_len1 _) ?_;unfold Builtin.«len»;refine AA (AC ?_)
 refine AA (BM ty n8
  (Zr n8 ty F.entry_dict_len (F.args_dict_len_1 _) (RK J) ⟨o,m,N,w,B,O,?_⟩))
 refine AA (Cp (AC ?_));refine AA (wpAny_letGo ?_)
 have Y:m.size < 2 ^ 63:=by rw[l];exact IY G ∅
 rw[qY (by simp)];rw[qY (by grind)];exact AA (wpAny_mkInt (AC ⟨_,rfl,.int kvs.length,H,I.tok _,⟨_,by rw[l]⟩,q⟩))
theorem UM(m:X.mg "len" = none) (h:VE X A e (rO X.K (oDR enc)) pl) (w:autoParam (Gl X "len") yq0q) (B:autoParam (zSq X e) yq0q):VE X A (.Call (.Name "len" p) [e] [] pos) (zIq X) (pl.bind λl=>some (l.length:Int)):=
 KR ZS LW m h (λv z H u C Q E G k=>by
  cases E;obtain⟨q,rfl,vs,I,J⟩:=G;refine⟨q,vs,rfl,I,?_⟩;rw[<-KVR.length J,AF]
  exact k _ C .refl (.int _)) upV w ∅ (by rfl) B
end
section
variable{P:Al}{w:A1}{H:Hp}{h:BI}{a:AL}
def PDF(H:Hp)(a:AL)(kvs:List (PKy×V)):Prop:=kvs.length<=sizeLine/\(a==B0)=false/\(kvs.map (·.1)).Nodup/\∃l ob,H a=some (.frz ob (.ext (JL a l)))/\KPr H kvs l
theorem lj(ok:HOk P w H h)(d:PDF H a kvs):∃xs,KPr H kvs xs/\xs.length<=sizeLine/\h.DictOfH (NK.pairKind (Hz P w)) a xs:=by
 obtain⟨z,-,B,xs,ob,e,r⟩:=d;obtain⟨_,⟨o,C,E,G,I,J,l⟩,-⟩:=(ok a _ e);refine⟨xs,r,by rw[<-Cw r];exact z,o,C,E,G,I,J,l,?_,?_⟩
 ·clear e l z B
  induction r with
  | nil=>ext
  | @cons p q L N h t m=>
   intro x A
   rcases Aj.mp A with rfl | A
   ·rw[<-h.1];exact O3 ok h.2.1
   ·exact m x A
 ·have:xs.map (·.1)=kvs.map (·.1):=by
   clear e l z B
   induction r with
   | nil=>rfl
   | cons h t m=>rw[Ai,Ai,m,h.1]
  ext
end
section
variable{X:Cx}{o i value tg:Expr}{pos pos':Pos}{td ty tv:TE}
def gI(td ty:TE):TE:=λw H Q=>td w H λx A=>ty w A λy m=>∃a b l k v,x=.ref a/\y=.ref b/\PDF m a l/\Ny m k b/\JX l k=some v/\Q v m
theorem Yv(hu:X.A.units+64 < Bd)(C:PE X o td)(hi:PE X i ty)(hs:ZY i):PE X (.Subscript o i pos) (gI td ty):=by
 intro m s w H Q I h;refine XW Qt.lookup hs (thn (C m s w H _ I h) λu E ⟨x,G,J,L,N⟩=>thn (hi m E w G _ J N) ?_);rintro O s2 ⟨y,P,l,R,a,b,S,k,v,T,U,g,Y,Z,q2⟩;subst T U;obtain rfl:u=AV a:=L;obtain rfl:O=AV b:=R;obtain⟨xs,rel,-,B⟩:=lj l.hok g;refine⟨B.typeIs,?_⟩;obtain⟨w',hw,t7⟩:=JK.some_of (by rw[<-Z];exact rel.val k);obtain⟨p,hp,rfl⟩:=GM.mp hw;exact jh (by show _+1+8 < Bd;lia) (O3 l.hok Y) B hp ⟨v,P,l.tok _,t7,q2⟩
def kh:TE:=λG H Q=>∀p,H p=none->(p==B0)=false->Q (.ref p) (upd H p (.ext (JL p [])))
theorem bf:PE X (.Dict [] [] pos) kh:=λl s m H Q I h=>
 SL ⟨.ref s.heap.objs.size,_,I.laid (t':=s.toks) (λG G q=>AG _ q) (AN _) (ll s.heap I.big),rfl,h _ (I.hok.fresh (AN _)) (beq_eq_false_iff_ne.mpr (CO (Ao I.big)))⟩
def lD(td ty tv:TE):TS:=λD m H=>tv m H λv B=>td m B λx C=>ty m C λy w=>∃a b l k,x=.ref a/\y=.ref b/\PD w a l/\Ny w k b/\l.length < sizeLine /\
 ∀A,PD (upd w a (.ext A)) a (IE l k v)->D.nx m (upd w a (.ext A))
theorem bV(hu:X.A.units+64 < Bd)(w:PE X o td)(hi:PE X i ty)(B:PE X value tv)(hs:Bb value (some (.Subscript o i pos')) pos.line X.env=pure false) :
  PS X (.Assign [.Subscript o i pos'] value pos) (lD td ty tv):=by
 intro m s l H D I h;refine Zn (thn (B m s l H _ I h) λr C ⟨v,E,G,J,L⟩=>thn (w m C l E _ G L) λu N ⟨x,O,P,Q,R⟩=>thn (hi m N l O _ P R) ?_) hs;rintro S s3 ⟨y,H3,T,U,a,b,Y,k,Z,ey,g,gk,gl,q3⟩;subst Z ey;obtain rfl:u=AV a:=Q;obtain rfl:S=AV b:=U
 refine WP ∅ T g gk gl J λH4 s4 I4 d4 e4=>?_
 obtain⟨φ,rfl⟩:=e4;exact⟨l,_,I4,q3 φ d4⟩
def qe(w:TE):TI:=λA H R=>w A H λx m=>∃a ob l,x=.ref a/\(a==B0)=false/\m a=some (.frz ob (.ext (JL a l)))/\R (Itk a ob (.ext (JL a l)) ((l.map (·.2.1)).map V.ref)) m
theorem bY(hl:PE X l E):PI X tg l (qe E):=by
 intro G s J H R I h
 refine thn (hl G s J H _ I h) ?_;rintro v m ⟨x,L,w,N,O⟩
 obtain⟨a,ob,P,e,Q,S,q⟩:=O;subst e;cases N;obtain⟨g,⟨o,T,Z,A,B,C,U⟩,_⟩:=(w.hok a _ S);rw[g]at A;cases A
 have Y:T.toList.map (·.key)=(P.map (·.2.1)).map AV:=by
  rw[U,Aw,Aw];rfl
 refine Srt.P2 Q ⟨ob,g,B,C⟩ ?_;refine⟨m.heap.objs.size,[m.heap.objs.size],_,_,L,rfl,w.kept (t':=m.toks) λb o e=>AG _ e,Rj B C (by rw[Y];exact Rt _),⟨_,AQ _ rfl,rfl,rfl⟩,λb hb=>?_,q⟩
 have e:b=m.heap.objs.size:=by simpa using hb
 subst e;exact w.fpOk (AN _) (w.hok.fresh (AN _))
end
open L2
open L4 (Fw AR eT eP oL oDR Lb B2)
abbrev BK:=PKy×List ZLi
section
variable{K:AB}{H H' H0:Hp}{l:List BK}{bs:List AL}
def zk:List BK->List AL->List (PKy×V)
 | p :: l,b :: bs=>(p.1,.ref b) :: zk l bs
 | _,_=>[]
abbrev KB(K:AB)(H:Hp):List BK->List AL->Prop:=Er λp b=>OB K H b (oL (eT D.int) p.2)
theorem jy(h:KB K H l bs):(zk l bs).length=l.length:=by
 induction h with
 | nil=>rfl
 | cons _ _ m=>show _+1=_+1;rw[m]
theorem jx(h:KB K H l bs)(m:AT l k=some v):∃(j:Nat) (b:AL),l[j]?=some (k,v)/\bs[j]?=some b/\JX (zk l bs) k=some (.ref b):=by
 induction h with
 | nil=>cases m
 | @cons p b l bs _ _ o=>
  unfold AT at m;rw[CP]at m
  by_cases e:p.1=k
  ·rw[show decide (p.1=k)=true from wX e]at m
   cases m;exact⟨0,b,by rw[<-e];rfl,rfl,KW e⟩
  ·rw[show decide (p.1=k)=false from wY e]at m
   obtain⟨j,c,w,A,B⟩:=o m;exact⟨j+1,c,w,A,by show JX ((p.1,V.ref b) :: zk l bs) k=_;rw[KY e];exact B⟩
theorem qT(h:KB K H l bs){j:Nat}{p:BK}{b:AL}(m:l[j]?=some p)(o:bs[j]?=some b):OB K H b (oL (eT D.int) p.2):=by
 induction h generalizing j with
 | nil=>cases m
 | cons h _ w=>cases j with
  | zero=>cases m;cases o;exact h
  | succ j=>exact w m o
theorem O8(h:KB K H l bs)(k:∀b∈bs,∀o,OB K H b o->OB K H' b o):KB K H' l bs:=by
 induction h with
 | nil=>exact .nil
 | cons h _ m=>exact .cons (k _ (AW ..) _ h) (m λb hb=>k b (AM _ hb))
theorem jz(k:PKy)(h:KB K H l bs):((zk l bs).any λm=>decide (m.1=k))=(l.any λm=>decide (m.1=k)):=by
 induction h with
 | nil=>rfl
 | cons _ _ o=>show(_||_)=(_||_);rw[o]
set_option tactic.hygienic true in
theorem mQ(h:KB K H l bs)(hb:OB K H b (oL (eT D.int) v)):∃C,KB K H (Cm l k v) C/\zk (Cm l k v) C=IE (zk l bs) k (.ref b)/\∀c∈C,c∈bs∨c=b:=by
 unfold Cm IE;rw[jz k h];split
 ·rename_i E
  clear E
  induction h with
  | nil=>exact⟨[],.nil,rfl,λc m=>by cases m⟩
  | @cons p q l bs G _ I=>
   obtain⟨o,w,A,B⟩:=I
   by_cases e:p.1=k
   ·refine⟨b :: o,.cons ?_ w,?_,λc m=>?_⟩
    ·show OB K H b (oL (eT D.int) (if p.1=k then(p.1,v)else p).2)
     rw[qX e];exact hb
    ·show((if p.1=k then(p.1,v)else p).1,V.ref b) :: zk _ o=(if p.1=k then(p.1,V.ref b)else(p.1,V.ref q)) :: _
     rw[qX e,qX e,A]
    ·rcases Aj.mp m with rfl | m
     ·exact .inr rfl
     ·exact(B c m).imp (AM _) id
   ·refine⟨q :: o,.cons ?_ w,?_,λc m=>?_⟩
    ·show OB K H q (oL (eT D.int) (if p.1=k then(p.1,v)else p).2)
     rw[qY e];exact G
    ·show((if p.1=k then(p.1,v)else p).1,V.ref q) :: zk _ o=(if p.1=k then(p.1,V.ref b)else(p.1,V.ref q)) :: _
     rw[qY e,qY e,A]
    ·rcases Aj.mp m with rfl | m
     ·exact .inl (AW ..)
     ·exact(B c m).imp (AM _) id
 ·rename_i E
  clear E
  induction h with
  | nil=>exact⟨[b],.cons hb .nil,rfl,λc m=>.inr (Au.mp m)⟩
  | @cons p q l bs G _ I=>
   obtain⟨o,w,A,B⟩:=I;refine⟨q :: o,.cons G w,?_,λc m=>?_⟩
   ·show(p.1,V.ref q) :: zk (l++[(k,v)]) o=(p.1,V.ref q) :: (zk l bs++_)
    rw[A]
   ·rcases Aj.mp m with rfl | m
    ·exact .inl (AW ..)
    ·exact(B c m).imp (AM _) id
def pB(K:AB)(l:List BK):Hp->(AL->Prop)->Hp->V->Prop:=λG S H y=>∃a bs,y=.ref a/\S=(λc=>c=a∨c∈bs)/\a∉bs/\PD H a (zk l bs)/\KB K H l bs
def zB(K:AB)(l:List BK):Hp->Hp->V->Prop:=λH0 H y=>∃a bs ob m o w,y=.ref a/\H0 a=none/\(∀b∈bs,H0 b=none)/\H a=some (.frz ob (.ext (JL a m)))/\ob.data=.dict o w/\o.toList.map (·.val)=bs.map AV/\(zk l bs).length<=sizeLine/\(a==B0)=false/\((zk l bs).map (·.1)).Nodup/\KPr H (zk l bs) m/\KB K H l bs
theorem Ug{a b:List AL}(h:a.map AV=b.map AV):a=b:=by
 induction a generalizing b with
 | nil=>cases b with
  | nil=>rfl
  | cons=>cases h
 | cons x a m=>cases b with
  | nil=>cases h
  | cons y b=>
   rw[Ai,Ai]at h
   injection h with o w
   cases o;rw[m w]
theorem cI(h:KB K H l bs)(r:KPr H' (zk l bs) xs):xs.map (·.2.2)=bs.map AV:=by
 induction h generalizing xs with
 | nil=>cases r;rfl
 | cons _ _ m=>
  cases r with
  | cons h t=>rw[Ai,Ai,m t];congr 1;exact h.2.2
theorem pp(h:Ny H k b):RD K H (eP (eT D.int) D.int k) (.ref b):=by
 obtain⟨c,o,w⟩:=h;refine .tup o (.cons (.tup w ?_) (.cons (.int _) .nil));generalize k.1=m
 induction m with
 | nil=>exact .nil
 | cons n m A=>exact .cons (.int n) A
theorem bH{m:ZLi}{vs:List V}(h:A8 K [] H (m.map D.int) vs):vs=m.map V.int:=by
 induction m generalizing vs with
 | nil=>cases h;rfl
 | cons n m o=>cases h with | cons w A=>cases w;rw[o A];rfl
theorem jP{k}{y}(h:RD K H (eP (eT D.int) D.int k) y):∃b,y=.ref b/\Ny H k b:=by
 cases h with
 | @tup _ b vs o m=>
  cases m with
  | cons w m=>cases m with
   | cons A m=>
    cases m;cases A
    cases w with
    | @tup _ c E B C=>exact⟨b,rfl,c,o,by rw[B,bH C]⟩
end
section
variable{X:Cx}{A:List Sl}{e i o:Expr}{pos pos':Pos}{ρ:Type}{l:List BK}
theorem aQ:VE X A (.Dict [] [] pos) (rG (pB X.K)) (some []):=λv w=>bf.imp<|by
 rintro E H Q ⟨B,F,G,k⟩
 cases w;intro q m C;refine k _ _ (BX m) ⟨λc=>c=q,λb z=>by cases z;exact⟨m,_,Ar⟩,λB J I f z=>⟨q,[],rfl,by funext c;simp,by simp,⟨Bc _,C,by simp[zk],[],(z q rfl).trans Ar,.nil⟩,.nil⟩⟩
theorem aA{n:Nat}{I:Option PKy}{pv:Option (List ZLi)}{R:Rk ρ}(hu:X.A.units+64 < Bd)(ho:PE X o (DX n))(hi:VE X A i (rV X.K (eP (eT D.int) D.int)) I)(hv:VE X A e (rN X.K (oL (eT D.int))) pv)(hA:autoParam (A[n]?=some (.g (pB X.K l))) yq0q)(hs:autoParam (Bb e (some (.Subscript o i pos')) pos.line X.env=pure false) yq0q) :
  VS X A (.Assign [.Subscript o i pos'] e pos) R (pv.bind λv=>I.bind λk=>(B2 l k v).bind λJ=>some (.nx J)) (λJ=>A.set n (.g (pB X.K J))):=λf C=>by
 obtain⟨v,h1,C⟩:=AR C;obtain⟨k,h2,C⟩:=AR C;obtain⟨J,O,h4⟩:=AR C;cases h4;unfold B2 at O
 split at O <;> cases O
 have hl:l.length < 1000000:=by assumption
 refine(bV hu ho (hi k h2) (hv v h1) hs).imp λD σ H ⟨H0,F,⟨G,hs⟩,q⟩=>?_
 obtain⟨y,g1,g2⟩:=hs.atG hA
 obtain⟨a,bs,rfl,gS,Q,gd,gb⟩:=g2 H Kp.refl.fr λM M=>rfl
 refine⟨H0,F,⟨G,hs⟩,λx1 H1 k1 r1=>⟨_,g1,H0,_,⟨G,hs.grow k1⟩,λy S T r2=>?_⟩⟩;obtain⟨b,rfl,hb,ob⟩:=r1;obtain⟨c,rfl,I⟩:=jP r2;have m:=k1.trans T
 have E:G n a:=by rw[gS];exact .inl rfl
 obtain⟨oa,ea⟩:=(hs.gn n a E).2;obtain⟨_,_,_,xs,B,_⟩:=id gd
 have U:b≠a:=λz=>by rw[z,ea]at hb;cases hb
 have Y:=PD.keeps (λb ys z=>m _ _ z) (by rw[B,m _ _ B]) gd;refine⟨a,c,zk l bs,k,rfl,rfl,Y,I,by rw[jy gb];exact Lb hl,λφ pd=>?_⟩
 have Z:=O8 gb λb M o z=>m.ob z
 obtain⟨vJ,j1,j2,j3⟩:=mQ Z (T.ob ob)
 have ne:∀c o,H c=some o->c≠b:=λc o z1 z2=>by rw[z2,hb]at z1;cases z1
 have fe:Fe F H (λc=>gF F H S c/\c≠b) (upd S a (.ext φ)):=⟨λc z=>⟨.inl z,let ⟨o,e⟩:=hs.fh c z;ne c o e⟩,λc us z=>by rw[AO (λw=>by rw[w,B]at z;cases z)];exact m _ _ z,λc us w z=>by rw[AO (λw=>by rw[w,B]at z;cases z)];exact m _ _ z,λc us w z=>by rw[AO (show c≠a from λq=>(hs.gn n a E).1 (q▸w))];exact m _ _ z⟩
 have na:¬gF F H S a:=λz=>z.elim (hs.gn n a E).1 λz=>by rw[ea]at z;cases z.1
 have hbs:∀c∈bs,G n c:=λc L=>by rw[gS];exact .inr L
 have vr:=hs.own n (S':=λc=>c=a∨c∈vJ) (P:=pB X.K (Cm l k v)) fe (λc o z w=>by rw[AO (show c≠a from λu=>w (u▸E))];exact m _ _ z) (λc z=>z.1.imp id λw=>w.1) (λc z=>by
   rw[AO (show c≠a from λu=>na (u▸z.1))]
   exact z.1.elim (λw=>let ⟨o,e⟩:=hs.fh c w;⟨o,m c o e⟩) λw=>w.2) (λc z=>by
   rcases z with rfl | z
   ·exact⟨.inl E,λw=>na w.1,_,Ar⟩
   ·rcases j3 c z with w | rfl
    ·have w':=hbs c w
     obtain⟨o,N⟩:=(hs.gn n c w').2;exact⟨.inl w',λu=>u.1.elim (hs.gn n c w').1 (λu=>by rw[N]at u;cases u.1),o,by rw[AO (show c≠a from λu=>Q (u▸w))];exact m _ _ N⟩
    ·obtain⟨o,N⟩:=(T.ob ob).at
     exact⟨.inr hb,λu=>u.2 rfl,o,by rw[AO U];exact N⟩) λH2 f z=>⟨a,vJ,rfl,rfl,λw=>(j3 a w).elim Q λw=>U w.symm,by rw[j2];exact pd.keeps f.tup (z a (.inl rfl)),O8 j1 λc L o w=>w.keep (λb ys e=>f.tup _ _ (by rw[AO (λu=>by rw[u,m _ _ B]at e;cases e)];exact e)) (λb o u e=>f.frz _ _ _ (by rw[AO (λu=>by rw[u,m _ _ B]at e;cases e)];exact e)) ((z c (.inr L)).trans (AO λu=>(j3 c L).elim (λw=>Q (u▸w)) λw=>U (w.symm.trans u)))⟩
 rw[St.set_same g1]at vr;exact q _ _ _ ⟨_,vr⟩ fe
end
section
variable{X:Cx}{A:List Sl}{e i tg o d:Expr}{p pos pos':Pos}{ρ τ:Type}{l:List BK}
theorem fB(i:Nat)(m:autoParam X.N.Nodup yq6q)(hi:autoParam (X.N[i]?=some x) yq0q)(w:autoParam (Loc X.env.scope x) yq4q)(hs:autoParam (Bb (.Dict [] [] p) (some (.Name x pos')) pos.line X.env=pure false) yq0q)(B:autoParam (zFn X x) yq3q):VS X A (.Assign [.Name x pos'] (.Dict [] [] p) pos) R (some (.nx ([]:List BK))) (λv=>A.set i (.g (pB X.K v))):=jB (aa aQ m hi w hs B)
set_option tactic.hygienic true in
theorem j7{st:B6}{R:Rk ρ}{q:Option (Fw ρ τ)}{B:τ->List Sl}(i:Nat)(h:VS X (A.set i (.q (zB X.K l))) st R q B)(hA:autoParam (A[i]?=some (.g (pB X.K l))) yq0q):VS X A st R q B:=by
 rintro f hf ζ s U H D I ⟨J,F,⟨G,C⟩,k⟩
 obtain⟨y,g1,g2⟩:=C.atG hA
 obtain⟨a,bs,rfl,gS,gn,gd,Y⟩:=g2 H Kp.refl.fr λM M=>rfl
 obtain⟨Z,z2,z3,L,ex,kp⟩:=gd;obtain⟨⟨o,es,ep,e1,e2,e3,e4⟩,_⟩:=(I.hok a _ ex)
 have N:G i a:=by rw[gS];exact .inl rfl
 have nF:=(C.gn i a N).1
 have P:∀b∈bs,G i b:=λb hb=>by ext
 have n0:∀b,G i b->J b=none:=λb hb=>by
  cases e:J b with
  | none=>rfl
  | some u=>exact zX (C.f0 b u e) (C.gn i b hb).1
 have E:∀b,b≠a->upd H a (.frz o (.ext (JL a L))) b=H b:=λb hb=>AO hb
 have fe:Fe F H (λb=>F b∨b∈bs) (upd H a (.frz o (.ext (JL a L)))):=⟨λM z=>.inl z,λb O z=>by grind,λb O w z=>by grind,λb w Z z=>by grind⟩
 have vr:VR J (A.set i (.q (zB X.K l))) U (λb=>F b∨b∈bs) (λj=>if j=i then λM=>False else G j) (upd H a (.frz o (.ext (JL a L)))):=by
  refine⟨λb u z=>by rw[E b (λc=>nF (c▸C.f0 b u z))];exact C.kp b u z,λb u z=>.inl (C.f0 b u z),λb z=>?_,λj t Q=>?_,λj b z=>?_,λj m b S T=>?_⟩
  ·rcases z with z | z
   ·rw[E b (λc=>nF (c▸z))];exact C.fh b z
   ·rw[E b (λc=>gn (c▸z))];exact(C.gn i b (P b z)).2
  ·rcases JY Q with⟨rfl,rfl,hl⟩ | ⟨c,Q⟩
   ·refine⟨_,g1,_,rfl,λH' f=>⟨a,bs,o,L,es,ep,rfl,n0 a N,λb hb=>n0 b (P b hb),f.frz _ _ _ Ar,e3,?_,Z,z2,z3,kp.keeps λb O z=>f.tup _ _ (fe.fr.tup _ _ z),O8 Y λb hb o z=>?_⟩⟩
    ·rw[e4,Aw,<-cI Y kp];rfl
    ·obtain⟨u,hu⟩:=z.at
     exact z.keep (λb O w=>f.tup _ _ (fe.fr.tup _ _ w)) (λb O u w=>f.frz _ _ _ (fe.fr.frz _ _ _ w)) (by rw[hu];exact f.fix b _ (.inr hb) (by grind))
   ·obtain⟨x,q1,q2⟩:=C.sl j t Q
    rw[qY (CO c)];exact⟨x,q1,Sl.mono q2 fe λb hb=>E b λz=>c (C.ds i j b (z▸N) hb)⟩
  ·split at z
   ·exact z.elim
   ·rename_i c
    obtain⟨m1,m2⟩:=C.gn j b z;exact⟨λw=>w.elim m1 λw=>c (C.ds j i b z (P b w)),by rw[E b (λw=>c (C.ds j i b z (w▸N)))];exact m2⟩
  ·split at S
   ·exact S.elim
   ·split at T
    ·exact T.elim
    ·exact C.ds j m b S T
 exact h f hf ζ s U _ D (I.fz e1 ex trivial) (Ms ⟨J,_,F,H,⟨_,vr⟩,fe,k⟩)
theorem iK{K}{H}{bs}{xs}(h:KB K H l bs){H'}(r:KPr H' (zk l bs) xs):A8 K [] H' ((l.map (·.1)).map (eP (eT D.int) D.int)) ((xs.map (·.2.1)).map V.ref):=by
 induction h generalizing xs with
 | nil=>cases r;exact .nil
 | cons _ _ m=>
  cases r with
  | cons h t=>exact .cons (pp h.2.1) (m t)
theorem XF{n}(h:PE X e (DX n))(hi:autoParam (A[n]?=some (.q (zB X.K l))) yq0q):VI X A tg e (rd X.K (eP (eT D.int) D.int)) (some (l.map (·.1))):=λU I=>(bY h).imp<|by
 rintro Y H R ⟨Z,F,J,k⟩
 cases I;obtain⟨y,L,N⟩:=J.at hi;obtain⟨a,bs,ob,O,es,ep,rfl,n0,nb,w,hd,B,z1,P,z3,kp,Q⟩:=N H Kp.refl.fr;refine⟨_,L,a,ob,O,rfl,P,w,k _ H .refl λF' H' fe i=>?_⟩;have C:=fe.fr.frz _ _ _ w;have E:=iK Q (kp.keeps fe.fr.tup);refine⟨λS=>⟨C,by rw[<-E.length,AF];exact CY.mp S⟩,λv B=>?_⟩;obtain⟨x,G,T⟩:=E.get (by rw[Ab,B];rfl);refine⟨⟨C,(AJ.mp G).1⟩,λy H2 m=>?_⟩;obtain⟨rfl,m⟩:=m;rw[G]at m;cases m;exact⟨.refl,λH3 f=>f.rd T⟩
theorem UH(O:X.A.units+64 < Bd)(P:PE X o (DX n))(hi:VE X A i (rV X.K (eP (eT D.int) D.int)) C)(R:autoParam (A[n]?=some (.q (zB X.K l))) yq0q)(hs:autoParam (ZY i) yq7q):VF X A (.Subscript o i pos) (eT D.int) (C.bind λk=>AT l k):=λv S=>by
 obtain⟨k,T,U⟩:=AR S
 refine(Yv O P (hi k T) hs).imp λσ H Q ⟨Y,F,hs,q⟩=>?_
 obtain⟨y,Z,J⟩:=hs.at R;refine⟨_,Z,Y,F,hs,λx L kp r=>?_⟩;obtain⟨c,rfl,C⟩:=jP r;obtain⟨a,bs,ob,xs,es,ep,rfl,n0,nb,N,hd,E,z1,z2,z3,G,kb⟩:=J L kp.fr;obtain⟨j,b,j1,j2,j3⟩:=jx kb U;refine⟨a,c,_,k,.ref b,rfl,rfl,⟨z1,z2,z3,xs,ob,N,G⟩,C,j3,q b L kp λH' f=>?_⟩;obtain⟨a',vJ,ob',uE,es',va,e,_,_,w,B,m,_,_,_,_,I⟩:=J H' (kp.fr.trans f λM z=>.inl z);cases e;rw[f.frz _ _ _ N]at w
 injection w with w
 injection w with w _
 subst w;rw[hd]at B;cases B;rw[E]at m;cases Ug m;exact qT I j1 j2
theorem jI(h:VB X A e q)(m:autoParam (q=q') yq0q):VB X A e q':=m▸h
theorem ot(k:Wk A B)(h:VE X B e R q):VE X A e R q:=λv w=>(h v w).imp λC H Q ⟨m,F,E,z⟩=>let ⟨G,I,_⟩:=k m C F H E;⟨m,G,I,z⟩
def rFB(K:AB):Rk (List (ZLi×Int)×List BK):=λv H x m=>∃p d y,x=.ref p/\m p=some (.tup [.ref d,y])/\H d=none/\OB K m d (oDR D.int v.1)/\zB K v.2 H m y
theorem i9{K}{H H' m}{y}(k:Kp H H')(h:zB K l H' m y):zB K l H m y:=by
 have w:∀b,H' b=none->H b=none:=λb z=>by
  cases e:H b with
  | none=>rfl
  | some u=>rw[k b u e]at z;cases z
 obtain⟨a,bs,ob,B,C,E,e,G,I,h⟩:=h;exact⟨a,bs,ob,B,C,E,e,w a G,λb hb=>w b (I b hb),h⟩
theorem upFB{K}(v:List (ZLi×Int)×List BK)(H H':Hp)(x:V)(H2:Hp)(k:Kp H H')(h:rFB K v H' x H2):rFB K v H x H2:=by
 obtain⟨p,d,y,w,B,m,C,E⟩:=h;refine⟨p,d,y,w,B,?_,C,i9 k E⟩
 cases e:H d with
 | none=>rfl
 | some u=>rw[k d u e]at m;cases m
theorem Z5(I:PE X d (DX n))(J:PE X e (DX m))(C:autoParam (A[n]?=some (sw X.K (oDR D.int u))) yq0q)(L:autoParam (A[m]?=some (.q (zB X.K l))) yq0q)(hs:autoParam (AH [d,e] X.env=(false,A6 d X.env) :: AH [e] X.env) yq0q)(N:autoParam (zSq X e) yq0q) :
  VS X A (.Return (some (.Tuple [d,e] x1 pos')) pos) (rFB X.K) (some (.rt (u,l))) B:=λf O=>by
 cases O
 refine(S9 (WO (B3 I (B3 J ET N) hs))).imp λEE P H ⟨Q,F,E,k⟩=>?_
 have R:n≠m:=λz=>by ext
 obtain⟨F1,G,fe⟩:=JT C Q P F H E;obtain⟨y,S,T⟩:=G.at (by rw[DT,qX rfl,qX (AJ.mp C).1]);obtain⟨z,U,Y⟩:=G.at (by rw[Cr R];exact L);refine⟨_,S,_,U,(by show 2<=sizeLine;decide),λq w=>k _ _ (E.kp.trans (BX w)) ?_⟩;obtain⟨a,rfl,Z,e2⟩:=T _ (BX (o:=.tup [y,z]) w).fr;exact⟨q,a,z,rfl,Ar,Z,e2,Y _ (BX w).fr⟩
theorem aB{x y:Str}{n m E:Nat}{G I pt:Pos}{q:Option (List (ZLi×Int)×List BK)}{R:Rk ρ}(h:VE X A e (rFB X.K) q)(hg:PG X (.Tuple [.Name x G,.Name y I] E pt) (md X.K 2 (U9 (IT n) (U9 (IT m) me))))(hnm:autoParam (n≠m) yq1q)
  (hs:autoParam (swapsWithSole [.Tuple [.Name x G,.Name y I] E pt] e pos.line X.env=pure false) yq0q) (hw:autoParam (swappedStores [.Tuple [.Name x G,.Name y I] E pt] e X.env=pure none) yq0q) (O:autoParam ((JP [.Tuple [.Name x G,.Name y I] E pt] X.env).map (·.2)=[assign (.Tuple [.Name x G,.Name y I] E pt) X.env]) yq0q) :
  VS X A (.Assign [.Tuple [.Name x G,.Name y I] E pt] e pos) R (q.bind λv=>some (.nx v)) (λv=>(A.set n (sy X.K (oDR D.int v.1))).set m (.q (zB X.K v.2))):=λf hf=>by
 obtain⟨v,h1,h2⟩:=AR hf;cases h2
 refine(lT (h v h1) hg hs hw O).imp λEE σ H ⟨Q,F,S,k⟩=>⟨Q,F,S,λx H1 kp r=>?_⟩
 obtain⟨p,d,y,rfl,r1,T,Y,Z⟩:=r;have v1:=S.grow kp;refine⟨p,_,rfl,.inl (.inl r1),rfl,_,_,rfl,_,_,rfl,rfl,k _ _ _ ((v1.set n (P:=λQ H y=>∃a,y=.ref a/\Q a=none/\OB X.K H a (oDR D.int v.1)) λH' f=>⟨d,rfl,?_,?_⟩).set m λH' f=>?_) kp.fe⟩
 ·cases e0:Q d with
  | none=>rfl
  | some u=>rw[S.kp d u e0]at T;cases T
 ·obtain⟨u,C⟩:=Y.at
  exact f.ob (by rw[C];exact f.fix d _ (.inr ⟨T,u,C⟩) C) Y
 ·obtain⟨a,bs,ob,xs,es,ep,e,n0,nb,O,hd,L,z1,z2,z3,U,kb⟩:=i9 S.kp Z
  obtain⟨a',vJ,ob',uE,es',va,e',n0',sS,J,N,B,_⟩:=Z;rw[e]at e';cases e';rw[O]at J
  injection J with J
  injection J with J _
  subst J;rw[hd]at N;cases N;rw[L]at B;cases Ug B;refine⟨a,bs,ob,xs,es,ep,e,n0,nb,f.frz _ _ _ O,hd,L,z1,z2,z3,U.keeps f.tup,O8 kb λb hb o w=>?_⟩;obtain⟨u,C⟩:=w.at;exact f.ob (by rw[C];exact f.fix b _ (.inr ⟨sS b hb,u,C⟩) C) w
end
open L2
open L4 (Fw AR eT oL Lz Bn Lb)
section
variable{A:List Sl}{α β:Type}
theorem Sd:∀A:List Sl,Ws A A
 | []=>.nil
 | _ :: A=>.same (Sd A)
theorem vc{X:Cx}{w iter:Expr}{B:List Expr}{scope:LV}{pos p:Pos}{y:Str}{N':List Str}{enc:α->D}{eb:β->D}{pl:Option (List α)}{pc:α->Option Bool}{I:α->Option β}(hi:VI X A (.Name y p) iter (rd X.K enc) pl)
  (J:∀x E C m o G pn,VIf (C3 X scope N' E C m o G pn) (sv X.K (enc x) :: A) B (pc x)) (L:∀x E C m o G pn,VE (C3 X scope N' E C m o G pn) (sv X.K (enc x) :: A) w (rV X.K eb) (I x))
  (N:autoParam (Te X scope [y] N'=true) yq14q) (H:autoParam N'.Nodup yq8q) (O:autoParam (N'.Nodup->∀E C m o G pn,PG (C3 X scope N' E C m o G pn) (.Name y p) (IT 0)) yq15q)
  (P:autoParam (X.calm=true) yq0q) (hs:autoParam (∀x,B5 iter X.env x=pure x) yq2q):VE X A (.ListComp w [⟨.Name y p,iter,B,0⟩] scope pos) (rN X.K (oL eb)) (pl.bind λl=>Bn l pc I):=
 Ow (Jm N) hi (O H) LB (λM=>.drop (Sd A)) J L P hs
theorem vd{X:Cx}{w iter:Expr}{B:List Expr}{scope:LV}{pos p I J:Pos}{y z:Str}{i:Nat}{N':List Str}{enc:α->D}{eb:β->D}{pl:Option (List α)}{pc:α->Option Bool}{L:α->Option β}(hi:VI X A (.Name y p) iter (rd X.K enc) pl)
  (O:∀x E C m o G pn,VIf (C3 X scope N' E C m o G pn) (sv X.K (enc x) :: A) B (pc x)) (P:∀x E C m o G pn,VE (C3 X scope N' E C m o G pn) (sv X.K (enc x) :: A) w (rV X.K eb) (L x))
  (Q:autoParam (Te X scope [y] N'=true) yq14q) (H:autoParam N'.Nodup yq8q) (R:autoParam (N'.Nodup->∀E C m o G pn,PG (C3 X scope N' E C m o G pn) (.Name y p) (IT 0)) yq15q)
  (S:autoParam (X.calm=true) yq0q) (hs:autoParam (∀x,B5 iter X.env x=pure x) yq2q) (T:autoParam X.N.Nodup yq6q) (U:autoParam (X.N[i]?=some z) yq0q) (Y:autoParam (Loc X.env.scope z) yq4q) (Z:autoParam (Bb (.ListComp w [⟨.Name y p,iter,B,0⟩] scope pos) (some (.Name z I)) J.line X.env=pure true) yq0q) (hf:autoParam (X.fn z=true∨X.env.scope.names.lookup z=some .local) yq3q):VEA X A i (.Assign [.Name z I] (.ListComp w [⟨.Name y p,iter,B,0⟩] scope pos) J) (rN X.K (oL eb)) (pl.bind λl=>Bn l pc L):=
 XS (Jm Q) hi (R H) LB (λM=>.drop (Sd A)) O P S hs T U Y Z hf
end
open L2
open L4 (Fw AU BZ Bv BW AR eT eP eU oL HW EqN)
section
variable{X:Cx}{A:List Sl}{tg:Expr}{p pos:Pos}{α ρ:Type}{l:List BK}
variable{c:Expr}
theorem fF{iter:Expr}{m:List B6}{Pd:α->Hp->V->Prop}{g:TG}{t:α->List Sl->List Sl}{R:Rk ρ}{q:Option (List α)}{r:α->Option (Fw ρ Unit)}(hi:VI X A tg iter Pd q)(o:PG X tg g)(w:VT g Pd t)(hb:∀x,VSs X (t x A) m R (r x) λG=>A)
  (B:autoParam (X.xe=λG G=>False) yq0q) (C:autoParam (X.calm=true) yq0q) (hs:autoParam (∀x,B5 iter X.env x=pure x) yq2q):VS X A (.For tg iter m [] pos) R (q.bind λl=>BZ l () λG x=>r x) (λG=>A):=Hk hi o w Wk.refl (λG x=>hb x) B C hs
theorem Gj{m o:List B6}{R:Rk ρ}{pt:Option Bool}{p q:Option (Fw ρ Unit)}(w:VB X A c pt)(B:VSs X A m R p λG=>A)(hb:VSs X A o R q λG=>A):VS X A (.If c m o pos) R (pt.bind λc=>if c=true then p else q) λG=>A:=Ln w B hb
end
open L2
open L4 (Fw AU BZ Bv BW AR whF)
section
variable{X:Cx}{A:List Sl}{c tg iter:Expr}{body sa sb:List B6}{pos:Pos}{α ρ τ:Type}{R:Rk ρ}{i j:Nat}{g h:τ->Sl}{Pd:α->Hp->V->Prop}{gt:TG}{t:α->List Sl->List Sl}{ql:Option (List α)}{q:τ->α->Option (Fw ρ τ)}{s0:τ}{pt:Option Bool}{pa pb:Option (Fw ρ τ)}{pc:τ->Option Bool}{qw:τ->Option (Fw ρ τ)}
theorem Sf{s:Sl}(e:A[i]?=some s):Wk A (A.set i s):=by
 obtain⟨l,e⟩:=AJ.mp e;rw[<-e,K8 l];exact Wk.refl
noncomputable abbrev b1(A:List Sl)(i:Nat)(g:τ->Sl)(s:τ):List Sl:=A.set i (g s)
noncomputable abbrev b2(A:List Sl)(i:Nat)(g:τ->Sl)(j:Nat)(h:τ->Sl)(s:τ):List Sl:=(A.set i (g s)).set j (h s)
theorem jA(l:autoParam (i≠j) yq1q)(e:autoParam (A[i]?=some (g s0)) yq0q)(f:autoParam (A[j]?=some (h s0)) yq0q):Wk A (b2 A i g j h s0):=(Sf e).trans (Sf (by rw[Cr l];exact f))
theorem C5(i:Nat)(g:τ->Sl)(hi:VI X A tg iter Pd ql)(m:PG X tg gt)(o:VT gt Pd t)(hb:∀s x,VSs X (t x (b1 A i g s)) body R (q s x) (b1 A i g))(e:autoParam (A[i]?=some (g s0)) yq0q)(w:autoParam (X.xe=λG G=>False) yq0q)(B:autoParam (X.calm=true) yq0q)(hs:autoParam (∀x,B5 iter X.env x=pure x) yq2q) :
  VS X A (.For tg iter body [] pos) R (ql.bind λl=>BZ l s0 q) (b1 A i g):=Hk hi m o (Sf e) hb w B hs
theorem fG(i:Nat)(g:τ->Sl)(j:Nat)(h:τ->Sl)(hi:VI X A tg iter Pd ql)(m:PG X tg gt)(o:VT gt Pd t)(hb:∀s x,VSs X (t x (b2 A i g j h s)) body R (q s x) (b2 A i g j h))(w:autoParam (Wk A (b2 A i g j h s0)) yq16q)(B:autoParam (X.xe=λG G=>False) yq0q)(C:autoParam (X.calm=true) yq0q)(hs:autoParam (∀x,B5 iter X.env x=pure x) yq2q) :
  VS X A (.For tg iter body [] pos) R (ql.bind λl=>BZ l s0 q) (b2 A i g j h):=Hk hi m o w hb B C hs
theorem L5(i:Nat)(g:τ->Sl)(l:VB X A c pt)(m:VSs X A sa R pa (b1 A i g))(hb:VSs X A sb R pb (b1 A i g)):VS X A (.If c sa sb pos) R (pt.bind λc=>if c=true then pa else pb) (b1 A i g):=Ln l m hb
theorem YW(i:Nat)(g:τ->Sl)(j:Nat)(h:τ->Sl)(n:Nat)(l:∀s,VB X (b2 A i g j h s) c (pc s))(hb:∀s,VSs X (b2 A i g j h s) body R (qw s) (b2 A i g j h))(w:autoParam (Wk A (b2 A i g j h s0)) yq16q)(m:autoParam (X.xe=λG G=>False) yq0q):VS X A (.While c body [] pos) R (whF pc qw n s0) (b2 A i g j h):=PZ n w l hb m
end
end L7
namespace L2
open PySem.W
abbrev FnAt(K:Frag)(x l:Str)(st:B6)(f:AL):Prop:=∃(w:AD) (A:Option AL) (kV m B:AD) (C:Option AL) (o ct:AD) (E:Array (Option AD)),
 K.lookup f=some ⟨w,A,.func (fnOf x l (Jl st) (FB st) (Bw st) .none kV m B C o ct),E⟩/\codeIn K o l=true/\keepIn K (.ref f)=true
abbrev Dh(K:Frag)(x:Str)(st:B6)(f:AL):Prop:=MV K A9 x=some (some (.ref f))/\FnAt K x x st f
abbrev L0(K:Frag)(C:AL)(x l:Str)(st:B6)(f:AL):Prop:=findIn K (.ref C) x=some (some (.ref f))/\isFn K (.ref f)=true/\FnAt K x l st f
abbrev ClsAt(K:Frag)(x:Str)(C:AL):Prop:=MV K A9 x=some (some (.ref C))/\plainGet K C Str.empty=true/\hasDictIn K C=true/\plainOver K C=true/\findIn K (.ref C) "__setattr__" = some (some (.builtin "object.__setattr__"))/\makesIn K C=true/\keepIn K (.ref C)=true
def Wy(st:B6)(w:List Str):Prop:=∀(x l:Str) (kV m A:AD) (B:Option AL) (C ct:AD) (o:List AD),o.length=w.length->du (fnOf x l (Jl st) (FB st) (Bw st) .none kV m A B C ct) ⟨o,[]⟩=pure (w.zip o)
section
variable{K:Frag}{h:BI}{mg:Str->Option AD}{x qual:Str}{st:B6}{f C:AL}{ps:List Str}{a b c d e:Str}
theorem FnAt.fd(z:FnAt K x qual st f):∃fd,Fun K x qual st f fd:=by
 obtain⟨o,w,kV,m,A,B,E,ct,G,l,c,k⟩:=z;exact⟨_,ci l c k⟩
def mkD(X:K.In h)(G:h.Ns A9 mg)(z:Dh K x st f)(b:Wy st ps):Dfn K mg x x st ps:=⟨f,(FnAt.fd z.2).choose,(FnAt.fd z.2).choose_spec,(FnAt.fd z.2).choose_spec.binds (b x x),nV X G z.1⟩
def mkM(z:L0 K C x qual st f)(b:Wy st ps):Mtd K x qual st ps:=⟨f,(FnAt.fd z.2.2).choose,(FnAt.fd z.2.2).choose_spec,(FnAt.fd z.2.2).choose_spec.binds (b x qual)⟩
theorem FnAt.kp(z:FnAt K x qual st f):keepIn K (.ref f)=true:=by
 obtain⟨o,w,kV,m,A,B,E,ct,G,l,c,k⟩:=z;exact k
theorem mkE(z:L0 K C x qual st f):Tp K C x f:=⟨z.1,z.2.1,FnAt.kp z.2.2⟩
theorem mkO(X:K.In h)(G:h.Ns A9 mg)(z:ClsAt K y C)(i:L0 K C "__init__" qual st f):Own K mg y C f:=⟨⟨z.2.1,z.2.2.1,z.2.2.2.1,z.2.2.2.2.1⟩,⟨z.2.2.2.2.2.1,i.1,i.2.1,z.2.2.2.2.2.2⟩,nV X G z.1⟩
abbrev bnd(st:B6)(ps:List Str)(us:List AD):Prop:=∀(x qual:Str) (kV l m:AD) (o:Option AL) (w ct:AD),du (fnOf x qual (Jl st) (FB st) (Bw st) .none kV l m o w ct) ⟨us,[]⟩=pure (ps.zip us)
theorem bd1(z:∀u,bnd st [a] [u]:=by exact λG G G G G G G G G=>rfl):Wy st [a]:=λx q k d p n c t m l=>by obtain⟨u,rfl⟩:=mI l;exact z u x q k d p n c t
theorem bd2(z:∀u v,bnd st [a,b] [u,v]:=by exact λG G G G G G G G G G=>rfl):Wy st [a,b]:=λx q k d p n c t m l=>by obtain⟨u,v,rfl⟩:=qQ l;exact z u v x q k d p n c t
theorem bd3(z:∀u v w,bnd st [a,b,c] [u,v,w]:=by exact λG G G G G G G G G G G=>rfl):Wy st [a,b,c]:=λx q k d p n c t m l=>by obtain⟨u,v,w,rfl⟩:=qP l;exact z u v w x q k d p n c t
theorem bd4(z:∀u v w y,bnd st [a,b,c,d] [u,v,w,y]:=by exact λG G G G G G G G G G G G=>rfl):Wy st [a,b,c,d]:=λx q k d p n c t m l=>by obtain⟨u,v,w,y,rfl⟩:=qO l;exact z u v w y x q k d p n c t
theorem bd5(z:∀u v w y l,bnd st [a,b,c,d,e] [u,v,w,y,l]:=by exact λG G G G G G G G G G G G G=>rfl):Wy st [a,b,c,d,e]:=λx q k d p n c t o m=>by obtain⟨u,v,w,y,l,rfl⟩:=len5 m;exact z u v w y l x q k d p n c t
end
end L2
namespace PySem.W.Fast
def tw8416055606096432689:Nat:=0
def tw3019063877774545049:Nat:=0
def tw10353898633351317642:Nat:=0
def tw15644597639710196117:Nat:=0
def tw2237139892349379604:Nat:=0
def tw3499862967618377940:Nat:=0
def tw1388572331939071564:Nat:=0
def tw5677798670919929970:Nat:=0
def tw12247541153957340028:Nat:=0
def tw17755095807163320463:Nat:=0
def tw17651008627620337791:Nat:=0
def tw5266903100692023247:Nat:=0
def tw15415468305629907480:Nat:=0
def tw16400763716031833028:Nat:=0
def tw1176944090931365641:Nat:=0
def tw7850813178198933835:Nat:=0
def tw3777225482128715901:Nat:=0
def tw7073529349987612490:Nat:=0
def tw508624240618530443:Nat:=0
def tw10150312005908123375:Nat:=0
def tw11716562780354485832:Nat:=0
def tw2326204563830656208:Nat:=0
def tw14726884215876753180:Nat:=0
def tw5513951157928740837:Nat:=0
def tw11012412015993276514:Nat:=0
def tw1991387901540495844:Nat:=0
def tw7695772737670365520:Nat:=0
def tw6342940811698799411:Nat:=0
def tw18116849087465873094:Nat:=0
def tw4653083620293452163:Nat:=0
def tw17183618943933987068:Nat:=0
def tw9338375909783367909:Nat:=0
def tw4937539046944552948:Nat:=0
def tw7302301430027143867:Nat:=0
def tw11657124564637943457:Nat:=0
def tw5041935755040499475:Nat:=0
def tw2490229852520658218:Nat:=0
def tw15603255424303930480:Nat:=0
def tw15748208588362172672:Nat:=0
def tw3204099809363560520:Nat:=0
def tw5990311007697091821:Nat:=0
def tw3527264119273554738:Nat:=0
def tw3890374054099793937:Nat:=0
def tw9589936523718068038:Nat:=0
def tw952950018246681172:Nat:=0
def tw969667641553342482:Nat:=0
def tw11927892582389208688:Nat:=0
def tw9894555774999392859:Nat:=0
def tw2217580529867982628:Nat:=0
def tw3510733838505276768:Nat:=0
def tw3361261106440683669:Nat:=0
def tw17586470146874567661:Nat:=0
def tw9054213301471845641:Nat:=0
def tw16601997128785052341:Nat:=0
def tw7545739547902337699:Nat:=0
def tw3998134136754338783:Nat:=0
def tw8360116630425172982:Nat:=0
def tw13529489375487528493:Nat:=0
def tw9657183564739295697:Nat:=0
def tw4609776777852646531:Nat:=0
def tw17438273847668821473:Nat:=0
def tw2698820469703341665:Nat:=0
def tw16349580222011391014:Nat:=0
def tw6966919992245137148:Nat:=0
def tw6703729240274088874:Nat:=0
def tw11587483585192039868:Nat:=0
def tw6421764865984860719:Nat:=0
def tw6287650506533214706:Nat:=0
def tw12083679644222009700:Nat:=0
def tw7509457938929471141:Nat:=0
def tw2909855447172900532:Nat:=0
def tw11899584131666115055:Nat:=0
def tw5340235524402822871:Nat:=0
def tw5183012577440835673:Nat:=0
def tw13396301472305214577:Nat:=0
def tw5683605977958399518:Nat:=0
def tw6833226689791113476:Nat:=0
def tw50969008071884246:Nat:=0
def tw3845741848667374533:Nat:=0
def tw1061002122345980037:Nat:=0
def tw9610648317056852349:Nat:=0
def tw16122530125378146542:Nat:=0
def tw11649939850505515561:Nat:=0
def tw17273435971361710965:Nat:=0
def tw6742065338719457186:Nat:=0
def tw2689010462998353206:Nat:=0
def tw9531512581017052676:Nat:=0
def tw4597458422007155837:Nat:=0
def tw14823101331413504135:Nat:=0
def tw8419303363812603253:Nat:=0
def tw355148912012118189:Nat:=0
def tw8521111116502129583:Nat:=0
def tw7138612711412994333:Nat:=0
def tw16395927794234905732:Nat:=0
def tw11691697465355115257:Nat:=0
def tw1435157136440674715:Nat:=0
def tw15672308569776909197:Nat:=0
def tw12585013824679969405:Nat:=0
def tw13571550805969747191:Nat:=0
def tw7915985727276205919:Nat:=0
def tw16837717208214692132:Nat:=0
def tw1686411750212072741:Nat:=0
def tw14996167539144005744:Nat:=0
def tw7488059493400238381:Nat:=0
def tw5722052859784461298:Nat:=0
def tw632033574172876029:Nat:=0
def tw12716633531640198014:Nat:=0
def tw10822025979978490799:Nat:=0
def tw8955285341606673963:Nat:=0
def tw7335891794494296866:Nat:=0
def tw18257624126434652511:Nat:=0
def tw18035623287061320821:Nat:=0
def tw3213560357199461812:Nat:=0
def tw10863429230537967230:Nat:=0
def tw7858616400051845193:Nat:=0
def tw7409116158271791959:Nat:=0
def tw3777258543969302411:Nat:=0
def tw16164640353277612101:Nat:=0
def tw15420806160908233573:Nat:=0
def tw7851513787836734756:Nat:=0
end PySem.W.Fast
namespace M
local macro_rules|`(∅)=>`(by first|exact L7.Ws.wk (by repeat (first|exact L7.Ws.nil|apply L7.Ws.same|apply L7.Ws.drop))|lia|omega|decide|decide +kernel|(simp;done)|simp_all)
open L2
noncomputable def top(i:Nat):B6:=jq.main.body.getD i (.Pass ⟨0,0,0,0⟩)
structure Wd where
 Web:AL
 Field:AL
abbrev Kg:B6:=top 11
abbrev Ke:B6:=top 12
abbrev Py:B6:=Jk (top 10) 0
abbrev IN:B6:=top 13
abbrev bA:B6:=top 14
abbrev Pw:B6:=top 16
abbrev Rs:B6:=top 17
abbrev Rp:B6:=top 18
abbrev Kd:B6:=top 19
abbrev bC:B6:=top 20
abbrev OD:B6:=top 22
abbrev Ro:B6:=top 24
abbrev JF:B6:=top 27
abbrev Px:B6:=top 28
abbrev OE:B6:=top 29
abbrev GY:B6:=Jk (top 31) 3
abbrev GZ:B6:=Jk (top 31) 4
abbrev Mv:B6:=Jk (top 31) 0
abbrev Lx:B6:=Jk (top 31) 1
abbrev Ev:B6:=Jk (top 31) 2
abbrev Kj:B6:=Jk (top 31) 5
abbrev Ls:B6:=top 33
abbrev Uc:B6:=top 32
abbrev Kf:B6:=top 34
abbrev Rq:B6:=top 35
abbrev Kh:B6:=top 37
abbrev Mu:B6:=top 38
abbrev IP:B6:=top 39
abbrev OF:B6:=top 40
abbrev Lu:B6:=top 41
abbrev OH:B6:=top 42
abbrev OG:B6:=top 43
abbrev Jw:B6:=top 44
abbrev Ki:B6:=top 45
abbrev Lw:B6:=top 46
abbrev Lv:B6:=top 47
abbrev bB:B6:=top 48
structure Txt(K:AB)(mg:Str->Option AD)(W:Wd) where
 KK:Dfn K mg "checked_ties" "checked_ties" Kg ["places", "ties"]
 LE:Dfn K mg "near_sets_of" "near_sets_of" Ke ["places", "ties"]
 wE:Mtd K "__init__" "Web.__init__" Py ["self", "places", "ties"]
 LT:Dfn K mg "refuse_no_place" "refuse_no_place" IN ["web", "place"]
 ST:Dfn K mg "near" "near" bA ["web", "place"]
 Tm:Dfn K mg "takes_of" "takes_of" Pw ["web"]
 Ty:Dfn K mg "bits_of" "bits_of" Rs ["some"]
 wP:Dfn K mg "members" "members" Rp ["bits"]
 em:Dfn K mg "settle" "settle" Kd ["takes", "bits", "holders", "guard", "seen"]
 wl:Dfn K mg "fits" "fits" bC ["takes", "guards", "bits"]
 XL:Dfn K mg "with_step" "with_step" OD ["standing", "guard", "place"]
 aaa:Dfn K mg "sets_of" "sets_of" Ro ["places", "size"]
 aab:Dfn K mg "ways_to_choose" "ways_to_choose" JF ["places", "size"]
 aac:Dfn K mg "how_many" "how_many" Px ["web", "guards"]
 aad:Dfn K mg "standings" "standings" OE ["web", "guards"]
 wS:Mtd K "linked_by_one" "Field.linked_by_one" GY ["self", "number"]
 wT:Mtd K "linked_by_all" "Field.linked_by_all" GZ ["self", "number"]
 u8:Mtd K "__init__" "Field.__init__" Mv ["self", "web", "guards", "kind"]
 xz:Mtd K "calls" "Field.calls" Lx ["self", "number"]
 mt:Mtd K "linked" "Field.linked" Ev ["self", "number"]
 xL:Mtd K "behind" "Field.behind" Kj ["self", "number", "call"]
 BT:Dfn K mg "falling_now" "falling_now" Ls ["field", "left"]
 aae:Dfn K mg "fallen" "fallen" Uc ["field"]
 aaf:Dfn K mg "lasting_bits" "lasting_bits" Kf ["field", "gone"]
 Cl:Dfn K mg "lasting" "lasting" Rq ["web", "guards", "kind"]
 tt:Dfn K mg "_law_cell_at" "_law_cell_at" Kh ["script", "k"]
 Dd:Dfn K mg "_law_pairs" "_law_pairs" Mu ["places"]
 aag:Dfn K mg "_law_first_ties" "_law_first_ties" IP ["places", "style"]
 aah:Dfn K mg "_law_ties" "_law_ties" OF ["script", "first", "places"]
 aai:Dfn K mg "_law_handed" "_law_handed" Lu ["script", "ties"]
 EE:Dfn K mg "_law_near" "_law_near" OH ["ties", "place"]
 aaj:Dfn K mg "_law_sets" "_law_sets" OG ["places", "guards"]
 aak:Dfn K mg "_law_set_told" "_law_set_told" Jw ["found"]
 aal:Dfn K mg "_law_answers" "_law_answers" Ki ["ties", "standing", "call", "kind"]
 aam:Dfn K mg "_law_behind" "_law_behind" Lw ["ties", "standing", "call", "kind"]
 aan:Dfn K mg "_law_fallen" "_law_fallen" Lv ["ties", "places", "some", "kind"]
 tz:Dfn K mg "law" "law" bB ["script"]
 gg:Own K mg "Web" W.Web wE.f
 mo:Cj K W.Web "places"
 v0:Cj K W.Web "ties"
 wn:Cj K W.Web "near_sets"
 ce:Own K mg "Field" W.Field u8.f
 ld:Cj K W.Field "everything"
 wv:Cj K W.Field "kind"
 t0:Cj K W.Field "takes"
 v9:Cj K W.Field "numbers"
 wf:Cj K W.Field "having"
 ww:Cj K W.Field "place_bits"
 ul:Cj K W.Field "known"
 aav:Tp K W.Field "linked_by_one" wS.f
 aaw:Tp K W.Field "linked_by_all" wT.f
 aax:Tp K W.Field "calls" xz.f
 aay:Tp K W.Field "linked" mt.f
 aaz:Tp K W.Field "behind" xL.f
 aap:mg "all" = none
 aaA:mg "any" = none
 aaB:mg "bool" = none
 aat:mg "enumerate" = none
 aaq:mg "int" = none
 aao:mg "isinstance" = none
 ss:mg "len" = none
 aar:mg "list" = none
 aaC:mg "max" = none
 aas:mg "min" = none
 dl:mg "range" = none
 aau:mg "reversed" = none
 aaD:mg "set" = none
 sK:mg "sorted" = none
 aaE:mg "sum" = none
 ut:mg "tuple" = none
 Id:∃tk,mg "MOST_PLACES" = some (.int 60 tk)
 IO:∃tk,mg "MOST_STANDINGS" = some (.int 400 tk)
open L2 L4
noncomputable def pairD(x:Int×Int):D:=.tup [.int x.1,.int x.2]
noncomputable def nrm(x:Int×Int):Int×Int:=(if x.2 < x.1 then x.2 else x.1,if x.2 > x.1 then x.2 else x.1)
noncomputable def Na(x:Int×Int):ZLi:=[x.1,x.2]
def Fit(p:Int)(x:Int×Int):Prop:=(nrm x).1≠(nrm x).2/\0<=(nrm x).1/\(nrm x).2 < p
def FJ(p:Int)(l:List ZPi):Prop:=(∀x∈l,Fit p x)/\(l.map nrm).Nodup
theorem FJ.snoc:FJ p (l++[x])↔FJ p l/\Fit p x/\nrm x∉l.map nrm:=by
 unfold FJ;rw[Be,Iy]
 constructor
 ·grind
 ·rintro⟨⟨o,m⟩,w,A⟩
  refine⟨λy B=>?_,m,by simp,λa C b hb e=>?_⟩
  ·grind
  grind
theorem FJ.take(h:FJ p l)(i:Nat):FJ p (l.take i):=by
 refine⟨λx m=>h.1 x (FE m),?_⟩;rw[Mc];exact h.2.sublist (Zs _ _)
def MA(l:List ZPi):List ZLi:=IM (l.map λx=>Na (nrm x))
def toP(r:ZLi):Int×Int:=(r.getD 0 0,r.getD 1 0)
theorem gC(x:Int×Int):toP (Na x)=x:=rfl
def FH(l:List ZPi):List ZPi:=(MA l).map toP
theorem WA(h:r∈MA l):∃x∈l,r=Na (nrm x):=by
 have:=(Cz _).mem_iff.mp h
 grind
theorem ap(h:t∈FH l):∃x∈l,t=nrm x:=by
 obtain⟨r,m,rfl⟩:=Ax.mp h;obtain⟨x,o,rfl⟩:=WA m;exact⟨x,o,rfl⟩
theorem NY(l:List ZPi):(FH l).Perm (l.map nrm):=by
 unfold FH MA;have:=(Cz (l.map λx=>Na (nrm x))).map toP;refine this.trans ?_;rw[Aw];rfl
theorem mD(x:Int×Int):(nrm x).1<=(nrm x).2:=by
 unfold nrm;symm
 split <;> split <;> ext
def In(p:Nat)(t:Int×Int):Prop:=0<=t.1/\t.1 < p/\0<=t.2/\t.2 < p/\t.1≠t.2
theorem Fit.in{p:Nat}{x:Int×Int}(h:Fit p x):In p (nrm x):=by
 obtain⟨l,m,o⟩:=h;have:=mD x;exact⟨m,by lia,by lia,o,l⟩
noncomputable def DY(ts:List ZPi)(x:Nat):ZLi:=ts.flatMap λt=>(if t.1=(x:Int)then[t.2]else[])++(if t.2=(x:Int)then[t.1]else[])
theorem Uy(ts:List ZPi)(t:Int×Int)(x:Nat):DY (ts++[t]) x=DY ts x++((if t.1=(x:Int)then[t.2]else[])++(if t.2=(x:Int)then[t.1]else[])):=by
 unfold DY;ext
theorem WT(ts:List ZPi)(x:Nat):(DY ts x).length<=2 * ts.length:=by
 unfold DY
 induction ts with
 | nil=>simp
 | cons t ts l=>
  rw[Iz,AS,Am]
  have:((if t.1=(x:Int)then[t.2]else[])++(if t.2=(x:Int)then[t.1]else[])).length<=2:=by split <;> split <;> simp
  lia
def WG(p:Nat)(ts:List ZPi):List D:=(A0 p).map λx=>.tup ((CK (DY ts x)).map D.int)
def Hw(p:Nat)(ts:List ZPi):List ZLi:=(A0 p).map λx=>CK (DY ts x)
theorem Ux(p:Nat)(ts:List ZPi):D.tup (WG p ts)=eT (eT D.int) (Hw p ts):=by
 unfold WG Hw eT;rw[Aw];rfl
def Hu(W:Wd)(w:Nat×List ZPi):Ob:=.ins W.Web [("places",.int w.1),("ties",.tup (w.2.map pairD)),("near_sets",.tup (WG w.1 w.2))]
open Classical in
def YU(x:Int)(l:List ZPi):Option (Nat×List ZPi):=if 1<=x/\x<=60/\FJ x l/\l.length<=90000 then some (x.toNat,FH l)else none
theorem R6(a b c:D):([("places",a),("ties",b),("near_sets",c)]:List (Str×D)).lookup ("places" : Str)=some a:=by
 rfl
theorem qN(a b c:D):([("places",a),("ties",b),("near_sets",c)]:List (Str×D)).lookup ("ties" : Str)=some b:=by
 rfl
theorem qM(a b c:D):([("places",a),("ties",b),("near_sets",c)]:List (Str×D)).lookup ("near_sets" : Str)=some c:=by
 rfl
open L2 L7
open L4 (Fw AU BZ Bv Je BW AR eT eP eF eU oL oDK oDP oDR HW GT D7 Ex Kl CI F9 Ie Oa Kx MD Bn whF B2 C8 FI F8 inG EqN Bu GE FA GF ED Hv Jg oFK)
section
variable{P:Al}{w:A1}{K:AB}{mg:Str->Option AD}{base:BI}{W:Wd}
def Hs(l:ZLi)(m:Int):Option (Fw Int Unit):=
 AU (if (decide (m < (l.length:Int)))=true then(atI l m).bind λo=>some (.rt o)else some (.nx ())) λG=>some (.rt (0:Int))
def Bt(l:ZLi)(m:Int):Option Int:=Bv (Hs l m)
abbrev _root_.Czd(P:Al)(w:A1)(base:BI)(D:Dfn K mg z1 z2 z3 z4)(k:Nat):=CT P w K mg base (CXG P w) k D.f D.fd
theorem Eu(T:Txt K mg W)(l:ZLi)(m:Int):Czd P w base T.tt 1 ["script", "k"] (spV [aV K (eF l),aV K (D.int m)] (rV K D.int) (Bt l m)):=by
 unfold Bt Hs
 exact fnV (N:=["script", "k"]) (B:=λG=>[]) T.tt.F Eg rfl λG G G G G G o A C=>(Ah (Gj (jH (vv 1) (XH T.ss (vv 0))) (Aq (CH (aM (vv 0) (vv 1)) upV)) (Cq Wk.refl)) (λG=>(Aq (CH A4 upV))))
def Mz(B:Int):Option (Fw (List ZPi) Unit):=
 AU (((some []).bind D7).bind λE=>some (.nx E)) λG=>AU (((some B).bind Ex).bind λl=>BZ l G λ(H:(List ZPi)) C=>BW (λI=>I) ((Kl (C+(1:Int)) B).bind λm=>BZ m H λ(J:(List ZPi)) L=>BW (λo=>o) ((HW J (C,L)).bind λA=>some (.nx A)))) λN=>some (.rt N)
def E8(l:Int):Option (List ZPi):=Bv (Mz l)
theorem Mq(T:Txt K mg W)(l:Int):Czd P w base T.Dd 1 ["places"] (spV [aV K (D.int l)] (rN K (oL (eP D.int D.int))) (E8 l)):=by
 unfold E8 Mz
 exact fnV (N:=["places", "found", "one", "other"]) (B:=λG=>[]) T.Dd.F Eg rfl λG G G G G G H I m=>(Ah (D9 1 (FY DQ)) (λo=>(Ah (C5 (s0:=o) 1 (λ(A:(List ZPi))=>sw K ((oL (eP D.int D.int)) A)) (Db T.dl (vv 0)) (pgn 2 m) CJ (λC J=>(Aq (Do (C5 (s0:=C) 1 (λ(E:(List ZPi))=>sw K ((oL (eP D.int D.int)) E)) (JD T.dl (FG (vv 2) A4) (vv 0)) (pgn 3 m) CJ (λL O=>(Aq (Do (NU (pv 1) (HV (vv 2) (vv 3))) (λG=>∅))))) (λQ=>∅))))) (λR=>(Aq (LA (pv 1)))))))
def IQ(l:Int)(m:Int):Option (Fw (List ZPi) Unit):=
 AU (if (decide (m=(1:Int)))=true then(((some (l - (1:Int))).bind Ex).bind λE=>Bn E (λo=>some true) (λo=>some (o,(o+(1:Int))))).bind λG=>some (.rt G)else some (.nx ())) λM=>AU (if (decide (m=(2:Int)))=true then((((some (l - (1:Int))).bind Ex).bind λA=>Bn A (λB=>some true) (λB=>some (B,(B+(1:Int))))).bind λH=>((some (((0:Int),(l - (1:Int))) :: [])).bind D7).bind λI=>GT H I).bind λJ=>some (.rt J)else some (.nx ())) λM=>AU (if (decide (m=(3:Int)))=true then(E8 l).bind λL=>some (.rt L)else some (.nx ())) λM=>AU (if (decide (m=(4:Int)))=true then((Kl (1:Int) l).bind λN=>Bn N (λC=>some true) (λC=>some ((0:Int),C))).bind λO=>some (.rt O)else some (.nx ())) λM=>((some []).bind D7).bind λQ=>some (.rt Q)
def DO(l:Int)(m:Int):Option (List ZPi):=Bv (IQ l m)
theorem Mr(T:Txt K mg W)(o:Int)(A:Int):Czd P w base T.aag 2 ["places", "style"] (spV [aV K (D.int o),aV K (D.int A)] (rN K (oL (eP D.int D.int))) (DO o A)):=by
 unfold DO IQ
 exact fnV (N:=["places", "style"]) (B:=λG=>[]) T.aag.F Eg rfl λG G G G G G C l I=>(Ah (Gj (Lp Bu ED l (vv 1) A4) (Aq (CH (vc (N':=["k", ".1", ".2"]) (Db T.dl (Ib (vv 0) A4)) (λE G G G G G G=>Du) (λE G G G G G G=>(HV (vv 0) (FG (vv 0) A4)))) upN)) (Cq Wk.refl)) (λG=>(Ah (Gj (Lp Bu ED l (vv 1) A4) (Aq (CH (XQ (EV (vc (N':=["k", ".1", ".2"]) (Db T.dl (Ib (vv 0) A4)) (λG G G G G G G=>Du) (λG G G G G G G=>(HV (vv 0) (FG (vv 0) A4))))) (EV (FY (Ei (HV A4 (Ib (vv 0) A4)) DQ)))) upN)) (Cq Wk.refl)) (λG=>(Ah (Gj (Lp Bu ED l (vv 1) A4) (Aq (CH (Cy (Bj T.Dd (λ(m:Int×Unit)=>Mq T m.1) C (Cc (vv 0) Bs) upN)) upN)) (Cq Wk.refl)) (λG=>(Ah (Gj (Lp Bu ED l (vv 1) A4) (Aq (CH (vc (N':=["k", ".1", ".2"]) (JD T.dl A4 (vv 0)) (λH G G G G G G=>Du) (λH G G G G G G=>(HV A4 (vv 0)))) upN)) (Cq Wk.refl)) (λG=>(Aq (CH (FY DQ) upN))))))))))
def Kn(m:ZLi)(Q:Int)(J:Int):Option (Fw (List ZPi) Unit):=
 AU ((E8 J).bind λR=>some (.nx R)) λo=>AU (some (.nx [])) λS=>AU (((((((Bt m (0:Int)).bind λT=>some (T / 7)).bind λU=>some (U % 6)).bind λX=>some (X,())).bind λY=>some (J,Y)).bind λL=>DO L.1 L.2.1).bind λZ=>BZ Z S λ(sU:(List (ZPi×Bool))) tQ=>BW (λyP=>yP) ((B2 sU tQ true).bind λU'=>some (.nx U'))) λuZ=>AU ((((some (m.length:Int)).bind λN=>some (if (63:Int) < N then(63:Int)else N)).bind λA=>Kl Q A).bind λB=>BZ B uZ λ(C:(List (ZPi×Bool))) tU=>AU ((((atI m tU).bind λE=>MD E (o.length:Int)).bind λwo=>atI o wo).bind λM'=>some (.nx M')) λG=>BW (λH=>H) ((if (!(AT C G).isSome)=true then some true else(AT C G).bind λI=>some (!I)).bind λV'=>(B2 C G V').bind λPf=>some (.nx Pf))) λO=>(Bn o (λl=>if ((AT O l).isSome)=true then AT O l else some false) (λl=>some l)).bind λY'=>some (.rt Y')
def Fd(l:ZLi)(m:Int)(o:Int):Option (List ZPi):=Bv (Kn l m o)
theorem UU(T:Txt K mg W)(A:ZLi)(C:Int)(E:Int):Czd P w base T.aah 3 ["script", "first", "places"] (spV [aV K (eF A),aV K (D.int C),aV K (D.int E)] (rN K (oL (eP D.int D.int))) (Fd A C E)):=by
 unfold Fd Kn
 exact fnV (N:=["script", "first", "places", "pairs", "there", "tie", "k"]) (B:=λM=>[]) T.aah.F Eg rfl λM M M M M M m l G=>(Ah (HS 3 (Cy (Bj T.Dd (λ(J:Int×Unit)=>Mq T J.1) m (Cc (vv 2) Bs) upN))) (λU=>(Ah (D9 4 (IL dkP)) (λL=>(Ah (C5 (s0:=L) 4 (λ(O:(List (ZPi×Bool)))=>sw K ((oDP D.bl) O)) (Pb (Bj T.aag (λH=>Mr T H.1 H.2.1) m (Cc (vv 2) (Cc (Ml rfl (Pc rfl (Cy (Bj T.tt (λ(I:ZLi×Int×Unit)=>Eu T I.1 I.2.1) m (Cc (vv 0) (Cc A4 Bs)) upV)))) Bs)) upN)) (pgn 5 G) CJ (λX Y=>(Aq (Do (FR dkP (hu1 l) (pv 4) (vv 5) KS) (λZ=>∅))))) (λQ=>(Ah (C5 (s0:=Q) 4 (λ(o:(List (ZPi×Bool)))=>sw K ((oDP D.bl) o)) (JD T.dl (vv 1) (Sq T.aas (XH T.ss (vv 0)) A4)) (pgn 6 G) CJ (λvt tU=>(Ah (DW 5 (Hm (Dk (pv 3)) (Vz (aM (vv 0) (vv 6)) (Ov T.ss (Dk (pv 3)))))) (λyQ=>(Aq (Do (FR dkP (hu1 l) (pv 4) (vv 5) (kC (fW dkP (hu1 l) (vv 5) (Ej (pv 4))) (Vy (XG (Mn dkP (hu1 l) (Ej (pv 4)) (vv 5)))))) (λR=>∅))))))) (λW'=>(Aq (CH (vc (N':=["tie", ".1", ".2", ".3", ".4", "there", ".6", ".7"]) (F6 (pv 3)) (λS M M M M M M=>(HU (YY (Sh (aZ dkP (hu1 l) (vv 0) (Ej (pv 5))) (Ot (JV (Mn dkP (hu1 l) (Ej (pv 5)) (vv 0)))))))) (λS M M M M M M=>(vv 0))) upN))))))))))
def Ih(o:ZLi)(m:(List ZPi)):Option (Fw (List ZPi) Unit):=
 AU (((((Bt o (0:Int)).bind λA=>some (A / 42)).bind λB=>some (B % 2)).bind λC=>some (decide (C=(0:Int)))).bind λE=>if E=true then some (.rt m)else some (.nx ())) λI=>(Bn m.reverse (λl=>some true) (λl=>some (l.2,l.1))).bind λG=>some (.rt G)
def FT(l:ZLi)(m:(List ZPi)):Option (List ZPi):=Bv (Ih l m)
theorem RF(T:Txt K mg W)(l:ZLi)(m:(List ZPi)):Czd P w base T.aai 2 ["script", "ties"] (spV [aV K (eF l),aO K ((oL (eP D.int D.int)) m)] (rN K (oL (eP D.int D.int))) (FT l m)):=by
 unfold FT Ih
 exact fnV (N:=["script", "ties"]) (B:=λI=>[]) T.aai.F Eg rfl λI I I I I I A C G=>(Ah (Gj (Lp Bu ED C (Ml rfl (Pc rfl (Cy (Bj T.tt (λ(o:ZLi×Int×Unit)=>Eu T o.1 o.2.1) A (Cc (vv 0) (Cc A4 Bs)) upV)))) A4) (Aq (CH (aL T.aar (C6 (pv 1))) upN)) (Cq Wk.refl)) (λI=>(Aq (CH (vc (N':=["tie", ".1", ".2"]) (aE T.aau (fN (pv 1))) (λE I I I I I I=>Du) (λE I I I I I I=>(HV (Sn (vv 0)) (L9 (vv 0))))) upN))))
def Ko(A:(List ZPi))(m:Int):Option (Fw ZLi Unit):=
 AU (((some []).bind D7).bind λB=>some (.nx B)) λC=>AU (BZ A C λ(o:ZLi) l=>BW (λE=>E) (if (decide (m∈[l.1,l.2]))=true then BW (λG=>G) ((HW o ((l.1+l.2) - m)).bind λH=>some (.nx H))else some (.nx o))) λI=>some (.rt (CK I))
def Fg(l:(List ZPi))(m:Int):Option ZLi:=Bv (Ko l m)
theorem OA(T:Txt K mg W)(l:(List ZPi))(m:Int):Czd P w base T.EE 1 ["ties", "place"] (spV [aO K ((oL (eP D.int D.int)) l),aV K (D.int m)] (rN K (oL D.int)) (Fg l m)):=by
 unfold Fg Ko
 exact fnV (N:=["ties", "place", "found", "tie"]) (B:=λI=>[]) T.EE.F Eg rfl λI I I I I I H o A=>(Ah (D9 2 (FY DQ)) (λC=>(Ah (C5 (s0:=C) 2 (λ(E:ZLi)=>sw K ((oL D.int) E)) (Sk (pv 0)) (pgn 3 A) CJ (λI J=>(Aq (Do (L5 2 (λ(G:ZLi)=>sw K ((oL D.int) G)) (kK Bu o (vv 1) (vv 3)) (Aq (Do (NU (pv 2) (Ib (FG (L9 (vv 3)) (Sn (vv 3))) (vv 1))) (λL=>Wk.refl))) (Cq Wk.refl)) (λO=>∅))))) (λQ=>(Aq (CH (UI T.sK (Ej (pv 2))) upN))))))
def OL(I:Int)(G:Int):Option (Fw (List ZLi) Unit):=
 AU (((((some []).bind D7).bind λJ=>some (J :: [])).bind D7).bind λL=>some (.nx L)) λN=>AU (((some G).bind Ex).bind λl=>BZ l N λ(O:(List ZLi)) Q=>AU (((some []).bind D7).bind λR=>some (.nx R)) λS=>AU (BZ O S λ(T:(List ZLi)) m=>AU (some (.nx (0:Int))) λo=>AU ((((some []).bind D7).bind λU=>some (!decide (m=U))).bind λX=>if X=true then BW (λA=>A) (((atI m (-(1:Int))).bind λY=>some (Y+(1:Int))).bind λZ=>some (.nx Z))else some (.nx o)) λvp=>BW (λB=>B) (((Kl vp (((I - G)+Q)+(1:Int))).bind λC=>Bn C (λH=>some true) (λH=>((some (H :: [])).bind D7).bind λΓ=>GT m Γ)).bind λwu=>(GT T wu).bind λE=>some (.nx E))) λΔ=>BW (λM=>Δ) (some (.nx ()))) λwx=>some (.rt wx)
def Ff(l:Int)(m:Int):Option (List ZLi):=Bv (OL l m)
theorem UV(T:Txt K mg W)(o:Int)(A:Int):Czd P w base T.aaj 1 ["places", "guards"] (spV [aV K (D.int o),aV K (D.int A)] (rN K (oL (eT D.int))) (Ff o A)):=by
 unfold Ff OL
 exact fnV (N:=["places", "guards", "rows", "k", "longer", "row", "least"]) (B:=λI=>[]) T.aaj.F Eg rfl λI I I I I I S E C=>(Ah (HS 2 (FY (Ei (Ia DQ) DQ))) (λG=>(Ah (C5 (s0:=G) 2 (λ(l:(List ZLi))=>sy K ((oL (eT D.int)) l)) (Db T.dl (vv 1)) (pgn 3 C) CJ (λU X=>(Ah (D9 4 (FY DQ)) (λH=>(Ah (C5 (s0:=H) 4 (λ(m:(List ZLi))=>sw K ((oL (eT D.int)) m)) (F6 (pv 2)) (pgn 5 C) CJ (λY Z=>(Ah (DW 6 A4) (λI=>(Ah (L5 6 (λ(J:Int)=>sv K (D.int J)) (jG (FA Bu) Jg E (vv 5) (Ia DQ)) (Aq (Do (DW 6 (FG (Sr (vv 5) (So A4)) A4)) (λL=>Wk.refl))) (Cq Wk.refl)) (λvp=>(Aq (Do (Z9 (pv 4) (vc (N':=["place", ".1", ".2", ".3", ".4", ".5", "row", ".7"]) (JD T.dl (vv 6) (FG (FG (Ib (vv 0) (vv 1)) (vv 3)) A4)) (λO I I I I I I=>Du) (λO I I I I I I=>(LD (vv 6) (Ia (Ei (vv 0) DQ)))))) (λQ=>∅))))))))) (λR=>(Aq (Gi (g:=λI=>R) (Si (JT (i:=4) rfl) (Pa 2 (pv 4))) (λI=>∅))))))))) (λwx=>(Aq (LA (pv 2)))))))
def GB(Q:(List ZPi))(l:ZLi)(m:Int)(U:Str):Option (Fw (List ZLi) Unit):=
 AU (if (decide (U=("one" : Str)))=true then AU ((((some (l.length:Int)).bind Ex).bind λo=>Bn o (λA=>((((atI l A).bind λX=>some (X,())).bind λY=>some (Q,Y)).bind λR=>Fg R.1 R.2.1).bind λZ=>some (decide (m∈Z))) (λA=>some A)).bind λvq=>some (.nx vq)) λv3=>((Bn v3 (λB=>some true) (λB=>(((some (m :: [])).bind D7).bind λΕ=>GT (Od l none (some B)) Ε).bind λΖ=>GT Ζ (Od l (some (B+(1:Int))) none))).bind FI).bind λtU=>some (.rt tU)else some (.nx ())) λM=>AU (((((some []).bind D7).bind λΗ=>some (Η :: [])).bind D7).bind λΓ=>some (.nx Γ)) λΘ=>AU (BZ l Θ λ(C:(List ZLi)) S=>AU ((((some (S :: [])).bind D7).bind λV'=>(Fg Q S).bind λwy=>GT V' wy).bind λvx=>some (.nx vx)) λE=>AU (((some []).bind D7).bind λxh=>some (.nx xh)) λyb=>AU (BZ C yb λ(G:(List ZLi)) T=>BW (λwz=>wz) ((Bn E (λH=>some (!decide (H∈T))) (λH=>((some (H :: [])).bind D7).bind λI=>GT T I)).bind λJ=>(GT G J).bind λL=>some (.nx L))) λΙ=>BW (λM=>Ι) (some (.nx ()))) λyd=>((Bn yd (λN=>some (decide (m∈N))) (λN=>some N)).bind FI).bind λO=>some (.rt O)
def DI(l:(List ZPi))(m:ZLi)(o:Int)(A:Str):Option (List ZLi):=Bv (GB l m o A)
theorem Pn(T:Txt K mg W)(C:(List ZPi))(E:ZLi)(G:Int)(H:Str):Czd P w base T.aal 2 ["ties", "standing", "call", "kind"] (spV [aO K ((oL (eP D.int D.int)) C),aV K ((eT D.int) E),aV K (D.int G),aV K (D.str H)] (rN K (oL (eT D.int))) (DI C E G H)):=by
 unfold DI GB
 exact fnV (N:=["ties", "standing", "call", "kind", "some", "rows", "guard", "steps", "longer", "row"]) (B:=λM=>[]) T.aal.F Eg rfl λM M M M M M I m J=>(Ah (Gj (Lp GE Hv m (vv 3) Sm) (Ah (UF (i:=4) (vd (N':=["k", "ties", "standing", "call", ".4", ".5", ".6", ".7", ".8", ".9", ".10"]) (Db T.dl (fR T.ss (vv 1))) (λO M M M M M M=>(HU (aX Bu m (vv 3) (EV (Bj T.EE (λL=>OA T L.1 L.2.1) I (Cn (C6 (pv 1)) arO (Cc (Sr (vv 2) (vv 0)) Bs)) upN))))) (λO M M M M M M=>(vv 0)))) (λv3=>(Aq (CH (UK T.sK (EV (vc (N':=["k", ".1", "standing", "call", ".4", ".5", ".6", ".7", ".8", ".9", ".10"]) (F6 (pv 4)) (λQ M M M M M M=>Du) (λQ M M M M M M=>(LD (LD (XO (vv 2) XD (XC (vv 0))) (Ia (Ei (vv 3) DQ))) (XO (vv 2) (XC (FG (vv 0) A4)) XD)))))) upN)))) (Cq Wk.refl)) (λM=>(Ah (HS 5 (FY (Ei (Ia DQ) DQ))) (λR=>(Ah (C5 (s0:=R) 5 (λ(o:(List ZLi))=>sy K ((oL (eT D.int)) o)) (Hl (vv 1)) (pgn 6 J) CJ (λS wo=>(Ah (HS 7 (XQ (EV (FY (Ei (vv 6) DQ))) (EV (Cy (Bj T.EE (λ(l:(List ZPi)×Int×Unit)=>OA T l.1 l.2.1) I (Cn (C6 (pv 0)) arO (Cc (vv 6) Bs)) upN))))) (λU=>(Ah (D9 8 (FY DQ)) (λX=>(Ah (C5 (s0:=X) 8 (λ(A:(List ZLi))=>sw K ((oL (eT D.int)) A)) (F6 (pv 5)) (pgn 9 J) CJ (λY wj=>(Aq (Do (Z9 (pv 8) (vc (N':=["place", ".1", ".2", ".3", ".4", ".5", ".6", ".7", ".8", ".9", "row"]) (F6 (pv 7)) (λZ M M M M M M=>(HU (Mo Bu m (vv 0) (vv 10)))) (λZ M M M M M M=>(LD (vv 10) (Ia (Ei (vv 0) DQ)))))) (λwz=>∅))))) (λΙ=>(Aq (Gi (g:=λM=>Ι) (Si (JT (i:=8) rfl) (Pa 5 (pv 8))) (λM=>∅))))))))))) (λyd=>(Aq (CH (UK T.sK (EV (vc (N':=["row", ".1", ".2", "call", ".4", ".5", ".6", ".7", ".8", ".9", ".10"]) (F6 (pv 5)) (λwA M M M M M M=>(HU (fk Bu m (vv 3) (vv 0)))) (λwA M M M M M M=>(vv 0))))) upN))))))))
def Ij(m:(List ZPi))(o:ZLi)(A:Int)(B:Str):Option (Fw (List ZLi) Unit):=
 (((DI m o A B).bind λC=>Bn C (λl=>some true) (λl=>some (CK l))).bind setRO).bind λE=>some (.rt E)
def D3(l:(List ZPi))(m:ZLi)(o:Int)(A:Str):Option (List ZLi):=Bv (Ij l m o A)
theorem RH(T:Txt K mg W)(m:(List ZPi))(o:ZLi)(A:Int)(C:Str):Czd P w base T.aam 3 ["ties", "standing", "call", "kind"] (spV [aO K ((oL (eP D.int D.int)) m),aV K ((eT D.int) o),aV K (D.int A),aV K (D.str C)] (rN K (oL (eT D.int))) (D3 m o A C)):=by
 unfold D3 Ij
 exact fnV (N:=["ties", "standing", "call", "kind"]) (B:=λJ=>[]) T.aam.F Eg rfl λJ J J J J J E G I=>(Aq (CH (UJ G T.sK T.aaD (EV (vc (N':=["row", ".1", ".2", ".3", ".4"]) (Pb (Cy (Bj T.aal (λ(l:(List ZPi)×ZLi×Int×Str×Unit)=>Pn T l.1 l.2.1 l.2.2.1 l.2.2.2.1) E (Cn (C6 (pv 0)) arO (Cc (vv 1) (Cc (vv 2) (Cc (vv 3) Bs)))) upN))) (λH J J J J J J=>Du) (λH J J J J J J=>(Gk T.ut (EV (NV T.sK (vv 0)))))))) upN))
def Hr(A:Int)(B:(List ZPi)):Option (Fw (List ZPi) Unit):=
 AU (some (.nx [])) λC=>AU (BZ B C λ(o:(List (ZPi×Bool))) l=>AU (some (.nx ((if l.2 < l.1 then l.2 else l.1),(if l.2 > l.1 then l.2 else l.1)))) λm=>AU (if (decide (m.1=m.2))=true then none else some (.nx ())) λJ=>AU ((if (decide (m.1 < (0:Int)))=true then some true else some (decide (A<=m.2))).bind λE=>if E=true then none else some (.nx ())) λJ=>AU (if ((AT o m).isSome)=true then none else some (.nx ())) λJ=>BW (λG=>G) ((B2 o m true).bind λH=>some (.nx H))) λI=>some (.rt (F8 (I.map (·.1))))
def E0(l:Int)(m:(List ZPi)):Option (List ZPi):=Bv (Hr l m)
theorem Pm(T:Txt K mg W)(l:Int)(m:(List ZPi)):Czd P w base T.KK 1 ["places", "ties"] (spV [aV K (D.int l),aO K ((oL (eP D.int D.int)) m)] (rV K (eT (eP D.int D.int))) (E0 l m)):=by
 unfold E0 Hr
 exact fnV (N:=["places", "ties", "found", "one", "other", "tie"]) (B:=λM=>[]) T.KK.F Eg rfl λM M M M M M J A G=>(Ah (D9 2 (IL dkP)) (λH=>(Ah (Hk (s0:=H) (B:=(λ(I:(List (ZPi×Bool)))=>[sv K (D.int l),sz K ((oL (eP D.int D.int)) m),sw K ((oDP D.bl) I),.u,.u,.u])) (Sk (pv 1)) (P9 rfl (FS (pgn 3 G) (FS (pgn 4 G) M0))) Ou Wk.refl (λC o=>(Ah (DW 5 (HV (Sq T.aas (vv 3) (vv 4)) (fP T.aaC (vv 3) (vv 4)))) (λE=>(Ah (Ln (B:=(λ(_:Unit)=>[sv K (D.int l),sz K ((oL (eP D.int D.int)) m),sw K ((oDP D.bl) C),sv K (D.int o.1),sv K (D.int o.2),sv K ((eP D.int D.int) E)])) (Lp Bu ED A (L9 (vv 5)) (Sn (vv 5))) L6 (Cq Wk.refl)) (λM=>(Ah (Ln (B:=(λ(_:Unit)=>[sv K (D.int l),sz K ((oL (eP D.int D.int)) m),sw K ((oDP D.bl) C),sv K (D.int o.1),sv K (D.int o.2),sv K ((eP D.int D.int) E)])) (YY (Z3 (jH (L9 (vv 5)) A4) (Z1 (pA (Sn (vv 5)) (vv 0))))) L6 (Cq Wk.refl)) (λM=>(Ah (Ln (B:=(λ(_:Unit)=>[sv K (D.int l),sz K ((oL (eP D.int D.int)) m),sw K ((oDP D.bl) C),sv K (D.int o.1),sv K (D.int o.2),sv K ((eP D.int D.int) E)])) (aZ dkP (hu1 A) (vv 5) (Ej (pv 2))) L6 (Cq Wk.refl)) (λM=>(Aq (Do (FR dkP (hu1 A) (pv 2) (vv 5) KS) (λL=>∅))))))))))))) (λO=>(Aq (CH (Gk T.ut (EV (YX T.sK (Ej (pv 2))))) upV))))))
end
open L2 L7
open L4 (Fw AU BZ Bv Je BW AR eT eP oL oDP Ex CI Bn F8 B2 EqN Bu ED GD)
section
variable{P:Al}{w:A1}{K:AB}{mg:Str->Option AD}{base:BI}{W:Wd}
def EB(p:Int)(ts:List ZPi):Option (Fw (List ZLi) Unit):=
 AU (((Ex p).bind WS).bind λv=>some (.nx v)) λm=>AU (BZ ts m λ(s:List ZLi) x=>AU ((Tn s x.1 x.2).bind λl=>some (.nx l)) λo=>BW (λs=>s) ((Tn o x.2 x.1).bind λl=>some (.nx l))) λs=>(Bn s (λG=>some true) λr=>some (CK r)).bind λr=>some (.rt r)
theorem Pk(T:Txt K mg W)(p:Int)(ts:List ZPi):Czd P w base T.LE 1 ["places", "ties"] (spV [aV K (D.int p),aV K (eT (eP D.int D.int) ts)] (rV K (eT (eT D.int))) (Bv (EB p ts))):=by
 unfold EB
 exact fnV (N:=["places", "ties", "rows", "one", "other"]) (B:=λG=>[]) T.LE.F Eg rfl λG G G G G G o A l=>
  Ah (jB (i:=2) (fq (own:=["place"]) (N':=["place", ".1", ".2", ".3", ".4", ".5"]) (eb:=D.int) (Jm (by kernel_rfl)) (Db T.dl (vv 0)) (λG G G G G G=>pgn 0 (by decide +kernel:(["place", ".1", ".2", ".3", ".4", ".5"]:List Str).Nodup)) LB (λx=>by exact(.drop (.same (.same (.same (.same (.same .nil))))))))) λm=>
  Ah (Hk (s0:=m) (B:=λ(s:List ZLi)=>[sv K (D.int p),sv K (eT (eP D.int D.int) ts),.g (pn K (oL D.int) s),.u,.u]) (Hl (vv 1)) (P9 rfl (FS (pgn 3 l) (FS (pgn 4 l) M0))) Ou Wk.refl λs x=>
   Ah (XA (pv 2) (vv 3) (vv 4)) λC=>Aq <| Gi (g:=λs=>s) (XA (pv 2) (vv 4) (vv 3)) λs=>by exact Ws.wk (.same (.same (.same (.drop (.drop .nil)))))) λs=>
  oj (oY (i:=2) rfl) (Aq (CH (Gk T.ut (EV (Ow (own:=["row"]) (N':=["row", ".1", ".2", ".3", ".4", ".5"]) (Jm (by kernel_rfl)) (oq (pv 2)) (λG G G G G G=>pgn 0 (by decide +kernel:(["row", ".1", ".2", ".3", ".4", ".5"]:List Str).Nodup)) aC (λr=>by exact(.drop (.same (.same (.same (.same (.same .nil))))))) (λr G G G G G G=>Du) (λr G G G G G G=>Gk T.ut (EV (UI T.sK (C6 (pv 0)))))))) upV))
def oW3(W:Wd)(v:Int×List ZPi×List ZLi):Ob:=.ins W.Web [("places",.int v.1),("ties",eT (eP D.int D.int) v.2.1),("near_sets",eT (eT D.int) v.2.2)]
def Xe(p:Int)(l:List ZPi):Option (Fw Unit (Int×List ZPi×List ZLi)):=
 AU (((if (decide ((1:Int)<=p))=true then some (decide (p<=(60:Int)))else some false).bind λx=>some (!x)).bind λx=>if x=true then none else some (.nx ())) λG=>AU (some (.nx p)) λv=>AU ((E0 p l).bind λt=>some (.nx t)) λt=>BW (λn=>(v,t,n)) ((Bv (EB p t)).bind λn=>some (.nx n))
theorem pD(T:Txt K mg W)(p:Int)(l:List ZPi):Czq P w K mg base 2 T.wE.f T.wE.fd ["self", "places", "ties"] (spI K W.Web [aV K (D.int p),aO K (oL (eP D.int D.int) l)] (oW3 W) (OZ (Xe p l))):=by
 unfold Xe
 exact fnI (N:=["self", "places", "ties"]) (R:=rV K L4.eU) (B:=λz v=>[sx K z (oW3 W v),sv K (D.int p),sz K (oL (eP D.int D.int) l)]) T.wE.F Eg rfl (λG G=>rfl) λz G G G G G G m o A=>
  Ah (Ln (B:=λ(_:Unit)=>[sx K z (.ins W.Web []),sv K (D.int p),sz K (oL (eP D.int D.int) l)]) (KU (Pi Ut Ut A4 (vv 1) (UP T.Id.choose_spec))) L6 (Cq Wk.refl)) λG=>
  Ah (Vv (Z:=λa=>a=z) (enc:=D.int) (fs:=[]) T.gg.cl T.mo (pv 0) (vv 1)) λv=>
  Ah (Vv (hl:=Ds rfl) (Z:=λa=>a=z) (fs:=[("places",.int v)]) T.gg.cl T.v0 (pv 0) (Cy (Bj T.KK (λ(z:Int×List ZPi×Unit)=>Pm T z.1 z.2.1) m (Cc (vv 1) (Cn (C6 (pv 2)) arO Bs)) upV))) λt=>
  Aq (Gi (C:=λv=>[sx K z (oW3 W v),sv K (D.int p),sz K (oL (eP D.int D.int) l)]) (Vv (hl:=Ds rfl) (Z:=λa=>a=z) (fs:=[("places",.int v),("ties",eT (eP D.int D.int) t)]) T.gg.cl T.wn (pv 0) (Cy (Bj T.LE (λ(z:Int×List ZPi×Unit)=>Pk T z.1 z.2.1) m (Cc (vv 1) (Cc (JU (ob:=λt=>.ins W.Web [("places",.int v),("ties",eT (eP D.int D.int) t)]) (g:=λt=>t) (ec:=eT (eP D.int D.int)) T.gg.cl T.v0 (Mj (v:=t) (pv 0)) (λt=>⟨_,rfl,rfl⟩)) Bs)) upV))) λn=>Wk.refl)
section
open Classical
theorem YD{p:Nat}{f:Nat->ZLi}{j v:Int}(m:0<=j)(o:j < p)(hl:(f j.toNat).length < 1000000):Tn ((A0 p).map f) j v=some ((A0 p).map λx=>if x=j.toNat then f x++[v]else f x):=by
 have l:j.toNat < p:=by ext
 have e:((A0 p).map f).getD j.toNat []=f j.toNat:=by
  rw[Bz,Ab,EM l];rfl
 unfold Tn;rw[e,qX ⟨m,by rw[AF,DS];exact l,hl⟩]
 congr 1
 apply D5
 grind
theorem mE{p:Nat}{ts:List ZPi}(X:p<=60)(B:∀t∈ts,In p t)(hl:ts.length<=90000):Bv (EB p ts)=some (Hw p ts):=by
 have C:Ex (p:Int)=some (CI 0 p):=by
  unfold Ex;rw[qX ⟨by ext,by lia⟩]
  congr 1
 have E:WS (CI 0 p)=some ((A0 p).map λx=>DY [] x):=by
  unfold WS
  have m:(CI 0 p).length=p:=by unfold CI;simp
  rw[m,qX ∅]
  congr 1
  unfold CI DY;rw[Aw];rfl
 obtain⟨s,G,H⟩:=GD (ρ:=List ZLi) (l:=ts) (s0:=(A0 p).map λx=>DY [] x) (q:=λ(s:List ZLi) x=>AU ((Tn s x.1 x.2).bind λl=>some (.nx l)) λI=>BW (λs=>s) ((Tn I x.2 x.1).bind λl=>some (.nx l)))
  (λpre s=>s=(A0 p).map λx=>DY pre x) rfl (λpre t s J L N=>by
   subst N;obtain⟨O,Q,R,S,Y⟩:=B t J
   have T:pre.length<=90000:=by
    have:=L.length_le;rw[AS]at this;lia
   have o:∀x,(DY pre x).length < 999999:=λx=>IY (WT pre x) ∅
   refine⟨(A0 p).map λx=>DY (pre++[t]) x,?_,rfl⟩;rw[YD O Q (OV (o _) (by ext))];show BW (λs=>s) ((Tn ((A0 p).map λx=>if x=t.1.toNat then DY pre x++[t.2]else DY pre x) t.2 t.1).bind λl=>some (.nx l))=_
   rw[YD R S (by
    have:=o t.2.toNat;split
    ·rw[AS];exact Nat.add_lt_add_right this 1
    ·lia)]
   show some (Fw.nx _)=some (Fw.nx _)
   congr 2
   refine By λx Z=>?_
   rw[Uy]
   have e1:(x=t.1.toNat)↔t.1=(x:Int):=by lia
   have e2:(x=t.2.toNat)↔t.2=(x:Int):=by grind
   grind)
 have U:Bn s (λM=>some true) (λr=>some (CK r))=some (Hw p ts):=by
  rw[H];unfold Bn;rw[qX (by rw[AF,DS];lia)];unfold Hw;generalize A0 p=A
  induction A with
  | nil=>rfl
  | cons r A ih=>rw[Ai];unfold L4.Lz;ext
 unfold EB;rw[C];show Bv (AU ((WS (CI 0 p)).bind λv=>some (.nx v)) _)=_;rw[E];show Bv (AU (BZ ts _ _) _)=_;rw[G];show Bv ((Bn s _ _).bind λr=>some (.rt r))=_;rw[U];rfl
end
end
open L2 L7
open L4 (Fw AU BZ Bv Je BW AR eT eP oL oDP Ex CI Bn F8 B2 EqN Bu ED GD kX)
theorem iD(l:List ZPi)(x:Int×Int):(AT (l.map λy=>(nrm y,true)) (nrm x)).isSome=decide (nrm x∈l.map nrm):=by
 unfold AT
 grind
theorem iC(l:List ZPi)(x:Int×Int)(h:nrm x∉l.map nrm):Cm (l.map λy=>(nrm y,true)) (nrm x) true=(l++[x]).map λy=>(nrm y,true):=by
 unfold Cm
 ext
theorem ZN{p:Int}{o:List ZPi}(hl:o.length<=90000)(I:FJ p o):E0 p o=some (FH o):=by
 unfold E0 Hr
 obtain⟨s,J,L⟩:=GD (ρ:=List ZPi) (l:=o) (s0:=([]:List (ZPi×Bool))) (q:=λ(E:List (ZPi×Bool)) m=>AU (some (.nx ((if m.2 < m.1 then m.2 else m.1),(if m.2 > m.1 then m.2 else m.1)))) λw=>AU (if (decide (w.1=w.2))=true then none else some (.nx ())) λM=>AU ((if (decide (w.1 < (0:Int)))=true then some true else some (decide (p<=w.2))).bind λC=>if C=true then none else some (.nx ())) λM=>AU (if ((AT E w).isSome)=true then none else some (.nx ())) λM=>BW (λA=>A) ((B2 E w true).bind λB=>some (.nx B)))
  (λpre s=>s=pre.map λy=>(nrm y,true)) rfl (λpre t s S N O=>by
   subst O;obtain⟨r,G⟩:=N
   have P:FJ p (pre++[t]):=by
    have:=I.take (pre++[t]).length;rwa [<-G,List.take_left]at this
   obtain⟨_,⟨Q,T,U⟩,H⟩:=FJ.snoc.mp P;refine⟨(pre++[t]).map λy=>(nrm y,true),?_,rfl⟩;show AU (if (decide ((nrm t).1=(nrm t).2))=true then none else some (.nx ())) (λM=>AU ((if (decide ((nrm t).1 < (0:Int)))=true then some true else some (decide (p<=(nrm t).2))).bind λC=>if C=true then none else some (.nx ())) λM=>AU (if ((AT (pre.map λy=>(nrm y,true)) (nrm t)).isSome)=true then none else some (.nx ())) λM=>BW (λA=>A) ((B2 (pre.map λy=>(nrm y,true)) (nrm t) true).bind λB=>some (.nx B)))=_;rw[wY Q,wY (by simp_all:¬(nrm t).1 < 0),wY (by simp_all:¬p<=(nrm t).2),iD,wY H];show BW (λA=>A) ((B2 (pre.map λy=>(nrm y,true)) (nrm t) true).bind λB=>some (.nx B))=_
   have R:(pre.map λy=>(nrm y,true)).length < 1000000:=by
    have:=congrArg Dg G;rw[AS,AS]at this;rw[AF];lia
   unfold B2;rw[qX R,iC _ _ H]
   rfl)
 show Bv (AU (BZ o [] _) _)=_;rw[J];show some (F8 (s.map (·.1)))=_;rw[L,Aw]
 congr 1
 unfold F8 FH MA;rw[Aw];rfl
set_option tactic.hygienic true in
theorem oZ{x:Int}{l:List ZPi}{v:Nat×List ZPi}(h:YU x l=some v):OZ (Xe x l)=some ((v.1:Int),v.2,Hw v.1 v.2):=by
 unfold YU at h;split at h
 ·rename_i A
  cases h;obtain⟨B,C,m,w⟩:=A;have o:((x.toNat:Nat):Int)=x:=BG ∅;unfold Xe;rw[wX B,wX C,ZN w m];show OZ (BW (λn=>(x,FH l,n)) ((Bv (EB x (FH l))).bind λn=>some (.nx n)))=_
  have:=mE (p:=x.toNat) (ts:=FH l) (by ext) (λt E=>by
   obtain⟨y,G,rfl⟩:=ap E;rw[<-o]at m
   exact(m.1 y G).in) (by rw[(NY l).length_eq,AF];exact w)
  rw[o]at this;rw[this];show some _=some _;rw[o]
 ·cases h
section
variable{P:Al}{w:A1}{K:AB}{mg:Str->Option AD}{base:BI}{W:Wd}{X:Cx}{A:List Sl}{a b:Expr}{pc pos:Pos}{k':Nat}
theorem qJ(v:Nat×List ZPi):oW3 W ((v.1:Int),v.2,Hw v.1 v.2)=Hu W v:=by
 unfold oW3 Hu;symm;rw[<-Ux];rfl
theorem kA(T:Txt X.K X.mg W){pa:Option Int}{pl:Option (List ZPi)}(C:FC (k'+1) X.A)(E:VE X A a (zIq X) pa)(hb:VE X A b (rO X.K (oL (eP D.int D.int))) pl)(G:autoParam (2<=k') yq1q)(I:autoParam (X.xe=λM M=>False) yq0q)(J:autoParam (Gl X "Web") yq0q) (B:autoParam (AH [a,b] X.env=(false,A6 a X.env) :: AH [b] X.env) yq0q) (L:autoParam (AH [b] X.env=(false,A6 b X.env) :: AH [] X.env) yq0q) (N:autoParam ((Cu pos (AH [b] X.env)).any (·.1)=false) yq0q) :
  VE X A (.Call (.Name "Web" pc) [a,b] [] pos) (rN X.K (Hu W)) (pa.bind λx=>pl.bind λl=>YU x l):=by
 have h:=fQ (X:=X) (A:=A) (pos:=pos) (pc:=pc) (x:="Web") (k':=k') (ob:=oW3 W) T.gg.mk' (λ(z:Int×List ZPi×Unit)=>pD (P:=X.prog) (w:=X.w) (base:=X.base) T z.1 z.2.1) T.wE.b T.gg.m C (Cc E (Cn hb arO Bs L) B) G I J (by rfl) B N
 refine Ss h λv o=>?_
 obtain⟨x,O,o⟩:=AR o;obtain⟨l,Q,R⟩:=AR o;refine⟨_,by rw[O,Q];exact oZ R,λH y S z=>?_⟩;unfold rN at z ⊢;rwa [qJ]at z
end
open L2 L7
open L4 (Fw AU BZ Bv Je BW AR eT eP oL oDK Bn B2 Ie)
abbrev HQ:=List ZPi×List (Int×Bool)
def spS(K:AB)(m:List ZLi)(bits:Int)(o:List ZPi)(g:Int)(w:List (Int×Bool))(z:Option (Bool×HQ)):Sp:=λvs H Q E=>∃t h s r,vs=[t,.int bits,.ref h,.int g,.ref s]/\z=some r/\h≠s/\OB K H h (oDK D.int o)/\OB K H s (oDK D.bl w)/\(∀l,Kp (Qg H h s) l->∃a,t=.ref a/\OB K l a (oL (eT D.int) m))/\∀l,Kp (Qg H h s) l->OB K l h (oDK D.int r.2.1)->OB K l s (oDK D.bl r.2.2)->Q (.bl r.1) l
def RS(K:AB)(h s:AL):Rk (Bool×HQ):=λz G x l=>x=.bl z.1/\OB K l h (oDK D.int z.2.1)/\OB K l s (oDK D.bl z.2.2)
section
variable{X:Cx}{A:List Sl}{e0 e1 e2 e3 e4:Expr}{pc pos:Pos}{W:Wd}{k k':Nat}{tk:List ZLi}{bits:Int}{Hc:List ZPi}{Qc:List (Int×Bool)}{st:List ZPi->Int->List (Int×Bool)->Option (Bool×HQ)}{i0 i1 i2 i4:Nat}{Z2 Z4:AL->Prop}{p3:Option Int}
theorem V1(T:Txt X.K X.mg W)(F:∀H g Q,CT X.prog X.w X.K X.mg X.base (CXG X.prog X.w) k T.em.f T.em.fd ["takes", "bits", "holders", "guard", "seen"] (spS X.K tk bits H g Q (st H g Q))) (hr:FC k' X.A) (hk:k<=k')
  (h0:PE X e0 (DX i0)) (h1:PE X e1 (DX i1)) (h2:PE X e2 (DX i2)) (h3:VE X A e3 (zIq X) p3) (h4:PE X e4 (DX i4)) (sf:i2≠i4)
  (a0:autoParam (A[i0]?=some (sz X.K (oL (eT D.int) tk))) yq0q) (a1:autoParam (A[i1]?=some (sv X.K (D.int bits))) yq0q) (a2:autoParam (A[i2]?=some (.g (pa X.K Z2 (oDK D.int Hc)))) yq0q) (a4:autoParam (A[i4]?=some (.g (pa X.K Z4 (oDK D.bl Qc)))) yq0q)
  (hx:autoParam (X.xe=λM M=>False) yq0q) (hg:autoParam (Gl X "settle") yq0q) (s0:autoParam (AH [e0,e1,e2,e3,e4] X.env=(false,A6 e0 X.env) :: AH [e1,e2,e3,e4] X.env) yq0q) (s1:autoParam (AH [e1,e2,e3,e4] X.env=(false,A6 e1 X.env) :: AH [e2,e3,e4] X.env) yq0q) (s2:autoParam (AH [e2,e3,e4] X.env=(false,A6 e2 X.env) :: AH [e3,e4] X.env) yq0q) (s3:autoParam (AH [e3,e4] X.env=(false,A6 e3 X.env) :: AH [e4] X.env) yq0q) (s4:autoParam (AH [e4] X.env=(false,A6 e4 X.env) :: AH [] X.env) yq0q) (rm:autoParam ((Cu pos (AH [e1,e2,e3,e4] X.env)).any (·.1)=false) yq0q)
  (he:autoParam (∀l,KG (.Call (.Name "settle" pc) [e0,e1,e2,e3,e4] [] pos) X.env l=(do let v <-l;Ir (Expr.Call (.Name "settle" pc) [e0,e1,e2,e3,e4] [] pos).pos;Fn [v] (NE v))) yq2q) :
  VBw X A (.Call (.Name "settle" pc) [e0,e1,e2,e3,e4] [] pos) (p3.bind λg=>st Hc g Qc) (λs=>(A.set i2 (.g (pa X.K Z2 (oDK D.int s.1)))).set i4 (.g (pa X.K Z4 (oDK D.bl s.2)))):=λz hz=>by
 obtain⟨g,q1,q2⟩:=AR hz
 refine(P7 (TC (E:=j5 noE) (F Hc g Qc) (hr.mono hk) hg T.em.m T.em.kp T.em.b .nil (good_none hx).pass (B3 h0 (B3 h1 (B3 h2 (B3 (h3 g q1) (B3 h4 ET s4) s3) s2) s1) s0) (by rfl) s0 rm) he).imp λσ H Q ⟨H0,F,⟨G,C⟩,kq⟩=>?_
 obtain⟨t,t1,t2⟩:=Vs.at ⟨G,C⟩ a0;obtain⟨b,b1,b2⟩:=Vs.at ⟨G,C⟩ a1;have b3:=b2 H Kp.refl.fr;cases b3;obtain⟨y2,c1,c2⟩:=C.atG a2
 obtain⟨h,rfl,c3,S,c5⟩:=c2 H Kp.refl.fr λM M=>rfl
 obtain⟨y4,d1,d2⟩:=C.atG a4
 obtain⟨s,rfl,d3,d4,d5⟩:=d2 H Kp.refl.fr λM M=>rfl
 have J:G i2 h:=by rw[c3]
 have N:G i4 s:=by rw[d3]
 have U:h≠s:=λc=>sf (C.ds i2 i4 h J (c▸N))
 refine⟨_,t1,_,b1,_,c1,H0,F,⟨G,C⟩,λy H1 I r1=>?_⟩;cases r1;have Y:=C.grow I;have Z:=I.ob S;have d6:=I.ob d4;refine⟨_,d1,t,h,s,z,rfl,q2,U,Z,d6,λH' O=>?_,λH' O oh os=>⟨z.1,rfl,?_⟩⟩
 ·refine t2 H' ⟨λa P e=>?_,λa ob u e=>?_,λa o f e=>?_⟩
  ·exact O a _ (by rw[IU (λw=>by rw[w]at e;exact(IS S).1 P e) (λw=>by rw[w]at e;exact(IS d4).1 P e)];exact I a _ e)
  ·exact O a _ (by rw[IU (λw=>by rw[w]at e;exact(IS S).2 _ _ e) (λw=>by rw[w]at e;exact(IS d4).2 _ _ e)];exact I a _ e)
  ·exact O a _ (by rw[IU (show a≠h from λw=>(C.gn i2 h J).1 (by ext)) (show a≠s from λw=>(C.gn i4 s N).1 ∅)];exact I a _ e)
 ·have gL:∀j a,(a=h∨a=s)->G j a->j=i2∨j=i4:=λj a c z=>c.elim (λw=>.inl (C.ds j i2 a z (w▸J))) λw=>.inr (C.ds j i4 a z (w▸N))
  obtain⟨v1,f1⟩:=Vw (L:=λa=>a=h∨a=s) (B:=(A.set i2 (.g (pa X.K Z2 (oDK D.int z.2.1)))).set i4 (.g (pa X.K Z4 (oDK D.bl z.2.2)))) Y (λa c=>c.elim (λw=>w▸(Y.gn i2 h J).1) λw=>w▸(Y.gn i4 s N).1) (λa o e n=>O a o (by rw[IU (λw=>n (.inl w)) (λw=>n (.inr w))];exact e))
   (λa P c=>c.elim (λw=>w▸(IS Z).1 P) λw=>w▸(IS d6).1 P) (λa ob u c=>c.elim (λw=>w▸(IS Z).2 ob u) λw=>w▸(IS d6).2 ob u) (λi a M c=>c.elim (λw=>w▸oh.at) λw=>w▸os.at) (λj t R=>by
    rcases JY R with⟨rfl,rfl,_⟩ | ⟨n4,R⟩
    ·exact .inr ⟨_,d1,_,rfl,λH2 f w=>⟨s,rfl,d3,f.ob (w s N) os,d5⟩⟩
    ·rcases JY R with⟨rfl,rfl,_⟩ | ⟨n2,R⟩
     ·exact .inr ⟨_,c1,_,rfl,λH2 f w=>⟨h,rfl,c3,f.ob (w h J) oh,c5⟩⟩
     ·exact .inl ⟨R,λa c w=>(gL j a c w).elim (λu=>n2 u.symm) λu=>n4 u.symm⟩)
  exact kq _ H' ⟨G,v1⟩ (I.fe.trans f1)
end
def Hn(A:List ZLi)(bits:Int)(st:List ZPi->Int->List (Int×Bool)->Option (Bool×HQ))(m:List ZPi)(g:Int)(o:List (Int×Bool)):Option (Fw (Bool×HQ) Unit):=
 AU ((((atI A g).bind λl=>Bn l (λx=>(((Ie bits x).bind λy=>some (BE y (1:Int))).bind λy=>some (y != 0)).bind λb=>if b=true then some (!(AT o x).isSome)else some false) (λx=>some x))).bind λw=>some (.nx w)) λw=>
 AU (BZ w () λ(_:Unit) x=>if (!(AT m x).isSome)=true then AU ((B2 m x g).bind λl=>some (.nx l)) λl=>some (.rt (true,l,o))else some (.nx ())) λG=>
 AU (BZ w (m,o) λ(s:HQ) x=>if (!(AT s.2 x).isSome)=true then AU ((B2 s.2 x true).bind λl=>some (.nx l)) λq=>(((AT s.1 x).bind λB=>st s.1 B q).bind λv=>if v.1=true then AU ((B2 v.2.1 x g).bind λl=>some (.nx l)) λl=>some (.rt (true,l,v.2.2))else some (.nx v.2))else some (.nx s)) λs=>some (.rt (false,s.1,s.2))
def E7(l:List ZLi)(bits:Int):Nat->List ZPi->Int->List (Int×Bool)->Option (Bool×HQ)
 | 0,_,_,_=>none
 | n+1,H,g,Q=>Bv (Hn l bits (E7 l bits n) H g Q)
section
variable{P:Al}{w:A1}{K:AB}{mg:Str->Option AD}{base:BI}{W:Wd}
theorem lJ{X:Cx}{A:List Sl}{e:Expr}{pos:Pos}{o:Type}{B:o->List Sl}{b:Bool}{l:List ZPi}{q:List (Int×Bool)}{h s:AL}(C:VE X A e (rV X.K D.bl) (some b))(E:autoParam (A[2]?=some (sx X.K h (oDK D.int l))) yq0q)(G:autoParam (A[4]?=some (sx X.K s (oDK D.bl q))) yq0q):VS X A (.Return (some e) pos) (RS X.K h s) (some (.rt (b,l,q))) B:=
 W9 (g:=λb=>(b,l,q)) C λv L N F H x O m kp r=>by
  obtain⟨_,_,I,J,_⟩:=m.put E;obtain⟨_,_,d4,d5,_⟩:=m.put G;subst J d5;cases r;exact⟨rfl,kp.ob I,kp.ob d4⟩
theorem ae(T:Txt K mg W)(L:List ZLi)(bits:Int):∀n O g R,Czq P w K mg base n T.em.f T.em.fd ["takes", "bits", "holders", "guard", "seen"] (spS K L bits O g R (E7 L bits n O g R)):=by
 intro n
 induction n with
 | zero=>intro O g R;exact⟨by rintro vs H Q E ⟨_,_,_,_,_,z,_⟩;exact (nomatch z),by rintro A S s H args us vs Q E hr e0 hb r ⟨_,_,_,_,_,z,_⟩;exact (nomatch z)⟩
 | succ n ih=>
  intro O g R;obtain⟨oc,od,kV,doc,pm,an,r0,ct,tK,Κ,lk,sP⟩:=T.em.F.ex;rw[Κ]at lk ⊢;have Sc:HY ["takes", "bits", "holders", "guard", "seen", "wanted", "place"] ["takes", "bits", "holders", "guard", "seen"] (Bw Kd):=Eg
  refine SA lk sP Sc (by rintro vs H Q E ⟨_,_,_,_,e,_⟩;rw[e];rfl) ?_;rintro A S s H vs Q E hr ⟨t,h,m,r,e,Y,sf,oh,os,ht,hq⟩
  subst e
  have uC:Hn L bits (E7 L bits n) O g R=some (.rt r):=by
   have Y:Bv (Hn L bits (E7 L bits n) O g R)=some r:=Y;unfold Bv at Y;split at Y
   ·ext
   ·cases Y
  have nd:(["takes", "bits", "holders", "guard", "seen", "wanted", "place"]:List Str).Nodup:=Sc.nd;have U:=hr.units
  have hv:Vs (Qg H h m) [sz K (oL (eT D.int) L),sv K (D.int bits),sx K h (oDK D.int O),sv K (D.int g),sx K m (oDK D.bl R),.u,.u] (L2.start ["takes", "bits", "holders", "guard", "seen", "wanted", "place"] [t,.int bits,.ref h,.int g,.ref m]) (λa=>∃o,Qg H h m a=some o) H:=by
   have fe:∀a o,Qg H h m a=some o->H a=some o:=λa o z=>(Nr z).2.2
   have kp':∀{H'},Fr (λa=>∃o,Qg H h m a=some o) H H'->Kp (Qg H h m) H':=λf a o z=>f.fix a o ⟨o,z⟩ (fe a o z)
   refine⟨λi a=>(i=2/\a=h)∨(i=4/\a=m),fe,λa o z=>⟨o,z⟩,by rintro a ⟨o,z⟩;exact ⟨o,fe a o z⟩,λi s G=>?_,λi a z=>?_,λi j a z1 z2=>?_⟩
   ·match i,G with
    | 0,G=>cases G;exact⟨_,rfl,t,rfl,λH' f=>ht H' (kp' f)⟩
    | 1,G=>cases G;exact⟨_,rfl,_,rfl,λH' f=>.int _⟩
    | 2,G=>cases G;exact⟨_,rfl,_,rfl,λH' f z=>⟨h,rfl,funext λb=>propext ⟨λq=>q.elim (λq=>q.2) λq=>zX q.1 (by decide),λq=>.inl ⟨rfl,q⟩⟩,f.ob (z h (.inl ⟨rfl,rfl⟩)) oh,rfl⟩⟩
    | 3,G=>cases G;exact⟨_,rfl,_,rfl,λH' f=>.int _⟩
    | 4,G=>cases G;exact⟨_,rfl,_,rfl,λH' f z=>⟨m,rfl,funext λb=>propext ⟨λq=>q.elim (λq=>zX q.1 (by decide)) λq=>q.2,λq=>.inr ⟨rfl,q⟩⟩,f.ob (z m (.inr ⟨rfl,rfl⟩)) os,rfl⟩⟩
    | 5,G=>cases G;exact⟨_,rfl,trivial⟩
    | 6,G=>cases G;exact⟨_,rfl,trivial⟩
    | _+7,G=>cases G
   ·rcases z with⟨_,rfl⟩ | ⟨_,rfl⟩
    ·exact⟨by rintro ⟨o,z⟩;exact (Nr z).1 rfl,oh.at⟩
    ·exact⟨by rintro ⟨o,z⟩;exact (Nr z).2.1 rfl,os.at⟩
   ·lia
  have hb:VSs (Qa (CXG P w) P w K mg base ["takes", "bits", "holders", "guard", "seen", "wanted", "place"] "settle" (Bw Kd) T.em.f r0 A S s H E).q [sz K (oL (eT D.int) L),sv K (D.int bits),sx K h (oDK D.int O),sv K (D.int g),sx K m (oDK D.bl R),.u,.u] (FB Kd) (RS K h m) (Hn L bits (E7 L bits n) O g R) (λM=>[]):=by
   unfold Hn
   exact Ah (UF (i:=5) (XS (own:=["place"]) (N':=["place", ".1", "bits", ".3", ".4", "seen", ".6", ".7"]) (Jm (by kernel_rfl)) (Hl (Hm (C6 (pv 0)) (vv 3))) (λM M M M M M=>pgn 0 (by decide +kernel:(["place", ".1", "bits", ".3", ".4", "seen", ".6", ".7"]:List Str).Nodup)) LB (λx=>by exact(.drop (.same (.same (.same (.same (.same (.same (.same .nil)))))))))
     (λx M M M M M M=>HU (YY (Sh (Ox (LF (Vx (vv 2) (vv 0)) A4)) (Ot (JW dkK (hu1 U) (vv 0) (Mj (pv 5))))))) (λx M M M M M M=>aH (pv 0)))) λZ=>
    Ah (Hk (s0:=()) (B:=λ(_:Unit)=>[sz K (oL (eT D.int) L),sv K (D.int bits),sx K h (oDK D.int O),sv K (D.int g),sx K m (oDK D.bl R),sy K (oL D.int Z),.u]) (F6 (pv 5)) (pgn 6 nd) CJ Wk.refl λM x=>
     Aq (Ln (B:=λ(_:Unit)=>[sz K (oL (eT D.int) L),sv K (D.int bits),sx K h (oDK D.int O),sv K (D.int g),sx K m (oDK D.bl R),sy K (oL D.int Z),.u]) (JW dkK (hu1 U) (vv 6) (Mj (pv 2))) (Ah (FR dkK (hu1 U) (pv 2) (vv 6) (vv 3)) λl=>Aq (lJ KS)) (Cq ∅)))
     λM=>
    Ah (Hk (s0:=(O,R)) (B:=λ(s:HQ)=>[sz K (oL (eT D.int) L),sv K (D.int bits),sx K h (oDK D.int s.1),sv K (D.int g),sx K m (oDK D.bl s.2),sy K (oL D.int Z),.u]) (F6 (pv 5)) (pgn 6 nd) CJ Wk.refl λs x=>
     Aq (Ln (B:=λ(s:HQ)=>[sz K (oL (eT D.int) L),sv K (D.int bits),sx K h (oDK D.int s.1),sv K (D.int g),sx K m (oDK D.bl s.2),sy K (oL D.int Z),.u]) (JW dkK (hu1 U) (vv 6) (Mj (pv 4)))
      (Ah (FR dkK (hu1 U) (pv 4) (vv 6) KS) λq=>Aq (Z6 (q:=λ(v:HQ)=>AU ((B2 v.1 x g).bind λl=>some (.nx l)) λl=>some (.rt (true,l,v.2))) (r:=λ(v:HQ)=>some (.nx v)) (C:=λ(s:HQ)=>[sz K (oL (eT D.int) L),sv K (D.int bits),sx K h (oDK D.int s.1),sv K (D.int g),sx K m (oDK D.bl s.2),sy K (oL D.int Z),.u]) (V1 (Z2:=λa=>a=h) (Z4:=λa=>a=m) T ih hr (AN n) (pv 0) (pv 1) (pv 2) (Mn dkK (hu1 U) (Mj (pv 2)) (vv 6)) (pv 4) (by decide)) (λv=>Ah (FR dkK (hu1 U) (pv 2) (vv 6) (vv 3)) λl=>Aq (lJ KS)) (λv=>Cq ∅)))
      (Cq ∅))) λs=>Aq (lJ KS)
  have hb:=hb _ uC;refine⟨_,λζ s' σ H' D I q=>DP (hb ζ s' σ H' D (I.with _) q) (λfl s1 z=>?_) λe s1 z=>z.elim,Qg H h m,_,hv,by rintro x H' kp ⟨h1,h2,h3⟩;ext⟩
  cases fl with
  | next=>obtain⟨N,X,J,z⟩:=z;exact⟨N,X,J.without,z⟩
  | brk=>obtain⟨N,X,J,z⟩:=z;exact⟨N,X,J.without,z⟩
  | cont=>obtain⟨N,X,J,z⟩:=z;exact⟨N,X,J.without,z⟩
  | ret u=>obtain⟨v,N,X,J,r,z⟩:=z;exact⟨v,N,X,J.without,r,z⟩
end
open L2 L7
open L4 (Fw AU BZ Bv Je BW AR eT eP oL oDK Bn B2 Ie Gw OO hb QS OC OJ E2 Ti Tj CG)
def Tk(l:List ZLi)(g:Int):ZLi:=(atI l g).getD []
theorem Oz{m o:Type}[DecidableEq m]{l w:List (m×o)}{k:m}{v:o}(h:B2 l k v=some w):l.length < 1000000/\w=Cm l k v:=by
 unfold B2 at h;ext
section
variable{α σ ρ:Type}{l:List α}{x:α}{s s':σ}{q:σ->α->Option (Fw ρ σ)}
theorem MF(h:q s x=some (.nx s')):BZ (x :: l) s q=BZ l s' q:=by
 conv=>lhs;unfold BZ
 rw[h]
theorem Wh{r:ρ}(h:q s x=some (.rt r)):BZ (x :: l) s q=some (.rt r):=by
 conv=>lhs;unfold BZ
 rw[h]
theorem ck(h:q s x=none):BZ (x :: l) s q=none:=by
 conv=>lhs;unfold BZ
 rw[h]
end
theorem qL{H:List ZPi}{Q:List (Int×Bool)}{g:Int}:∀(w:ZLi),BZ w () (λ(_:Unit) x=>if (!(AT H x).isSome)=true then AU ((B2 H x g).bind λl=>some (.nx l)) λl=>some (.rt (true,l,Q))else some (.nx ()))=match w.find? (λx=>!(AT H x).isSome)with
 | some x=>(B2 H x g).bind λl=>some (.rt (true,l,Q))
 | none=>some (Fw.nx ():Fw (Bool×HQ) Unit):=by
 intro w
 induction w with
 | nil=>rfl
 | cons x w m=>
  rw[CP]
  cases c:!(AT H x).isSome with
  | true=>
   symm
   cases e:B2 H x g with
   | none=>exact ck (by rw[c,qX rfl,e];rfl)
   | some l=>exact Wh (by rw[c,qX rfl,e];rfl)
  | false=>exact(MF (by rw[c];rfl)).trans m
theorem WF{m:List ZLi}{bits:Int}(hT:∀t∈m,t.length<=1000/\∀x∈t,0<=x):∀(n:Nat) (H:List ZPi) (g:Int) (Q:List (Int×Bool)) (z:Bool×HQ),Gw (Tk m) bits n H g Q=some z->0<=g/\g < m.length->(∀x a,AT H x=some a->0<=a/\a < m.length)->(∀x a,AT z.2.1 x=some a->0<=a/\a < m.length)/\E7 m bits n H g Q=some z:=by
 intro n
 induction n with
 | zero=>intro H g Q z B;cases B
 | succ n ih=>
  intro H g Q z B S N;unfold Gw at B;obtain⟨t,O,-⟩:=Ti S.1 S.2;have tm:=hT t (Tj O)
  have ht:Tk m g=t:=by unfold Tk;rw[O];rfl
  rw[ht]at B
  have T:∀(H:List ZPi) (x:Int),(∀x a,AT H x=some a->0<=a/\a < m.length)->∀y a,AT (Cm H x g) y=some a->0<=a/\a < m.length:=λH x N y a e=>by
   rw[CG]at e;split at e
   ·ext
   ·exact N y a e
  have U:Bn t (λx=>(((Ie bits x).bind λy=>some (BE y (1:Int))).bind λy=>some (y != 0)).bind λb=>if b=true then some (!(AT Q x).isSome)else some false) (λx=>some x)=some (t.filter λx=>hb bits x&&!(AT Q x).isSome):=E2 ∅ λx hx=>by
   rw[show Ie bits x=some (bits / 2 ^ x.toNat)from qX (tm.2 x hx)];show(if hb bits x=true then _ else _)=_
   cases hb bits x <;> rfl
  generalize t.filter (λx=>hb bits x&&!(AT Q x).isSome)=w at B U
  have lp:∀(r:ZLi) (o:List ZPi) (A:List (Int×Bool)),(∀x a,AT o x=some a->0<=a/\a < m.length)->OO (Gw (Tk m) bits n) g r o A=some z->(∀x a,AT z.2.1 x=some a->0<=a/\a < m.length) /\
    AU (BZ r (o,A) λ(s:HQ) x=>if (!(AT s.2 x).isSome)=true then AU ((B2 s.2 x true).bind λl=>some (.nx l)) λq=>(((AT s.1 x).bind λE=>E7 m bits n s.1 E q).bind λv=>if v.1=true then AU ((B2 v.2.1 x g).bind λl=>some (.nx l)) λl=>some (.rt (true,l,v.2.2))else some (.nx v.2))else some (.nx s)) (λs=>some (.rt (false,s.1,s.2)))=some (Fw.rt z:Fw (Bool×HQ) Unit):=by
   intro r
   induction r with
   | nil=>intro o A I e;cases e;exact⟨I,rfl⟩
   | cons x r J=>
    intro o A I e;unfold OO at e
    cases c:(AT A x).isSome with
    | true=>
     rw[qX c]at e;rw[MF (s':=(o,A)) (by ext)];exact J o A I e
    | false=>
     rw[qY ∅]at e;obtain⟨X,b1,e⟩:=AR e;obtain⟨E,b2,e⟩:=AR e;obtain⟨G,b3,e⟩:=AR e;obtain⟨Y,h2⟩:=ih o E X G b3 (I x E b2) I
     have C:(if (!(AT (o,A).2 x).isSome)=true then AU ((B2 (o,A).2 x true).bind λl=>some (.nx l)) λq=>(((AT (o,A).1 x).bind λE=>E7 m bits n (o,A).1 E q).bind λv=>if v.1=true then AU ((B2 v.2.1 x g).bind λl=>some (.nx l)) λl=>some (.rt (true,l,v.2.2))else some (.nx v.2))else some (.nx (o,A)))=(if G.1=true then AU ((B2 G.2.1 x g).bind λl=>some (.nx l)) λl=>some (.rt (true,l,G.2.2))else some (Fw.nx G.2:Fw (Bool×HQ) HQ)):=by
      symm;rw[c,b1,b2];show((E7 m bits n o E X).bind λv=>if v.1=true then AU ((B2 v.2.1 x g).bind λl=>some (.nx l)) λl=>some (.rt (true,l,v.2.2))else some (.nx v.2))=_;rw[h2];rfl
     cases P:G.1 with
     | true=>
      rw[qX P]at e;obtain⟨H',L,R⟩:=AR e;cases R;rw[Wh (C.trans (by rw[P,qX rfl,L];rfl))];refine⟨?_,rfl⟩;rw[(Oz L).2];exact T _ x Y
     | false=>
      rw[qY (by ext)]at e;rw[MF (C.trans (by rw[P];rfl))];exact J _ _ Y e
  show _/\Bv (Hn m bits (E7 m bits n) H g Q)=some z;unfold Hn;rw[O];show _/\Bv (AU ((Bn t _ _).bind λw=>some (.nx w)) _)=some z;rw[U];show _/\Bv (AU (BZ w () _) _)=some z;rw[qL]
  cases Z:w.find? (λx=>!(AT H x).isSome)with
  | some x=>
   rw[Z]at B;obtain⟨H',L,R⟩:=AR B;cases R;symm;rw[L];refine⟨?_,rfl⟩;rw[(Oz L).2];exact T _ x N
  | none=>
   rw[Z]at B;obtain⟨a1,a2⟩:=lp w H Q N B;refine⟨a1,?_⟩;show Bv (AU (BZ w (H,Q) _) _)=some z;rw[a2];rfl
section
variable{X:Cx}{A:List Sl}{e0 e1 e2 e3:Expr}{pc pos pd:Pos}{W:Wd}{k k':Nat}{tk:List ZLi}{bits:Int}{Hc:List ZPi}{st:List ZPi->Int->List (Int×Bool)->Option (Bool×HQ)}{i0 i1 i2:Nat}{Z2:AL->Prop}{p3:Option Int}
theorem UQ(T:Txt X.K X.mg W)(F:∀H g Q,CT X.prog X.w X.K X.mg X.base (CXG X.prog X.w) k T.em.f T.em.fd ["takes", "bits", "holders", "guard", "seen"] (spS X.K tk bits H g Q (st H g Q))) (hr:FC k' X.A) (hk:k<=k')
  (h0:PE X e0 (DX i0)) (h1:PE X e1 (DX i1)) (h2:PE X e2 (DX i2)) (h3:VE X A e3 (zIq X) p3)
  (a0:autoParam (A[i0]?=some (sz X.K (oL (eT D.int) tk))) yq0q) (a1:autoParam (A[i1]?=some (sv X.K (D.int bits))) yq0q) (a2:autoParam (A[i2]?=some (.g (pa X.K Z2 (oDK D.int Hc)))) yq0q)
  (hx:autoParam (X.xe=λM M=>False) yq0q) (hg:autoParam (Gl X "settle") yq0q) (s0:autoParam (AH [e0,e1,e2,e3,.Dict [] [] pd] X.env=(false,A6 e0 X.env) :: AH [e1,e2,e3,.Dict [] [] pd] X.env) yq0q) (s1:autoParam (AH [e1,e2,e3,.Dict [] [] pd] X.env=(false,A6 e1 X.env) :: AH [e2,e3,.Dict [] [] pd] X.env) yq0q) (s2:autoParam (AH [e2,e3,.Dict [] [] pd] X.env=(false,A6 e2 X.env) :: AH [e3,.Dict [] [] pd] X.env) yq0q) (s3:autoParam (AH [e3,.Dict [] [] pd] X.env=(false,A6 e3 X.env) :: AH [.Dict [] [] pd] X.env) yq0q) (s4:autoParam (AH [.Dict [] [] pd] X.env=(false,A6 (.Dict [] [] pd) X.env) :: AH [] X.env) yq0q) (rm:autoParam ((Cu pos (AH [e1,e2,e3,.Dict [] [] pd] X.env)).any (·.1)=false) yq0q)
  (he:autoParam (∀l,KG (.Call (.Name "settle" pc) [e0,e1,e2,e3,.Dict [] [] pd] [] pos) X.env l=(do let v <-l;Ir (Expr.Call (.Name "settle" pc) [e0,e1,e2,e3,.Dict [] [] pd] [] pos).pos;Fn [v] (NE v))) yq2q) :
  VBw X A (.Call (.Name "settle" pc) [e0,e1,e2,e3,.Dict [] [] pd] [] pos) (p3.bind λg=>(st Hc g []).bind λz=>some (z.1,z.2.1)) (λs=>A.set i2 (.g (pa X.K Z2 (oDK D.int s)))):=λz' J=>by
 obtain⟨g,q1,J⟩:=AR J;obtain⟨z,q2,J⟩:=AR J;cases J
 refine(P7 (TC (E:=j5 noE) (F Hc g []) (hr.mono hk) hg T.em.m T.em.kp T.em.b .nil (good_none hx).pass (B3 h0 (B3 h1 (B3 h2 (B3 (h3 g q1) (B3 Us ET s4) s3) s2) s1) s0) (by rfl) s0 rm) he).imp λσ H Q ⟨H0,F,⟨G,C⟩,kq⟩=>?_
 obtain⟨t,t1,t2⟩:=Vs.at ⟨G,C⟩ a0;obtain⟨b,b1,b2⟩:=Vs.at ⟨G,C⟩ a1;have b3:=b2 H Kp.refl.fr;cases b3;obtain⟨y2,c1,c2⟩:=C.atG a2
 obtain⟨h,rfl,c3,N,c5⟩:=c2 H Kp.refl.fr λM M=>rfl
 have R:G i2 h:=by rw[c3]
 refine⟨_,t1,_,b1,_,c1,H0,F,⟨G,C⟩,λy H1 I r1=>?_⟩;cases r1;intro s S;have O:=I.trans (BX (o:=.dK []) S);have vH:=C.grow O;have c6:=O.ob N;have d6:OB X.K (upd H1 s (.dK [])) s (oDK D.bl []):=⟨[],Ar,.nil⟩
 have U:h≠s:=λc=>by obtain⟨u,hu⟩:=(I.ob N).at;ext
 have n0:H s=none:=by
  cases e:H s with
  | none=>rfl
  | some o=>rw[I s o e]at S;cases S
 refine⟨t,h,s,z,rfl,q2,U,c6,d6,λH' P=>?_,λH' P oh os=>⟨z.1,rfl,?_⟩⟩
 ·refine t2 H' ⟨λa Y e=>?_,λa ob u e=>?_,λa o f e=>?_⟩
  ·exact P a _ (by rw[IU (λw=>by rw[w]at e;exact(IS N).1 Y e) (λw=>by ext)];exact O a _ e)
  ·exact P a _ (by rw[IU (λw=>by rw[w]at e;exact(IS N).2 _ _ e) (λw=>by ext)];exact O a _ e)
  ·exact P a _ (by rw[IU (show a≠h from λw=>(C.gn i2 h R).1 (by ext)) (λw=>by lia)];exact O a _ e)
 ·have kk:∀a o,H1 a=some o->a≠h->H' a=some o:=λa o e n=>P a o (by rw[IU n (λw=>by lia),AO (λw=>by lia)];exact e)
  have uY:=C.grow I;have c7:=I.ob N
  obtain⟨v1,f1⟩:=Vw (H':=H') (L:=λa=>a=h) (B:=A.set i2 (.g (pa X.K Z2 (oDK D.int z.2.1)))) uY (λa c=>c▸(uY.gn i2 h R).1) (λa o e n=>kk a o e n)
   (λa Y c=>c▸(IS c7).1 Y) (λa ob u c=>c▸(IS c7).2 ob u) (λi a M c=>c▸oh.at) (λj t Z=>by
    rcases JY Z with⟨rfl,rfl,_⟩ | ⟨n2,Z⟩
    ·exact .inr ⟨_,c1,_,rfl,λH2 f w=>⟨h,rfl,c3,f.ob (w h R) oh,c5⟩⟩
    ·exact .inl ⟨Z,λa c w=>n2 (C.ds i2 j a (c▸R) w)⟩)
  exact kq _ H' ⟨G,v1⟩ (I.fe.trans f1)
end
def S6(m:ZLi)(bits:Int)(st:List ZPi->Int->List (Int×Bool)->Option (Bool×HQ)):Option (Fw Bool Unit):=
 AU (some (.nx [])) λv=>AU (BZ m v λ(s:List ZPi) x=>(((Ie bits x).bind λy=>some (BE y (1:Int))).bind λy=>some (y != 0)).bind λb=>if b=true then BW (λl=>l) ((B2 s x x).bind λl=>some (.nx l))else some (.nx s)) λs=>
  AU (BZ m s λ(s:List ZPi) x=>((((((Ie bits x).bind λy=>some (BE y (1:Int))).bind λy=>some (y != 0)).bind λb=>some (!b)).bind λb=>if b=true then((st s x []).bind λz=>some (z.1,z.2.1)).bind λv=>some (!v.1,v.2)else some (false,s))).bind λv=>if v.1=true then some (.rt false)else some (.nx v.2)) λG=>some (.rt true)
section
variable{P:Al}{w:A1}{K:AB}{mg:Str->Option AD}{base:BI}{W:Wd}
theorem fx(T:Txt K mg W)(m:List ZLi)(o:ZLi)(bits:Int):Czd P w base T.wl 10 ["takes", "guards", "bits"] (spV [aO K (oL (eT D.int) m),aV K (eT D.int o),aV K (D.int bits)] (rV K D.bl) (Bv (S6 o bits (E7 m bits 9)))):=by
 unfold S6
 exact fnV (N:=["takes", "guards", "bits", "holders", "guard"]) (B:=λI=>[]) T.wl.F Eg rfl λI I I I I I E G A=>
  Ah (D9 3 (IL dkK)) λv=>
  Ah (Hk (s0:=v) (B:=λ(s:List ZPi)=>[sz K (oL (eT D.int) m),sv K (eT D.int o),sv K (D.int bits),sw K (oDK D.int s),.u]) (Hl (vv 1)) (pgn 4 A) CJ Wk.refl λs x=>
   Aq (Ln (B:=λ(s:List ZPi)=>[sz K (oL (eT D.int) m),sv K (eT D.int o),sv K (D.int bits),sw K (oDK D.int s),.u]) (Ox (LF (Vx (vv 2) (vv 4)) A4)) (Aq (Do (FR dkK (hu1 G) (pv 3) (vv 4) (vv 4)) λl=>by exact Ws.wk (.same (.same (.same (.same (.drop .nil))))))) (Cq ∅))) λs=>
  Ah (Hk (s0:=s) (B:=λ(s:List ZPi)=>[sz K (oL (eT D.int) m),sv K (eT D.int o),sv K (D.int bits),sw K (oDK D.int s),.u]) (Hl (vv 1)) (pgn 4 A) CJ Wk.refl λs x=>
   Aq (Z6 (B:=λ(s:List ZPi)=>[sz K (oL (eT D.int) m),sv K (eT D.int o),sv K (D.int bits),sw K (oDK D.int s),sv K (D.int x)]) (q:=λ(_:List ZPi)=>some (.rt false)) (r:=λ(v:List ZPi)=>some (.nx v)) (C:=λ(s:List ZPi)=>[sz K (oL (eT D.int) m),sv K (eT D.int o),sv K (D.int bits),sw K (oDK D.int s),.u])
    (fZ (s0:=s) (KU (Ox (LF (Vx (vv 2) (vv 4)) A4))) (fY (UQ (Z2:=λI=>True) T (ae T m bits 9) E (by ext) (pv 0) (pv 2) (pv 3) (vv 4))) Wk.refl)
    (λv=>Aq (CH KS upV)) (λv=>Cq ∅))) λI=>Aq (CH KS upV)
end
theorem cq{m:List ZLi}{bits:Int}{w:ZLi}{b:Bool}(S:∀t∈m,t.length<=1000/\∀x∈t,0<=x)(A:∀g∈w,0<=g/\g < m.length)(P:QS (Tk m) bits 9 w=some b):Bv (S6 w bits (E7 m bits 9))=some b:=by
 have bit:∀x:Int,0<=x->(((Ie bits x).bind λy=>some (BE y (1:Int))).bind λy=>some (y != 0))=some (hb bits x):=λx B=>by
  rw[show Ie bits x=some (bits / 2 ^ x.toNat)from qX B];rfl
 unfold QS at P;obtain⟨J,T,U⟩:=AR P
 have X:∀(r:ZLi) (H:List ZPi),(∀g∈r,0<=g/\g < m.length)->OC bits r H=some J->(∀x a,AT H x=some a->0<=a/\a < m.length)->(∀x a,AT J x=some a->0<=a/\a < m.length)/\BZ r H (λ(s:List ZPi) x=>(((Ie bits x).bind λy=>some (BE y (1:Int))).bind λy=>some (y != 0)).bind λb=>if b=true then BW (λl=>l) ((B2 s x x).bind λl=>some (.nx l))else some (.nx s))=some (Fw.nx J:Fw Bool (List ZPi)):=by
  intro r
  induction r with
  | nil=>intro H _ e o;cases e;exact⟨o,rfl⟩
  | cons x r E=>
   intro H G e o;have B:=G x (AW ..)
   have I:∀g∈r,0<=g/\g < m.length:=λg A=>G g (AM _ A)
   unfold OC at e;have L:=bit x B.1
   cases c:hb bits x with
   | true=>
    rw[qX c]at e;obtain⟨Q,N,C⟩:=AR e;rw[MF (s':=Q) (by rw[L,c,N];rfl)]
    refine E Q I C λy a z=>?_
    rw[(Oz N).2,CG]at z;split at z
    ·ext
    ·exact o y a z
   | false=>
    rw[qY (by ext)]at e;rw[MF (s':=H) (by rw[L,c];rfl)];exact E H I e o
 have Y:∀(r:ZLi) (H:List ZPi),(∀g∈r,0<=g/\g < m.length)->OJ (Tk m) bits 9 r H=some b->(∀x a,AT H x=some a->0<=a/\a < m.length)->Bv (AU (BZ r H λ(s:List ZPi) x=>((((((Ie bits x).bind λy=>some (BE y (1:Int))).bind λy=>some (y != 0)).bind λb=>some (!b)).bind λb=>if b=true then((E7 m bits 9 s x []).bind λz=>some (z.1,z.2.1)).bind λv=>some (!v.1,v.2)else some (false,s))).bind λv=>if v.1=true then some (.rt false)else some (.nx v.2)) λM=>some (Fw.rt true:Fw Bool Unit))=some b:=by
  intro r
  induction r with
  | nil=>intro H _ e o;cases e;rfl
  | cons x r E=>
   intro H G e o;have B:=G x (AW ..)
   have I:∀g∈r,0<=g/\g < m.length:=λg A=>G g (AM _ A)
   unfold OJ at e;have L:=bit x B.1
   cases c:hb bits x with
   | true=>
    rw[qX c]at e;rw[MF (s':=H) (by rw[L,c];rfl)];exact E H I e o
   | false=>
    rw[qY ∅]at e;obtain⟨z,N,C⟩:=AR e;obtain⟨O,R⟩:=WF S 9 H x [] z N B o
    cases Z:z.1 with
    | true=>
     rw[qX Z]at C;rw[MF (s':=z.2.1) ∅];exact E _ I C O
    | false=>
     rw[qY (by ext)]at C;cases C;rw[Wh (r:=false) ∅];rfl
 obtain⟨O,R⟩:=X w [] A T λx a e=>nomatch e
 unfold S6;show Bv (AU (BZ w [] _) _)=_;rw[R];exact Y w J A U O
open Classical in
def QE(l:List ZLi)(m:ZLi)(bits:Int):Option Bool:=if (∀t∈l,t.length<=1000/\∀x∈t,0<=x)/\∀g∈m,0<=g/\g < l.length then QS (Tk l) bits 9 m else none
set_option tactic.hygienic true in
theorem kO{P:Al}{w:A1}{K:AB}{A:Str->Option AD}{base:BI}{W:Wd}(T:Txt K A W)(m:List ZLi)(o:ZLi)(bits:Int):CT P w K A base (CXG P w) 10 T.wl.f T.wl.fd ["takes", "guards", "bits"] (spV [aO K (oL (eT D.int) m),aV K (eT D.int o),aV K (D.int bits)] (rV K D.bl) (QE m o bits)):=
 (fx T m o bits).imp<|by
  rintro vs H Q E ⟨v,l,C⟩
  unfold QE at l;split at l
  ·rename_i B
   exact⟨v,cq B.1 B.2 l,C⟩
  ·cases l
open L2 L7
open L4 (Fw AU BZ Bv Je BW AR eT eP eF eU oL oDK oDP oDR HW GT D7 Ex Kl CI F9 Ie Oa Kx MD Bn whF B2 C8 FI F8 inG EqN Bu GE FA GF ED Hv Jg oFK)
section
variable{P:Al}{w:A1}{K:AB}{mg:Str->Option AD}{base:BI}{W:Wd}
noncomputable def GA(m:(Nat×List ZPi))(l:Int):Option (Fw Unit Unit):=
 ((if decide ((0:Int)<=l)=true then some (decide (l < (m.1:Int)))else some false).bind λo=>some (!o)).bind λA=>if A=true then none else some (.nx ())
def Ek(l:(Nat×List ZPi))(m:Int):Option Unit:=Je (GA l m)
theorem Mp(T:Txt K mg W)(l:(Nat×List ZPi))(m:Int):Czd P w base T.LT 1 ["web", "place"] (spV [aO K ((Hu W) l),aV K (D.int m)] (rV K eU) (Ek l m)):=by
 unfold Ek GA
 exact fnU (N:=["web", "place"]) (B:=λG=>_) T.LT.F Eg rfl λG G G G G G o A C=>(Aq (Gj (KU (Pi Ut bq A4 (vv 1) (JU (ob:=Hu W) (g:=λw=>(w.1:Int)) (ec:=D.int) T.gg.cl T.mo (C6 (pv 0)) (λw=>⟨_,rfl,R6 _ _ _⟩)))) L6 (Cq Wk.refl)))
def WL(l:(Nat×List ZPi))(m:Int):Option (Fw ZLi Unit):=
 AU ((Ek l m).bind λG=>some (.nx ())) λG=>(atI (Hw l.1 l.2) m).bind λo=>some (.rt o)
def QD(l:(Nat×List ZPi))(m:Int):Option ZLi:=Bv (WL l m)
theorem kM(T:Txt K mg W)(l:(Nat×List ZPi))(m:Int):Czd P w base T.ST 2 ["web", "place"] (spV [aO K ((Hu W) l),aV K (D.int m)] (rV K (eT D.int)) (QD l m)):=by
 unfold QD WL
 exact fnV (N:=["web", "place"]) (B:=λG=>[]) T.ST.F Eg rfl λG G G G G G A C E=>(Ah (fI (Cy (Bj T.LT (λ(o:(Nat×List ZPi)×Int×Unit)=>Mp T o.1 o.2.1) A (Cn (C6 (pv 0)) arO (Cc (vv 1) Bs)) upV))) (λG=>(Aq (CH (Sr (JU (ob:=Hu W) (g:=λw=>Hw w.1 w.2) (ec:=eT (eT D.int)) T.gg.cl T.wn (C6 (pv 0)) (λw=>⟨_,rfl,by rw[<-Ux];exact qM _ _ _⟩)) (vv 1)) upV))))
def MB(o:(Nat×List ZPi)):Option (Fw (List ZLi) Unit):=
 (((some (o.1:Int)).bind Ex).bind λl=>Bn l (λm=>some true) (λm=>(((some (m :: [])).bind D7).bind λA=>(QD o m).bind λB=>GT A B).bind λC=>some (CK C))).bind λE=>some (.rt E)
def Gp(l:(Nat×List ZPi)):Option (List ZLi):=Bv (MB l)
theorem V2(T:Txt K mg W)(l:(Nat×List ZPi)):Czd P w base T.Tm 3 ["web"] (spV [aO K ((Hu W) l)] (rN K (oL (eT D.int))) (Gp l)):=by
 unfold Gp MB
 exact fnV (N:=["web"]) (B:=λG=>[]) T.Tm.F Eg rfl λG G G G G G o C E=>(Aq (CH (vc (N':=["place", "web"]) (Db T.dl (JU (ob:=Hu W) (g:=λw=>(w.1:Int)) (ec:=D.int) T.gg.cl T.mo (C6 (pv 0)) (λw=>⟨_,rfl,R6 _ _ _⟩))) (λA G G G G G G=>Du) (λA G G G G G G=>(Gk T.ut (EV (NV T.sK (LD (Ia (Ei (vv 0) DQ)) (Cy (Bj T.ST (λ(m:(Nat×List ZPi)×Int×Unit)=>kM T m.1 m.2.1) o (Cn (C6 (pv 1)) arO (Cc (vv 0) Bs)) upV)))))))) upN))
def Nf(l:ZLi):Option (Fw Int Unit):=
 AU (some (.nx (0:Int))) λm=>AU (BZ l m λ(o:Int) A=>BW (λB=>B) ((F9 (1:Int) A).bind λC=>some (.nx (DE o C)))) λE=>some (.rt E)
def Fc(l:ZLi):Option Int:=Bv (Nf l)
theorem Ya(T:Txt K mg W)(m:ZLi):Czd P w base T.Ty 1 ["some"] (spV [aV K ((eT D.int) m)] (rV K D.int) (Fc m)):=by
 unfold Fc Nf
 exact fnV (N:=["some", "bits", "place"]) (B:=λG=>[]) T.Ty.F Eg rfl λG G G G G G C E o=>(Ah (DW 1 A4) (λA=>(Ah (C5 (s0:=A) 1 (λ(l:Int)=>sv K (D.int l)) (Hl (vv 0)) (pgn 2 o) CJ (λG H=>(Aq (Do (NT 1 Xy (L8 A4 (vv 2))) (λI=>∅))))) (λJ=>(Aq (CH (vv 1) upV))))))
def Nc(o:Int):Option (Fw ZLi Unit):=
 AU (((some []).bind D7).bind λA=>some (.nx A)) λB=>AU (some (.nx o)) λC=>AU (whF (λ(l:ZLi×Int)=>some (l.2 != 0)) (λ(l:ZLi×Int)=>AU ((HW l.1 ((Dy (BE l.2 (-l.2)):Int) - (1:Int))).bind λm=>some (.nx m)) λE=>BW (λG=>(E,G)) (some (.nx (BE l.2 (l.2 - (1:Int)))))) wN (B,C)) λH=>some (.rt H.1)
def He(l:Int):Option ZLi:=Bv (Nc l)
theorem Rg(T:Txt K mg W)(m:Int):Czd P w base T.wP 1 ["bits"] (spV [aV K (D.int m)] (rN K (oL D.int)) (He m)):=by
 unfold He Nc
 exact fnV (N:=["bits", "told", "left"]) (B:=λM=>[]) T.wP.F Eg rfl λM M M M M M H I J=>(Ah (D9 1 (FY DQ)) (λA=>(Ah (DW 2 (vv 0)) (λC=>(Ah (YW (s0:=(A,C)) 1 (λ(l:ZLi×Int)=>sw K ((oL D.int) l.1)) 2 (λ(l:ZLi×Int)=>sv K (D.int l.2)) wN (λE=>(Ox (vv 2))) (λE=>(Ah (NU (pv 1) (Ib (fX (LF (vv 2) (So (vv 2)))) A4)) (λG=>(Aq (Gi (g:=λo=>(G,o)) (NT 2 mW (Ib (vv 2) A4)) (λo=>Wk.refl))))))) (λL=>(Aq (LA (pv 1)))))))))
def Km(m:ZLi)(o:Int)(A:Int):Option (Fw ZLi Unit):=
 (Bn m (λl=>some true) (λl=>if (decide (l=o))=true then some A else some l)).bind λB=>some (.rt B)
def G5(l:ZLi)(m:Int)(o:Int):Option ZLi:=Bv (Km l m o)
theorem US(T:Txt K mg W)(l:ZLi)(m:Int)(o:Int):Czd P w base T.XL 1 ["standing", "guard", "place"] (spV [aV K ((eT D.int) l),aV K (D.int m),aV K (D.int o)] (rV K (eT D.int)) (G5 l m o)):=by
 unfold G5 Km
 exact fnV (N:=["standing", "guard", "place"]) (B:=λI=>[]) T.XL.F Eg rfl λI I I I I I E A G=>(Aq (CH (Gk T.ut (EV (vc (N':=["other", ".1", "guard", "place"]) (Hl (vv 0)) (λC I I I I I I=>Du) (λC I I I I I I=>(aN (Lp Bu ED A (vv 0) (vv 2)) (vv 3) (vv 0) upV))))) upV))
def Ru(G:Int)(E:Int):Option (Fw (List ZLi) Unit):=
 AU (((((some []).bind D7).bind λH=>some (H :: [])).bind D7).bind λI=>some (.nx I)) λJ=>AU (((some E).bind Ex).bind λl=>BZ l J λ(L:(List ZLi)) N=>AU (((some []).bind D7).bind λO=>some (.nx O)) λQ=>AU (BZ L Q λ(R:(List ZLi)) m=>AU ((if (!m.isEmpty)=true then(atI m (-(1:Int))).bind λS=>some (S+(1:Int))else some (0:Int)).bind λT=>some (.nx T)) λo=>BW (λU=>U) ((Kl o (((G - E)+N)+(1:Int))).bind λA=>BZ A R λ(X:(List ZLi)) Y=>BW (λB=>B) ((((some (Y :: [])).bind D7).bind λZ=>GT m Z).bind λΖ=>(HW X Ζ).bind λΞ=>some (.nx Ξ)))) λΟ=>BW (λM=>Ο) (some (.nx ()))) λC=>some (.rt C)
def Nh(l:Int)(m:Int):Option (List ZLi):=Bv (Ru l m)
theorem YZ(T:Txt K mg W)(A:Int)(C:Int):Czd P w base T.aaa 1 ["places", "size"] (spV [aV K (D.int A),aV K (D.int C)] (rN K (oL (eT D.int))) (Nh A C)):=by
 unfold Nh Ru
 exact fnV (N:=["places", "size", "told", "step", "longer", "some", "least", "place"]) (B:=λI=>[]) T.aaa.F Eg rfl λI I I I I I R S l=>(Ah (HS 2 (FY (Ei (Ia DQ) DQ))) (λE=>(Ah (C5 (s0:=E) 2 (λ(m:(List ZLi))=>sy K ((oL (eT D.int)) m)) (Db T.dl (vv 1)) (pgn 3 l) CJ (λU X=>(Ah (D9 4 (FY DQ)) (λG=>(Ah (C5 (s0:=G) 4 (λ(o:(List ZLi))=>sw K ((oL (eT D.int)) o)) (F6 (pv 2)) (pgn 5 l) CJ (λH Y=>(Ah (DW 6 (aN (fb (vv 5)) (FG (Sr (vv 5) (So A4)) A4) A4 upV)) (λI=>(Aq (Do (C5 (s0:=H) 4 (λ(J:(List ZLi))=>sw K ((oL (eT D.int)) J)) (JD T.dl (vv 6) (FG (FG (Ib (vv 0) (vv 1)) (vv 3)) A4)) (pgn 7 l) CJ (λZ ya=>(Aq (Do (NU (pv 4) (LD (vv 5) (Ia (Ei (vv 7) DQ)))) (λL=>∅))))) (λvy=>∅))))))) (λO=>(Aq (Gi (g:=λI=>O) (Si (JT (i:=4) rfl) (Pa 2 (pv 4))) (λI=>∅))))))))) (λQ=>(Aq (LA (pv 2)))))))
def JG(o:Int)(A:Int):Option (Fw Int Unit):=
 AU (some (.nx (1:Int))) λB=>AU (((some A).bind Ex).bind λl=>BZ l B λ(C:Int) m=>BW (λE=>E) (((Oa C (o - m)).bind λG=>Kx G (m+(1:Int))).bind λH=>some (.nx H))) λI=>some (.rt I)
def Go(l:Int)(m:Int):Option Int:=Bv (JG l m)
theorem NW(T:Txt K mg W)(m:Int)(o:Int):Czd P w base T.aab 1 ["places", "size"] (spV [aV K (D.int m),aV K (D.int o)] (rV K D.int) (Go m o)):=by
 unfold Go JG
 exact fnV (N:=["places", "size", "ways", "step"]) (B:=λJ=>[]) T.aab.F Eg rfl λJ J J J J J E G A=>(Ah (DW 2 A4) (λC=>(Ah (C5 (s0:=C) 2 (λ(l:Int)=>sv K (D.int l)) (Db T.dl (vv 1)) (pgn 3 A) CJ (λH I=>(Aq (Do (DW 2 (XM (kE (vv 2) (Ib (vv 0) (vv 3))) (FG (vv 3) A4))) (λJ=>∅))))) (λL=>(Aq (CH (vv 2) upV))))))
def P3(m:(Nat×List ZPi))(l:Int):Option (Fw Int Unit):=
 AU (((if decide ((1:Int)<=l)=true then some (decide (l<=(m.1:Int)))else some false).bind λo=>some (!o)).bind λA=>if A=true then none else some (.nx ())) λG=>(Go (m.1:Int) l).bind λB=>some (.rt B)
def MC(l:(Nat×List ZPi))(m:Int):Option Int:=Bv (P3 l m)
theorem V3(T:Txt K mg W)(m:(Nat×List ZPi))(o:Int):Czd P w base T.aac 2 ["web", "guards"] (spV [aO K ((Hu W) m),aV K (D.int o)] (rV K D.int) (MC m o)):=by
 unfold MC P3
 exact fnV (N:=["web", "guards"]) (B:=λG=>[]) T.aac.F Eg rfl λG G G G G G A C E=>(Ah (Gj (KU (Pi Ut Ut A4 (vv 1) (JU (ob:=Hu W) (g:=λw=>(w.1:Int)) (ec:=D.int) T.gg.cl T.mo (C6 (pv 0)) (λw=>⟨_,rfl,R6 _ _ _⟩)))) L6 (Cq Wk.refl)) (λG=>(Aq (CH (Cy (Bj T.aab (λ(l:Int×Int×Unit)=>NW T l.1 l.2.1) A (Cc (JU (ob:=Hu W) (g:=λw=>(w.1:Int)) (ec:=D.int) T.gg.cl T.mo (C6 (pv 0)) (λw=>⟨_,rfl,R6 _ _ _⟩)) (Cc (vv 1) Bs)) upV)) upV))))
def OK(l:(Nat×List ZPi))(m:Int):Option (Fw (List ZLi) Unit):=
 AU (((MC l m).bind λo=>some (decide ((400:Int) < o))).bind λA=>if A=true then none else some (.nx ())) λG=>(Nh (l.1:Int) m).bind λB=>some (.rt B)
def Ey(l:(Nat×List ZPi))(m:Int):Option (List ZLi):=Bv (OK l m)
theorem UT(T:Txt K mg W)(m:(Nat×List ZPi))(o:Int):Czd P w base T.aad 3 ["web", "guards"] (spV [aO K ((Hu W) m),aV K (D.int o)] (rN K (oL (eT D.int))) (Ey m o)):=by
 unfold Ey OK
 exact fnV (N:=["web", "guards"]) (B:=λI=>[]) T.aad.F Eg rfl λI I I I I I A E G=>(Ah (Gj (o0 (Cy (Bj T.aac (λ(C:(Nat×List ZPi)×Int×Unit)=>V3 T C.1 C.2.1) A (Cn (C6 (pv 0)) arO (Cc (vv 1) Bs)) upV)) (UP T.IO.choose_spec)) L6 (Cq Wk.refl)) (λI=>(Aq (CH (Cy (Bj T.aaa (λ(l:Int×Int×Unit)=>YZ T l.1 l.2.1) A (Cc (JU (ob:=Hu W) (g:=λw=>(w.1:Int)) (ec:=D.int) T.gg.cl T.mo (C6 (pv 0)) (λw=>⟨_,rfl,R6 _ _ _⟩)) (Cc (vv 1) Bs)) upN)) upN))))
end
open L2 L7
open L4 (eT oL oDK oDR)
structure Fp where
 ev:List ZLi
 kd:Str
 tk:List ZLi
 nu:List (ZLi×Int)
 hv:ZLi
 pb:ZLi
noncomputable abbrev fdF(a b c h k m:AL)(kd:Str):List (Str×V):=[("everything",.ref a),("kind",.str kd),("takes",.ref b),("numbers",.ref c),("having",.ref h),("place_bits",.ref k),("known",.ref m)]
def N0(K:AB)(W:Wd)(f:Fp)(H:Hp)(q m:AL):Prop:=∃l a b c h k,H q=some (.ins W.Field l (fdF a b c h k m f.kd))/\OB K H a (oL (eT D.int) f.ev)/\OB K H b (oL (eT D.int) f.tk)/\OB K H c (oDR D.int f.nu)/\OB K H h (oL D.int f.hv)/\OB K H k (oL D.int f.pb)
def Qq(K:AB)(W:Wd)(f:Fp)(H:Hp)(y:V):Prop:=∃q m,y=.ref q/\N0 K W f H q m
section
variable{K:AB}{W:Wd}
theorem N0.keep{f:Fp}{H H':Hp}{q m:AL}(h:N0 K W f H q m)(k:Kp H H'):N0 K W f H' q m:=
 let ⟨l,a,b,c,o,w,A,B,C,E,G,I⟩:=h;⟨l,a,b,c,o,w,k _ _ A,k.ob B,k.ob C,k.ob E,k.ob G,k.ob I⟩
theorem Gy:AtI (Qq K W) W.Field "everything" λv H y=>∃a,y=.ref a/\OB K H a (oL (eT D.int) v.ev):=λv H x ⟨q,m,e,l,a,b,c,h,k,g,o,_⟩=>⟨q,l,_,_,e,g,rfl,a,rfl,o⟩
theorem QR:AtI (Qq K W) W.Field "takes" λv H y=>∃a,y=.ref a/\OB K H a (oL (eT D.int) v.tk):=λv H x ⟨q,m,e,l,a,b,c,h,k,g,w,o,_⟩=>⟨q,l,_,_,e,g,rfl,b,rfl,o⟩
theorem Wg:AtI (Qq K W) W.Field "numbers" λv H y=>∃a,y=.ref a/\OB K H a (oDR D.int v.nu):=by rintro v H x ⟨q,m,e,l,a,b,c,h,k,g,w,A,o,_⟩;exact ⟨q,l,_,_,e,g,rfl,c,rfl,o⟩
theorem ZC:AtI (Qq K W) W.Field "having" λv H y=>∃a,y=.ref a/\OB K H a (oL D.int v.hv):=by rintro v H x ⟨q,m,e,l,a,b,c,h,k,g,w,A,B,o,_⟩;exact ⟨q,l,_,_,e,g,rfl,h,rfl,o⟩
theorem RN:AtI (Qq K W) W.Field "place_bits" λv H y=>∃a,y=.ref a/\OB K H a (oL D.int v.pb):=λv H x ⟨q,m,e,l,a,b,c,h,k,g,w,A,B,C,o⟩=>⟨q,l,_,_,e,g,rfl,k,rfl,o⟩
theorem X2{x:Str}(o:∀a b c h k m kd,(fdF a b c h k m kd).lookup x=none):∀(v:Fp) H y,Qq K W v H y->∃a l fs,y=.ref a/\H a=some (.ins W.Field l fs)/\fs.lookup x=none:=λv H y ⟨q,m,e,l,a,b,c,h,k,g,_⟩=>⟨q,l,_,e,g,o ..⟩
end
open L2 L7
open L4 (Fw AU BZ Bv Je BW AR eT eP eF eU oL oDK oDP oDR HW GT D7 Ex Kl CI F9 Ie Oa Kx MD Bn whF B2 C8 FI F8 inG EqN Bu GE FA GF ED Hv Jg oFK)
section
variable{P:Al}{w:A1}{K:AB}{mg:Str->Option AD}{base:BI}{W:Wd}
def Ik(m:Fp)(o:Int):Option (Fw ZLi Unit):=
 AU ((atI m.ev o).bind λA=>some (.nx A)) λB=>(((some (m.tk.length:Int)).bind Ex).bind λC=>Bn C (λl=>some (!decide (l∈B))) (λl=>some l)).bind λE=>some (.rt E)
def EZ(l:Fp)(m:Int):Option ZLi:=Bv (Ik l m)
theorem RI(T:Txt K mg W)(l:Fp)(m:Int):Czq P w K mg base 1 T.xz.f T.xz.fd ["self", "number"] (spV [λH y=>(Qq K W l) H y,aV K (D.int m)] (rN K (oL D.int)) (EZ l m)):=by
 unfold EZ Ik
 exact fnV (N:=["self", "number", "standing"]) (B:=λG=>[]) T.xz.F Eg rfl λG G G G G G C o E=>(Ah (DW 2 (Hm (F7 T.ce.cl T.ld Gy (pv 0)) (vv 1))) (λG=>(Aq (CH (vc (N':=["place", ".1", ".2", "standing"]) (Db T.dl (Ov T.ss (F7 T.ce.cl T.t0 QR (pv 0)))) (λA G G G G G G=>(HU (Mo Bu o (vv 0) (vv 3)))) (λA G G G G G G=>(vv 0))) upN))))
def Ee(l:Fp)(E:Int):Option (Fw Int Unit):=
 AU ((atI l.ev E).bind λG=>some (.nx G)) λm=>AU (some (.nx (0:Int))) λH=>AU (BZ m H λ(I:Int) A=>BW (λJ=>J) ((atI l.tk A).bind λL=>BZ L I λ(B:Int) C=>BW (λN=>N) (if (!decide (C∈m))=true then BW (λO=>O) (((((G5 m A C).bind λQ=>some (CK Q)).bind λR=>AT l.nu R).bind λo=>F9 (1:Int) o).bind λS=>some (.nx (DE B S)))else some (.nx B)))) λT=>some (.rt T)
def Ca(l:Fp)(m:Int):Option Int:=Bv (Ee l m)
theorem J2(T:Txt K mg W)(o:Fp)(A:Int):Czq P w K mg base 2 T.wS.f T.wS.fd ["self", "number"] (spV [λH y=>(Qq K W o) H y,aV K (D.int A)] (rV K D.int) (Ca o A)):=by
 unfold Ca Ee
 exact fnV (N:=["self", "number", "standing", "told", "guard", "place"]) (B:=λM=>[]) T.wS.F Eg rfl λM M M M M M G C E=>(Ah (DW 2 (Hm (F7 T.ce.cl T.ld Gy (pv 0)) (vv 1))) (λQ=>(Ah (DW 3 A4) (λI=>(Ah (C5 (s0:=I) 3 (λ(l:Int)=>sv K (D.int l)) (Hl (vv 2)) (pgn 4 E) CJ (λJ R=>(Aq (Do (C5 (s0:=J) 3 (λ(L:Int)=>sv K (D.int L)) (Hl (Hm (F7 T.ce.cl T.t0 QR (pv 0)) (vv 4))) (pgn 5 E) CJ (λS U=>(Aq (Do (L5 3 (λ(O:Int)=>sv K (D.int O)) (Mo Bu C (vv 5) (vv 2)) (Aq (Do (NT 3 Xy (L8 A4 (Mn dkR (hu1 C) (F7 T.ce.cl T.v9 Wg (pv 0)) (Gk T.ut (EV (NV T.sK (Cy (Bj T.XL (λ(m:ZLi×Int×Int×Unit)=>US T m.1 m.2.1 m.2.2.1) G (Cc (vv 2) (Cc (vv 4) (Cc (vv 5) Bs))) upV)))))))) (λX=>Wk.refl))) (Cq Wk.refl)) (λY=>∅))))) (λZ=>∅))))) (λyV=>(Aq (CH (vv 3) upV))))))))
def Ef(l:Fp)(A:Int):Option (Fw Int Unit):=
 AU ((atI l.ev A).bind λB=>some (.nx B)) λC=>AU (some (.nx (0:Int))) λE=>AU (BZ (C8 l.pb) E λ(m:Int) o=>BW (λG=>G) ((QE l.tk C o.2).bind λH=>if H=true then BW (λI=>I) ((F9 (1:Int) o.1).bind λJ=>some (.nx (DE m J)))else some (.nx m))) λL=>some (.rt L)
def Cb(l:Fp)(m:Int):Option Int:=Bv (Ef l m)
theorem J3(T:Txt K mg W)(m:Fp)(o:Int):Czq P w K mg base 11 T.wT.f T.wT.fd ["self", "number"] (spV [λH y=>(Qq K W m) H y,aV K (D.int o)] (rV K D.int) (Cb m o)):=by
 unfold Cb Ef
 exact fnV (N:=["self", "number", "standing", "told", "other", "bits"]) (B:=λM=>[]) T.wT.F Eg rfl λM M M M M M C J A=>(Ah (DW 2 (Hm (F7 T.ce.cl T.ld Gy (pv 0)) (vv 1))) (λL=>(Ah (DW 3 A4) (λE=>(Ah (C5 (s0:=E) 3 (λ(G:Int)=>sv K (D.int G)) (XE T.aat (j9 T.ce.cl T.ww RN (pv 0))) (P9 rfl (FS (pgn 4 A) (FS (pgn 5 A) M0))) Ou (λO Q=>(Aq (Do (L5 3 (λ(I:Int)=>sv K (D.int I)) (JV (Cy (Bj T.wl (λ(l:(List ZLi)×ZLi×Int×Unit)=>kO T l.1 l.2.1 l.2.2.1) C (Cn (F7 T.ce.cl T.t0 QR (pv 0)) arO (Cc (vv 2) (Cc (vv 5) Bs))) upV))) (Aq (Do (NT 3 Xy (L8 A4 (vv 4))) (λR=>Wk.refl))) (Cq Wk.refl)) (λS=>∅))))) (λU=>(Aq (CH (vv 3) upV))))))))
end
open L2 L7
open L4 (Fw AU BW Bv AR eT oL oDK oDR B2 GE Hv)
def IR(f:Fp)(n:Int):Option Int:=if decide (f.kd = "one")=true then Ca f n else Cb f n
def E1(f:Fp)(n:Int):Option Int:=if 0<=n/\n < 1000 then IR f n else none
abbrev KL:=List ZPi
def gL(K:AB)(W:Wd)(f:Fp)(m:AL)(kvs:KL):Hp->(AL->Prop)->Hp->V->Prop:=λG S H y=>∃q,y=.ref q/\S=(λb=>b=m)/\N0 K W f (EU H m) q m/\OB K H m (oDK D.int kvs)
theorem Qe{H:Hp}{m:AL}:Kp (EU H m) H:=λa o e=>(G6 e).2
theorem PF{H:Hp}{m:AL}{u:HO}:EU (L2.upd H m u) m=EU H m:=funext λa=>by
 by_cases c:a=m
 ·rw[c,MH,MH]
 ·rw[FZ c,FZ c,AO c]
def RL(K:AB)(m:AL):Rk (Int×KL):=λz G x l=>x=.int z.1/\OB K l m (oDK D.int z.2)
section
variable{X:Cx}{A:List Sl}{o e i:Expr}{pos pos' apos:Pos}{W:Wd}{f:Fp}{m:AL}{kvs:KL}{j:Nat}{ρ:Type}
theorem UL(l:PE X o (DX j))(w:autoParam (A[j]?=some (.g (gL X.K W f m kvs))) yq0q):VE X A o (rP (Qq X.K W)) (some f):=λM B=>l.imp<|by
 rintro L H Q ⟨N,F,⟨G,C⟩,k⟩
 cases B;obtain⟨y,E,I⟩:=C.atG w
 obtain⟨q,rfl,_,J,_⟩:=I H Kp.refl.fr λM M=>rfl
 exact⟨_,E,k _ H .refl λO kp=>⟨q,m,rfl,(J.keep Qe).keep kp⟩⟩
theorem UN(l:Cls X.K W.Field)(w:Cj X.K W.Field "known") (B:PE X o (DX j)) (C:autoParam (A[j]?=some (.g (gL X.K W f m kvs))) yq0q) (hb:autoParam (Bi o "known" X.env (A6 o X.env)=A6 o X.env) yq0q):VE X A (.Attribute o "known" pos) (rO X.K (oDK D.int)) (some kvs):=λM E=>(Ja B hb).imp<|by
 rintro R H Q ⟨S,F,⟨G,I⟩,k⟩
 cases E;obtain⟨y,J,L⟩:=I.atG C
 obtain⟨q,rfl,_,⟨N,a,b,c,h,T,O,_⟩,P⟩:=L H Kp.refl.fr λM M=>rfl
 exact⟨_,J,q,W.Field,N,_,.ref m,rfl,Qe _ _ O,l,w,rfl,k _ H .refl ⟨m,rfl,P⟩⟩
theorem aI(l:Cls X.K W.Field)(w:Cj X.K W.Field "kind") (B:PE X o (DX j)) (C:autoParam (A[j]?=some (.g (gL X.K W f m kvs))) yq0q) (hb:autoParam (Bi o "kind" X.env (A6 o X.env)=A6 o X.env) yq0q):VE X A (.Attribute o "kind" pos) (rV X.K D.str) (some f.kd):=λM E=>(Ja B hb).imp<|by
 rintro P H Q ⟨R,F,⟨G,I⟩,k⟩
 cases E;obtain⟨y,J,L⟩:=I.atG C
 obtain⟨q,rfl,_,⟨N,a,b,c,h,S,O,_⟩,T⟩:=L H Kp.refl.fr λM M=>rfl
 exact⟨_,J,q,W.Field,N,_,.str f.kd,rfl,Qe _ _ O,l,w,rfl,k _ H .refl (.str _)⟩
theorem fD{R:Rk ρ}{Z pv:Option Int}(hu:X.A.units+1 < Bd)(hc:Cls X.K W.Field)(hn:Cj X.K W.Field "known") (ho:PE X o (DX j)) (hi:VE X A i (zIq X) Z) (hv:VE X A e (zIq X) pv) (hj:autoParam (A[j]?=some (.g (gL X.K W f m kvs))) yq0q) (hb:autoParam (Bi o "known" X.env (A6 o X.env)=A6 o X.env) yq0q) (hs:autoParam (Bb e (some (.Subscript (.Attribute o "known" apos) i pos')) pos.line X.env=pure false) yq0q) :
  VS X A (.Assign [.Subscript (.Attribute o "known" apos) i pos'] e pos) R (pv.bind λv=>Z.bind λk=>(B2 kvs k v).bind λI=>some (.nx I)) (λI=>A.set j (.g (gL X.K W f m I))):=λg hg=>by
 obtain⟨v,q1,uF⟩:=AR hg;obtain⟨k,q2,uh⟩:=AR uF;obtain⟨I,q3,q4⟩:=AR uh
 clear hg uF uh
 cases q4;obtain⟨hl,rfl⟩:=Oz q3
 refine(TB hu (Ja ho hb) (hi k q2) (hv v q1) hs).imp λDd σ H ⟨H0,F,⟨G,hs⟩,q⟩=>⟨H0,F,⟨G,hs⟩,λx H1 k1 r1=>?_⟩
 have O:=hs.grow k1;obtain⟨y0,P,g2⟩:=O.atG hj
 obtain⟨qq,rfl,Q,⟨dx,a,b,c,h,k',g3,_⟩,g4⟩:=g2 H1 Kp.refl.fr λM M=>rfl
 refine⟨_,P,qq,W.Field,dx,_,.ref m,rfl,Qe _ _ g3,hc,hn,rfl,H0,_,⟨G,O⟩,λy H2 l r2=>?_⟩;have C:=O.grow l
 have J:G j m:=by rw[Q]
 obtain⟨S,T,u,g5,g6⟩:=dkK.put _ _ _ _ _ _ _ _ (l.ob g4) r2 (l.rd r1) hl;obtain⟨y2,h1,h2⟩:=C.atG hj;rw[P]at h1;cases h1
 obtain⟨v1,f1⟩:=Vw (H':=L2.upd H2 m u) (L:=λa=>a=m) (B:=A.set j (.g (gL X.K W f m (Cm kvs k v)))) C (λa c=>c▸(C.gn j m J).1) (λa o e n=>by rw[AO n];exact e) (λa E c=>c▸S E) (λa ob z c=>c▸T ob z) (λi a M c=>⟨u,by rw[c];exact Ar⟩) (λi t U=>by
  rcases JY U with⟨rfl,rfl,_⟩ | ⟨n2,U⟩
  ·refine .inr ⟨_,P,_,rfl,λY N w3=>?_⟩
   obtain⟨uu,yI⟩:=(l.ob g4).at
   have ne:∀a,a≠m->L2.upd Y m uu a=Y a:=λa c=>AO c
   obtain⟨q',e',_,g8,_⟩:=h2 (L2.upd Y m uu) ⟨λa E e=>by rw[AO (show a≠m from λc=>S E (c▸e))];exact N.tup a E (by rw[AO (show a≠m from λc=>S E (c▸e))];exact e),λa ob z e=>by rw[AO (show a≠m from λc=>T ob z (c▸e))];exact N.frz a ob z (by rw[AO (show a≠m from λc=>T ob z (c▸e))];exact e),λa o w e=>by
    have am:a≠m:=λc=>(C.gn j m J).1 (c▸w)
    rw[AO am]
    exact N.fix a o (.inl w) (by rw[AO am];exact e)⟩ λa w=>by rw[Q]at w;cases w;rw[Ar,yI]
   cases e';rw[PF]at g8;exact⟨qq,rfl,Q,g8,N.ob (w3 m J) g6⟩
  ·exact .inl ⟨U,λa c w=>n2 (C.ds j i a (c▸J) w)⟩)
 exact⟨m,_,rfl,g5,q _ _ _ ⟨G,v1⟩ ((k1.fe.trans l.fe).trans f1)⟩
theorem fC{l:Type}{B:l->List Sl}{q:Option Int}(w:VE X A e (zIq X) q)(C:autoParam (A[0]?=some (.g (gL X.K W f m kvs))) yq0q):VS X A (.Return (some e) pos) (RL X.K m) (q.bind λv=>some (.rt (v,kvs))) B:=
 W9 (g:=λv=>(v,kvs)) w<|by
  rintro v L N F H x O ⟨G,E⟩ kp r
  obtain⟨y,_,I⟩:=E.atG C
  obtain⟨_,_,_,_,J⟩:=I H Kp.refl.fr λM M=>rfl
  cases r;exact⟨rfl,kp.ob J⟩
end
def Ho(f:Fp)(n:Int)(kvs:KL):Option (Fw (Int×KL) Unit):=
 AU (if (!(AT kvs n).isSome)=true then BW (λl=>l) ((if decide (f.kd = "one")=true then Ca f n else Cb f n).bind λv=>(B2 kvs n v).bind λl=>some (.nx l))else some (.nx kvs)) λl=>(AT l n).bind λv=>some (.rt (v,l))
def spL(K:AB)(W:Wd)(f:Fp)(n:Int)(kvs:KL)(z:Option (Int×KL)):Sp:=λvs H Q E=>∃q m r,vs=[.ref q,.int n]/\z=some r/\N0 K W f (EU H m) q m/\OB K H m (oDK D.int kvs)/\∀l,Kp (EU H m) l->OB K l m (oDK D.int r.2)->Q (.int r.1) l
section
variable{P:Al}{w:A1}{K:AB}{mg:Str->Option AD}{base:BI}{W:Wd}
theorem Rh(T:Txt K mg W)(f:Fp)(n:Int)(kvs:KL):Czq P w K mg base 12 T.mt.f T.mt.fd ["self", "number"] (spL K W f n kvs (Bv (Ho f n kvs))):=by
 obtain⟨oc,od,kV,doc,pm,an,r0,ct,tK,Κ,Y,sP⟩:=T.mt.F.ex;rw[Κ]at Y ⊢;have Z:HY ["self", "number"] ["self", "number"] (Bw Ev):=Eg
 refine SA Y sP Z (by rintro vs H Q E ⟨_,_,_,e,_⟩;rw[e];rfl) ?_;rintro A G s H vs Q E S ⟨q,m,r,e,U,hC,hm,hq⟩
 subst e
 have uC:Ho f n kvs=some (.rt r):=by
  unfold Bv at U;split at U
  ·ext
  ·cases U
 have nd:(["self", "number"]:List Str).Nodup:=Z.nd;have O:=S.units
 have fe:∀a o,EU H m a=some o->H a=some o:=λa o z=>(G6 z).2
 have hv:Vs (EU H m) [.g (gL K W f m kvs),sv K (D.int n)] (L2.start ["self", "number"] [.ref q,.int n]) (λa=>∃o,EU H m a=some o) H:=by
  refine⟨λi a=>i=0/\a=m,fe,λa o z=>⟨o,z⟩,by rintro a ⟨o,z⟩;exact ⟨o,fe a o z⟩,λi s L=>?_,λi a ⟨_,z⟩=>?_,λi j a z1 z2=>z1.1.trans z2.1.symm⟩
  ·match i,L with
   | 0,L=>
    cases L;refine⟨_,rfl,_,rfl,λR f' z=>⟨q,rfl,funext λb=>propext ⟨λq=>q.2,λq=>⟨rfl,q⟩⟩,hC.keep λa o e=>?_,f'.ob (z m ⟨rfl,rfl⟩) hm⟩⟩;obtain⟨am,e⟩:=G6 e;rw[FZ am];exact f'.fix a o ⟨o,by assumption⟩ e
   | 1,L=>cases L;exact⟨_,rfl,_,rfl,λR f=>.int _⟩
   | _+2,L=>cases L
  ·subst z
   exact⟨by rintro ⟨o,q⟩;exact (by rw[MH]at q;cases q),hm.at⟩
 have hb:VSs (Qa (CXG P w) P w K mg base ["self", "number"] "Field.linked" (Bw Ev) T.mt.f r0 A G s H E).q [.g (gL K W f m kvs),sv K (D.int n)] (FB Ev) (RL K m) (Ho f n kvs) (λM=>[]):=by
  unfold Ho
  exact Ah (Ln (B:=λ(l:KL)=>[.g (gL K W f m l),sv K (D.int n)]) (JW dkK (hu1 O) (vv 1) (UN T.ce.cl T.ul (pv 0)))
    (Aq (Do (fD (hu1 O) T.ce.cl T.ul (pv 0) (vv 1)
     (aN (Lp GE Hv O (aI T.ce.cl T.wv (pv 0)) Sm)
      (Cy (Mm T.ce.cl T.aav (λ(X:Fp) (z:Int×Unit)=>J2 T X z.1) T.wS.b (UL (pv 0)) (X2 λM M M M M M M=>rfl) (Cc (vv 1) Bs) S upV))
      (Cy (Mm T.ce.cl T.aaw (λ(X:Fp) (z:Int×Unit)=>J3 T X z.1) T.wT.b (UL (pv 0)) (X2 λM M M M M M M=>rfl) (Cc (vv 1) Bs) S upV)) upV)) λl=>Wk.refl))
    (Cq Wk.refl)) λl=>Aq (fC (Mn dkK (hu1 O) (UN T.ce.cl T.ul (pv 0)) (vv 1)))
 have hb:=hb _ uC;refine⟨_,λζ s' σ R D I q=>DP (hb ζ s' σ R D (I.with _) q) (λfl s1 z=>?_) λe s1 z=>z.elim,EU H m,_,hv,by rintro x R kp ⟨h1,h2⟩;ext⟩
 cases fl with
 | next=>obtain⟨C,N,J,z⟩:=z;exact⟨C,N,J.without,z⟩
 | brk=>obtain⟨C,N,J,z⟩:=z;exact⟨C,N,J.without,z⟩
 | cont=>obtain⟨C,N,J,z⟩:=z;exact⟨C,N,J.without,z⟩
 | ret u=>obtain⟨v,C,N,J,r,z⟩:=z;exact⟨v,C,N,J.without,r,z⟩
def VN(l:Int->Int)(kvs:KL):Prop:=(kvs.map (·.1)).Nodup/\∀x∈kvs,0<=x.1/\x.1 < 1000/\x.2=l x.1
noncomputable def kvK(kvs:KL):List (Key×V):=kvs.map λx=>(.inl x.1,.int x.2)
def Y1(P:Al)(w:A1)(m:AL)(o:Int->Int):BI->Prop:=λh=>∃l,VN o l/\CS P w (λG=>none) h m (.dK (kvK l))
theorem Xt{H:Hp}:∀(kvs:KL),KVR K [] H (kvs.map λx=>(Dq x.1,D.int x.2)) (kvK kvs)
 | []=>.nil
 | x :: l=>.cons ⟨rfl,.int _⟩ (Xt l)
theorem cH{H:Hp}:∀{kvs:KL} {us:List (Key×V)},KVR K [] H (kvs.map λx=>(Dq x.1,D.int x.2)) us->us=kvK kvs
 | [],_,h=>by cases h;rfl
 | (a,b) :: l,(k,v) :: us,h=>by
  cases h with
  | cons r t=>
   obtain⟨e,r⟩:=r;dsimp only at e r;subst e;cases r;rw[cH t];rfl
theorem mem_ext{H H':Hp}{h:BI}{m:AL}{A:Int->Int}{kvs:KL}(C:VN A kvs)(B:CS P w H h m (.dK (kvK kvs))):CS P w H' h m (.ext (Y1 P w m A)):=by
 refine⟨⟨kvs,C,B⟩,?_,λI J ⟨l,E,G⟩ k=>⟨l,E,G.stay (λb u c e=>?_) (λI e=>e) λI I e=>e⟩⟩
 ·obtain⟨_,_,_,_,o,_,_,e,_⟩:=B
  exact⟨o,e⟩
 ext
def HJ(P:Al)(w:A1)(K:AB)(W:Wd)(f:Fp)(H:Hp)(y:V):Prop:=∃q m l,y=.ref q/\N0 K W f H q m/\H m=some (.ext (Y1 P w m l))/\∀n z:Int,0<=n->n < 1000->IR f n=some z->l n=z
theorem HJ.q(v:Fp)(H:Hp)(x:V)(h:HJ P w K W v H x):Qq K W v H x:=let ⟨q,m,l,e,h,_⟩:=h;⟨q,m,e,h⟩
theorem Qb{H:Hp}{m a:AL}{o:Ob}(l:∀b,OB K H m b->False)(A:∀xs,H m≠some (.tup xs))(B:∀ob z,H m≠some (.frz ob z))(h:OB K H a o):OB K (EU H m) a o:=by
 have C:a≠m:=λc=>l o (c▸h)
 exact h.keep (λb xs e=>by rw[FZ (show b≠m from λc=>A xs (c▸e))];exact e) (λb ob z e=>by rw[FZ (show b≠m from λc=>B ob z (c▸e))];exact e) (FZ C)
theorem N0.cut{f:Fp}{H:Hp}{q m:AL}{E:BI->Prop}(T:H m=some (.ext E))(h:N0 K W f H q m):N0 K W f (EU H m) q m:=by
 obtain⟨G,a,b,c,I,J,L,N,O,Q,R,S⟩:=h
 have l:∀o,OB K H m o->False:=λo z=>by
  cases o with
  | lst _=>obtain⟨_,e,_⟩:=z;ext
  | dK _=>obtain⟨_,e,_⟩:=z;ext
  | dT _=>obtain⟨_,e,_⟩:=z;ext
  | ins _ _=>obtain⟨_,_,e,_⟩:=z;ext
  | fK _=>obtain⟨_,_,e,_⟩:=z;ext
  | fT _=>obtain⟨_,_,e,_⟩:=z;ext
  | mem _=>obtain⟨_,e,_⟩:=z;lia
 have A:∀C,H m≠some (.tup C):=λC z=>by ext
 have B:∀ob z,H m≠some (.frz ob z):=λob z e=>by ext
 exact⟨G,a,b,c,I,J,by rw[FZ (show q≠m from λe=>by ext)];exact L,Qb l A B N,Qb l A B O,Qb l A B Q,Qb l A B R,Qb l A B S⟩
set_option tactic.hygienic true in
theorem Po(T:Txt K mg W)(f:Fp)(n:Int):Czq P w K mg base 12 T.mt.f T.mt.fd ["self", "number"] (spV [λH y=>HJ P w K W f H y,aV K (D.int n)] (rV K D.int) (E1 f n)):=by
 have Z:∀B:KL,∀z C,IR f n=some z->0<=n->n < 1000->C n=z->VN C B->∃rl,Bv (Ho f n B)=some (z,rl)/\VN C rl:=λB z C I h0 U hl J=>by
  unfold Ho
  cases c:AT B n with
  | some v=>
   refine⟨B,?_,J⟩;show Bv ((AT B n).bind λv=>some (.rt (v,B)))=_;rw[c]
   have hv:v=z:=by
    unfold AT at c
    cases hf:B.find? λkv=>decide (kv.1=n)with
    | none=>ext
    | some x=>
     rw[hf]at c;cases c
     have e1:x.1=n:=by simpa using eD hf
     show x.2=z;rw[(J.2 x (SU hf)).2.2,e1,hl]
   rw[hv];rfl
  | none=>
   have nk:n∉B.map (·.1):=λO=>by
    have:=(L4.C7 B n).mpr O
    ext
   have pe:Cm B n z=B++[(n,z)]:=by
    unfold Cm;rw[qY];intro c;obtain⟨y,hy,h2⟩:=HA.mp c;exact nk (Ax.mpr ⟨y,hy,of_decide_eq_true h2⟩)
   have R:B.length < 1000000:=by
    have U:(B.map (·.1)).length<=((A0 1000).map λ(i:Nat)=>(i:Int)).length:=IH.length_le_of_subset J.1 λx O=>by
     obtain⟨y,hy,rfl⟩:=Ax.mp O;obtain⟨a1,a2,_⟩:=J.2 y hy;exact Ax.mpr ⟨y.1.toNat,B9.mpr (by ext),BG a1⟩
    rw[AF,AF,DS]at U;lia
   refine⟨B++[(n,z)],?_,?_⟩
   ·show Bv (AU (BW (λl=>l) ((IR f n).bind λv=>(B2 B n v).bind λl=>some (.nx l))) _)=_
    rw[I];show Bv (AU (BW (λl=>l) ((B2 B n z).bind λl=>some (.nx l))) _)=_;unfold B2;rw[qX R];show Bv ((AT (Cm B n z) n).bind λv=>some (.rt (v,Cm B n z)))=_;rw[L4.CG,qX rfl,pe];rfl
   ·refine⟨?_,λx O=>?_⟩
    ·rw[Be]
     exact Iy.mpr ⟨J.1,by simp,λa G b hb e=>nk (by grind)⟩
    ·rcases Ak.mp O with h | h
     ·exact J.2 x h
     ext
 have F1:Czq P w K mg base 12 T.mt.f T.mt.fd ["self", "number"] (λvs H Q E=>∃B,spL K W f n B (Bv (Ho f n B)) vs H Q E):=
  ⟨by rintro vs H Q E ⟨B,z⟩;exact (Rh (P:=P) (w:=w) (base:=base) T f n B).len vs H Q E z,by rintro A L s H S us vs Q E hr e0 hb r ⟨B,z⟩;exact (Rh (P:=P) (w:=w) (base:=base) T f n B).run A L s H S us vs Q E hr e0 hb r z⟩
 have F2:=VC (sp2:=λvs H Q E=>∃B q m C z,vs=[.ref q,.int n]/\VN C B/\IR f n=some z/\0<=n/\n < 1000/\C n=z/\N0 K W f (EU H m) q m/\OB K H m (oDK D.int B)/\∀N,Kp (EU H m) N->N m=some (.ext (Y1 P w m C))->Q (.int z) N) F1 (by rintro vs H Q E ⟨_,_,_,_,_,e,_⟩;rw[e];rfl)<|by
  rintro vs H Q E ⟨B,q,m,C,z,e,J,I,h0,U,hl,hC,X,hq⟩
  obtain⟨rl,o1,o2⟩:=Z B z C I h0 U hl J;refine⟨B,q,m,(z,rl),e,o1,hC,X,λN kp ⟨us,u1,u2⟩=>⟨m,.dK us,.ext (Y1 P w m C),u1,trivial,λhp ho=>mem_ext o2 (by rw[<-cH u2];exact ho),hq _ (λa o e=>?_) Ar⟩⟩;rw[AO (G6 e).1];exact kp a o e
 refine iQ F2 (by rintro vs H Q E ⟨_,_,h,_⟩;exact h.1.symm) ?_;rintro vs H Q E ⟨z,I,G,hq⟩
 unfold E1 at I;split at I
 rotate_left
 ·cases I
 rename_i Y
 match vs,G with
 | [y0,y1],G=>
  obtain⟨q,m,C,rfl,hC,X,ϯ⟩:=G.2 0 _ _ rfl rfl H .refl;have r1:RD K H (D.int n) y1:=G.2 1 _ _ rfl rfl H .refl;cases r1;refine⟨m,_,X,trivial,λhp ⟨⟨B,k1,k2⟩,_⟩=>⟨.dK (kvK B),k2,B,q,m,C,z,rfl,k1,I,Y.1,Y.2,ϯ n z Y.1 Y.2 I,by rw[PF];exact hC.cut X,⟨_,Ar,Xt B⟩,λN kp e=>hq _ N (λa o e1=>?_) (.int _)⟩⟩
  by_cases c:a=m
  ·ext
  ·exact kp a o (by rw[PF,FZ c];exact e1)
 | [],G=>exact nomatch G.1
 | [_],G=>exact nomatch G.1
 | _ :: _ :: _ :: _,G=>exact nomatch G.1
end
open L2 L7
open L4 (Fw AU BW BZ Bv AR eT eP oL oDK oDR B2 Bn Ex CI F9 C8)
def nuS(l:List (ZLi×Int))(x:Int×ZLi):List (ZLi×Int):=Cm l x.2 x.1
noncomputable def hvP(k:Int)(h:ZLi)(p:Int):ZLi:=h.set p.toNat (DE (h.getD p.toNat 0) (1 * 2 ^ k.toNat))
def hvS(h:ZLi)(x:Int×ZLi):ZLi:=x.2.foldl (hvP x.1) h
def nuF(l:List ZLi):List (ZLi×Int):=(C8 l).foldl nuS []
def hv0(n:Nat):ZLi:=(CI 0 n).map λG=>0
def hvF(n:Nat)(l:List ZLi):ZLi:=(C8 l).foldl hvS (hv0 n)
def Jc(w:Nat×List ZPi)(g:Int)(kd:Str):Option Fp:=
 (Ey w g).bind λl=>(Gp w).bind λm=>(Bn l (λG=>some true) Fc).bind λo=>
  if l.length<=1000/\w.1<=1000/\∀r∈l,∀x∈r,0<=x/\x < (w.1:Int)then some ⟨l,kd,m,nuF l,hvF w.1 l,o⟩else none
abbrev lF(l:List ZLi)(kd:Str)(m:List ZLi)(o:List (ZLi×Int))(w:ZLi):List (Str×Fv):=[("everything",.fz (oL (eT D.int) l)),("kind",.dat (.str kd)),("takes",.fz (oL (eT D.int) m)),("numbers",.own (oDR D.int o)),("having",.own (oL D.int w))]
abbrev NH:=List (ZLi×Int)×ZLi
def Oy(w:Nat×List ZPi)(g:Int)(kd:Str):Option (Fw Unit Fp):=
 AU ((Ey w g).bind λv=>some (.nx v)) λm=>AU (some (.nx kd)) λk=>AU ((Gp w).bind λv=>some (.nx v)) λo=>AU (some (.nx [])) λA=>
 AU (((Ex (w.1:Int)).bind λl=>Bn l (λG=>some true) (λG=>some (0:Int))).bind λv=>some (.nx v)) λB=>
 AU (BZ (C8 m) (A,B) λ(s:NH) x=>AU ((B2 s.1 x.2 x.1).bind λl=>some (.nx l)) λn=>BW (λh=>(n,h)) (BZ x.2 s.2 λ(h:ZLi) p=>BW (λh=>h) ((F9 (1:Int) x.1).bind λy=>(Wp (λa b=>DE a b) h p y).bind λl=>some (.nx l)))) λs=>
 AU ((Bn m (λG=>some true) Fc).bind λv=>some (.nx v)) λC=>BW (λG=>(⟨m,k,o,s.1,s.2,C⟩:Fp)) (some (.nx ()))
abbrev lH(l:List ZLi)(kd:Str)(m:List ZLi)(o:List (ZLi×Int))(w A:ZLi):List (Str×Fv):=[("everything",.fz (oL (eT D.int) l)),("kind",.dat (.str kd)),("takes",.fz (oL (eT D.int) m)),("numbers",.own (oDR D.int o)),("having",.own (oL D.int w)),("place_bits",.fz (oL D.int A))]
abbrev lG(f:Fp)(l:KL):List (Str×Fv):=[("everything",.fz (oL (eT D.int) f.ev)),("kind",.dat (.str f.kd)),("takes",.fz (oL (eT D.int) f.tk)),("numbers",.own (oDR D.int f.nu)),("having",.own (oL D.int f.hv)),("place_bits",.fz (oL D.int f.pb)),("known",.own (oDK D.int l))]
def nN(K:AB)(W:Wd)(f:Fp)(H:Hp)(y:V):Prop:=∃q m,y=.ref q/\N0 K W f (EU H m) q m/\OB K H m (oDK D.int [])
theorem zk7{fs:List (Str×V)}{a:Str}{l:List Str}(h:fs.map (·.1)=a::l):∃u r,fs=(a,u)::r/\r.map (·.1)=l:=by
 cases fs with
 | nil=>cases h
 | cons x r=>cases h;exact⟨x.2,r,rfl,rfl⟩
theorem qS{fs:List (Str×V)}{a b c d e f g:Str}(h:fs.map (·.1)=[a,b,c,d,e,f,g]):∃l m o w A B C,fs=[(a,l),(b,m),(c,o),(d,w),(e,A),(f,B),(g,C)]:=by
 obtain⟨l,x0,e0,h0⟩:=zk7 h;obtain⟨m,x1,e1,h1⟩:=zk7 h0;obtain⟨o,x2,e2,h2⟩:=zk7 h1;obtain⟨w,x3,e3,h3⟩:=zk7 h2;obtain⟨A,x4,e4,h4⟩:=zk7 h3;obtain⟨B,x5,e5,h5⟩:=zk7 h4;obtain⟨C,x6,e6,h6⟩:=zk7 h5;cases List.map_eq_nil_iff.mp h6;subst e6 e5 e4 e3 e2 e1 e0;exact⟨l,m,o,w,A,B,C,rfl⟩
section
variable{P:Al}{w:A1}{K:AB}{mg:Str->Option AD}{base:BI}{W:Wd}
theorem iR{z:AL}{f:Fp}{A H l:Hp}{S:AL->Prop}(h:pF K W.Field z (lG f []) A S H (.ref z))(B:∀a,S a->A a=none/\∃o,H a=some o)(fr:Fr (λa=>A a=none/\∃o,H a=some o) H l):nN K W f l (.ref z):=by
 obtain⟨_,J,L,fs,G,g⟩:=h;obtain⟨u1,u2,u3,u4,u5,u6,u7,rfl⟩:=qS g.keys;obtain⟨_,N,a,O,Q,R,aO⟩:=g.get "everything" (.fz (oL (eT D.int) f.ev)) rfl;obtain⟨_,T,U⟩:=g.get "kind" (.dat (.str f.kd)) rfl;obtain⟨_,X,b,Y,Z,bS,bO⟩:=g.get "takes" (.fz (oL (eT D.int) f.tk)) rfl;obtain⟨_,e4,c,x4,cS,cz,cO⟩:=g.get "numbers" (.own (oDR D.int f.nu)) rfl;obtain⟨_,e5,d,x5,dS,dz,dO⟩:=g.get "having" (.own (oL D.int f.hv)) rfl;obtain⟨_,e6,e,x6,e0,eS,eO⟩:=g.get "place_bits" (.fz (oL D.int f.pb)) rfl;obtain⟨_,e7,m,x7,I,mz,mO⟩:=g.get "known" (.own (oDK D.int [])) rfl;cases N;cases T;cases X;cases e4;cases e5;cases e6;cases e7;subst O Y x4 x5 x6 x7;cases U
 have ob:∀{x o},A x=none->OB K H x o->OB K l x o:=λ{x o} n h=>by
  obtain⟨u,C⟩:=h.at;exact fr.ob (by rw[C,fr.fix x u ⟨n,u,C⟩ C]) h
 have E:=ob (B m I).1 mO
 have cut:∀{x o},x≠m->OB K l x o->OB K (EU l m) x o:=λ{x o} n h=>h.keep (λb xs e=>by rw[FZ (show b≠m from λc=>(IS E).1 xs (c▸e))];exact e) (λb ob z e=>by rw[FZ (show b≠m from λc=>(IS E).2 ob z (c▸e))];exact e) (FZ n)
 have ne:∀{x},¬S x->x≠m:=λn c=>n (c▸I)
 exact⟨z,m,rfl,⟨L,a,b,c,d,e,by rw[FZ (CO mz)];exact fr.fix z _ ⟨(B z J).1,_,G⟩ G,cut (ne R) (ob Q aO),cut (ne bS) (ob Z bO),cut (λh=>zX (g.dis "numbers" "known" _ _ c rfl rfl rfl (by rw[h];rfl)) ∅) (ob (B c cS).1 cO),cut (λh=>zX (g.dis "having" "known" _ _ d rfl rfl rfl (by rw[h];rfl)) ∅) (ob (B d dS).1 dO),cut (ne eS) (ob e0 eO)⟩,E⟩
theorem ah(T:Txt K mg W)(A:Nat×List ZPi)(g:Int)(kd:Str):Czq P w K mg base 4 T.u8.f T.u8.fd ["self", "web", "guards", "kind"] (gO W.Field [aO K (Hu W A),aV K (D.int g),aV K (D.str kd)] (nN K W) (OZ (Oy A g kd))):=by
 unfold Oy
 exact fnIF (N:=["self", "web", "guards", "kind", "number", "standing", "place"]) (R:=rV K L4.eU) (B:=λz v=>[.g (pF K W.Field z (lG v [])),sz K (Hu W A),sv K (D.int g),sv K (D.str kd),.u,.u,.u]) (Pg:=λz v=>pF K W.Field z (lG v [])) T.u8.F Eg rfl (λM M=>rfl) (λz v O S H Q U Z X=>iR Q U X) (λz v O S H y h=>h.1) λz M M M M M M C Y E=>
  Ah (Z7 T.ce.cl T.ld (pv 0) (Cy (Bj T.aad (λ(z:(Nat×List ZPi)×Int×Unit)=>UT T z.1 z.2.1) C (Cn (C6 (pv 1)) arO (Cc (vv 2) Bs)) upN))) λm=>
  Ah (on (L:=[("everything",.fz (oL (eT D.int) m))]) T.ce.cl T.wv (pv 0) (vv 3)) λk=>
  Ah (Z7 (L:=[("everything",.fz (oL (eT D.int) m)),("kind",.dat (.str k))]) T.ce.cl T.t0 (pv 0) (Cy (Bj T.Tm (λ(z:(Nat×List ZPi)×Unit)=>V2 T z.1) C (Cn (C6 (pv 1)) arO Bs) upN))) λo=>
  Ah (Z8 (L:=[("everything",.fz (oL (eT D.int) m)),("kind",.dat (.str k)),("takes",.fz (oL (eT D.int) o))]) T.ce.cl T.v9 (pv 0) (IL (enc:=D.int) dkR)) λG=>
  Ah (Z8 (L:=[("everything",.fz (oL (eT D.int) m)),("kind",.dat (.str k)),("takes",.fz (oL (eT D.int) o)),("numbers",.own (oDR D.int G))]) T.ce.cl T.wf (pv 0) (Ow (own:=["place"]) (N':=["place", ".1", ".2", ".3", ".4", ".5", ".6", ".7"]) (Jm (by kernel_rfl)) (Db T.dl (JU (ob:=Hu W) (g:=λw=>(w.1:Int)) (ec:=D.int) T.gg.cl T.mo (C6 (pv 1)) (λw=>⟨_,rfl,R6 _ _ _⟩))) (λM M M M M M=>pgn 0 (by decide +kernel:(["place", ".1", ".2", ".3", ".4", ".5", ".6", ".7"]:List Str).Nodup)) LB (λx=>by exact(.drop (.same (.same (.same (.same (.same (.same (.same .nil))))))))) (λx M M M M M M=>Du) (λx M M M M M M=>A4))) λI=>
  Ah (Hk (s0:=(G,I)) (B:=λ(s:NH)=>[.g (pF K W.Field z (lF m k o s.1 s.2)),sz K (Hu W A),sv K (D.int g),sv K (D.str kd),.u,.u,.u]) (XE T.aat (jC (z:=z) (L:=lF m k o G I) T.ce.cl T.ld (pv 0))) (P9 rfl (FS (pgn 4 E) (FS (pgn 5 E) M0))) Ou Wk.refl λs x=>
   Ah (fE (z:=z) (L:=lF m k o s.1 s.2) (l:=s.1) (p2:=⟨0,0,0,0⟩) dkR (hu1 Y) T.ce.cl T.v9 (pv 0) (vv 5) (vv 4)) λn=>
   Aq (Gi (g:=λh=>(n,h)) (Hk (s0:=s.2) (B:=λ(h:ZLi)=>[.g (pF K W.Field z (lF m k o n h)),sz K (Hu W A),sv K (D.int g),sv K (D.str kd),sv K (D.int x.1),sv K (eT D.int x.2),.u]) (Hl (vv 5)) (pgn 6 E) CJ Wk.refl λh p=>
    Aq (Do (fH (z:=z) (L:=lF m k o n h) (l:=h) (p2:=⟨0,0,0,0⟩) Xy T.ce.cl T.wf (pv 0) (vv 6) (L8 A4 (vv 4))) λh=>by exact Ws.wk (.same (.same (.same (.same (.same (.same (.drop .nil))))))))) λh=>by exact Ws.wk (.same (.same (.same (.same (.drop (.drop (.same .nil)))))))) ) λs=>
  Ah (Z7 (L:=lF m k o s.1 s.2) T.ce.cl T.ww (pv 0) (Ow (own:=["standing"]) (N':=["standing", ".1", ".2", ".3", ".4", ".5", ".6", ".7"]) (Jm (by kernel_rfl)) (aF (jC (z:=z) (L:=lF m k o s.1 s.2) T.ce.cl T.ld (pv 0))) (λM M M M M M=>pgn 0 (by decide +kernel:(["standing", ".1", ".2", ".3", ".4", ".5", ".6", ".7"]:List Str).Nodup)) LB (λx=>by exact(.drop (.same (.same (.same (.same (.same (.same (.same .nil))))))))) (λx M M M M M M=>Du) (λx M M M M M M=>Cy (Bj T.Ty (λ(z:ZLi×Unit)=>Ya T z.1) C (Cc (vv 0) Bs) upV)))) λJ=>
  Aq (Gi (g:=λM=>(⟨m,k,o,s.1,s.2,J⟩:Fp)) (Z8 (L:=lH m k o s.1 s.2 J) (ob:=λ(_:Unit)=>oDK D.int []) T.ce.cl T.ul (pv 0) (Ss (r:=some ()) (IL (enc:=D.int) dkK) λv I=>⟨[],rfl,λH x H' z=>z⟩)) λM=>Wk.refl)
end
open L2 L7
open L4 (Fw AU BW BZ Bv AR eT eP oL oDK oDR B2 Bn Ex CI F9 C8 GD)
theorem TZ(k:Int):∀(r h:ZLi),(r.foldl (hvP k) h).length=h.length
 | [],h=>rfl
 | p :: r,h=>by
  show(r.foldl (hvP k) (hvP k h p)).length=_;rw[TZ k r];exact eC
theorem cV:∀(l:List (Int×ZLi)) (h:ZLi),(l.foldl hvS h).length=h.length
 | [],h=>rfl
 | x :: l,h=>by
  show(l.foldl hvS (hvS h x)).length=_;rw[cV l];exact TZ _ _ _
theorem bw:∀(l:List (Int×ZLi)) (h:List (ZLi×Int)),(l.foldl nuS h).length<=h.length+l.length
 | [],h=>AN _
 | x :: l,h=>by
  have m:=bw l (nuS h x)
  have o:(nuS h x).length<=h.length+1:=by
   unfold nuS Cm;split
   ·simp
   ·ext
  show(l.foldl nuS (nuS h x)).length<=_;rw[Am]
  lia
theorem ZI{m:Type}(l:List m)(i:Nat):(C8 l)[i]?=(l[i]?).map λr=>((i:Int),r):=by
 unfold C8;rw[Ab,Lj]
 cases l[i]? <;> simp
set_option tactic.hygienic true in
theorem iS{w:Nat×List ZPi}{g:Int}{kd:Str}{f:Fp}(h:Jc w g kd=some f):OZ (Oy w g kd)=some f:=by
 unfold Jc at h;obtain⟨m,C,h⟩:=AR h;obtain⟨tk,E,h⟩:=AR h;obtain⟨pb,G,h⟩:=AR h;split at h
 rotate_left
 ·cases h
 rename_i H;obtain⟨c1,c2,I⟩:=H;cases h
 have J:Ex (w.1:Int)=some (CI 0 w.1):=by
  unfold Ex;rw[qX ⟨by ext,by lia⟩]
  congr 1
 have L:Bn (CI 0 w.1) (λM=>some true) (λM=>some (0:Int))=some (hv0 w.1):=by
  rw[L4.K1 (f:=λM=>(0:Int)) (P:=λM=>true) (by unfold CI;rw[AF,DS];lia) (λM M=>rfl) λM M M=>rfl];unfold hv0;rw[YR.mpr λM M=>rfl]
 have N:(hv0 w.1).length=w.1:=by unfold hv0 CI;rw[AF,AF,DS]
 obtain⟨s,O,Q⟩:=GD (ρ:=Unit) (l:=C8 m) (s0:=(([]:List (ZLi×Int)),hv0 w.1)) (q:=λ(s:NH) x=>AU ((B2 s.1 x.2 x.1).bind λl=>some (.nx l)) λn=>BW (λh=>(n,h)) (BZ x.2 s.2 λ(h:ZLi) p=>BW (λh=>h) ((F9 (1:Int) x.1).bind λy=>(Wp (λa b=>DE a b) h p y).bind λl=>some (.nx l))))
  (λpre s=>s=(pre.foldl nuS [],pre.foldl hvS (hv0 w.1))) rfl (λpre x s R S T=>by
   subst T;obtain⟨i,U,X⟩:=CD R;have o:=ZI m i;rw[AI U,X]at o;obtain⟨r,A,e⟩:=GM.mp o.symm;subst e
   have Y:pre.length<=1000:=by
    have:=S.length_le;rw[AS]at this
    have h5:(C8 m).length=m.length:=by unfold C8;rw[AF,List.length_zipIdx]
    lia
   have Z:∀p∈r,0<=p/\p < (w.1:Int):=I r (A2 A)
   have xH:i < 1000:=by have:=(AJ.mp A).1;lia
   refine⟨_,?_,rfl⟩
   have p1:B2 (pre.foldl nuS []) r (i:Int)=some (Cm (pre.foldl nuS []) r (i:Int)):=qX (by
    have:=bw pre [];have h0:([]:List (ZLi×Int)).length=0:=rfl
    lia)
   have sh:F9 (1:Int) (i:Int)=some (1 * 2 ^ (i:Int).toNat):=qX ⟨by ext,by lia,by decide⟩
   obtain⟨t,m1,m2⟩:=GD (ρ:=Unit) (l:=r) (s0:=pre.foldl hvS (hv0 w.1)) (q:=λ(h:ZLi) p=>BW (λh=>h) ((F9 (1:Int) (i:Int)).bind λy=>(Wp (λa b=>DE a b) h p y).bind λl=>some (.nx l)))
    (λB h=>h=B.foldl (hvP (i:Int)) (pre.foldl hvS (hv0 w.1))) rfl (λB p h hp M hh=>by
     subst hh;obtain⟨p0,pl⟩:=Z p hp;refine⟨_,?_,rfl⟩;rw[sh];show BW (λh=>h) ((Wp _ _ p _).bind λl=>some (.nx l))=_;unfold Wp;rw[qX ⟨p0,by rw[TZ,cV,N];ext⟩,GX]
     rfl)
   symm;rw[p1];show BW (λh=>(_,h)) (BZ r (pre.foldl hvS (hv0 w.1)) _)=_;rw[m1,m2,GX,GX]
   rfl)
 unfold Oy;rw[C,E,J];show OZ (AU ((Bn (CI 0 w.1) _ _).bind λv=>some (.nx v)) _)=_;rw[L];show OZ (AU (BZ (C8 m) ([],hv0 w.1) _) _)=_;rw[O,Q];show OZ (AU ((Bn m _ _).bind λv=>some (.nx v)) _)=_;rw[G];rfl
section
variable{P:Al}{w:A1}{K:AB}{mg:Str->Option AD}{base:BI}{W:Wd}
theorem fy(T:Txt K mg W)(N:Nat×List ZPi)(g:Int)(kd:Str):Czq P w K mg base 4 T.u8.f T.u8.fd ["self", "web", "guards", "kind"] (gO W.Field [aO K (Hu W N),aV K (D.int g),aV K (D.str kd)] (HJ P w K W) (Jc N g kd)):=by
 refine VC (ah T N g kd) (λvs H Q E ⟨x,X,A,v,e,_,_,h,_⟩=>by rw[e,Am,<-h.1];rfl) λvs H Q E ⟨x,X,A,v,e,hx,hv,ha,hq⟩=>⟨x,X,A,v,e,hx,iS hv,ha,λO kp R=>?_⟩
 obtain⟨q,m,e1,hC,us,Y,u2⟩:=R O Kp.refl.fr;cases e1;cases u2;obtain⟨xW,a,b,c,d,k,B,_⟩:=id hC;obtain⟨J,B⟩:=G6 B
 have same:∀{C:Hp},nN K W v C (.ref x)->C x=O x->N0 K W v (EU C m) x m/\C m=some (.dK []):=λ{C} ⟨q',m',e2,S,wV,w1,w2⟩ eq=>by
  cases e2;obtain⟨dx2,a2,b2,c2,d2,k2,L,n1⟩:=id S;obtain⟨_,L⟩:=G6 L;rw[eq,B]at L;cases L;cases w2;trivial
 have qn:EU H x x=none:=MH
 have mn:EU H x m=none:=by
  cases e3:EU H x m with
  | none=>rfl
  | some o=>
   have:=(same (R (L2.upd O m (.own 0)) ⟨λc Z e=>by rw[AO (show c≠m from λz=>by ext)];exact e,λc ob u e=>by rw[AO (show c≠m from λz=>by ext)];exact e,λc o w e=>by rw[AO (show c≠m from λz=>by ext)];exact e⟩) (AO J)).2;rw[Ar]at this;cases this
 refine⟨m,.dK [],.ext (Y1 P w m λn=>(IR v n).getD 0),Y,trivial,λhp ho=>mem_ext (kvs:=[]) ⟨GV,λM z=>nomatch z⟩ ho,hq _ (λc o e=>?_) λH3 G=>?_⟩
 ·rw[AO (show c≠m from λz=>by ext)]
  exact kp c o e
 ·have U:H3 m=some (.ext (Y1 P w m λn=>(IR v n).getD 0)):=G.fix m _ ⟨mn,_,Ar⟩ Ar
  have I:=same (R (L2.upd H3 m (.dK [])) ⟨λc Z e=>?_,λc ob u e=>?_,λc o w e=>?_⟩) (by
   rw[AO J]
   exact(G.fix x _ ⟨qn,_,by rw[AO J];exact B⟩ (by rw[AO J];exact B)).trans B.symm)
  ·rw[PF]at I
   exact⟨x,m,_,rfl,I.1.keep Qe,U,λn z M M hz=>by rw[hz];rfl⟩
  ·have l:c≠m:=λz=>by lia
   rw[AO l];exact G.tup c Z (by rw[AO l];exact e)
  ·have l:c≠m:=λz=>by lia
   rw[AO l];exact G.frz c ob u (by rw[AO l];exact e)
  ·by_cases l:c=m
   ·rw[l,Y]at e
    cases e;rw[l];exact Ar
   ·rw[AO l]
    exact G.fix c o ⟨w.1,o,by rw[AO l];exact e⟩ (by rw[AO l];exact e)
end
section
variable{W:Wd}{X:Cx}{A:List Sl}{a b c:Expr}{pc pos:Pos}{k':Nat}
theorem aU(T:Txt X.K X.mg W){pa:Option (Nat×List ZPi)}{B:Option Int}{C:Option Str}(G:FC (k'+1) X.A)(H:VE X A a (rO X.K (Hu W)) pa)(hb:VE X A b (zIq X) B)(I:VE X A c (rV X.K D.str) C)(J:autoParam (4<=k') yq1q)(L:autoParam (X.xe=λM M=>False) yq0q)(N:autoParam (Gl X "Field") yq0q) (E:autoParam (AH [a,b,c] X.env=(false,A6 a X.env) :: AH [b,c] X.env) yq0q) (O:autoParam (AH [b,c] X.env=(false,A6 b X.env) :: AH [c] X.env) yq0q) (o:autoParam (AH [c] X.env=(false,A6 c X.env) :: AH [] X.env) yq0q) (Q:autoParam ((Cu pos (AH [b,c] X.env)).any (·.1)=false) yq0q) :
  VE X A (.Call (.Name "Field" pc) [a,b,c] [] pos) (rF (HJ X.prog X.w X.K W)) (pa.bind λx=>B.bind λy=>C.bind λz=>Jc x y z):=by
 have h:=aJ (X:=X) (A:=A) (pos:=pos) (pc:=pc) (x:="Field") (k':=k') (Pd:=HJ X.prog X.w X.K W) T.ce.mk' (λ(z:(Nat×List ZPi)×Int×Str×Unit)=>fy (P:=X.prog) (w:=X.w) (base:=X.base) T z.1 z.2.1 z.2.2.1) T.u8.b T.ce.m G (Cn H arO (Cc hb (Cc I Bs o) O) E) J L N (by rfl) E Q
 refine Ss h λv l=>?_
 obtain⟨x,R,l⟩:=AR l;obtain⟨y,S,l⟩:=AR l;obtain⟨z,U,Y⟩:=AR l;ext
end
section
variable{P:Al}{w:A1}{K:AB}{W:Wd}
theorem AtI.of{l:Type}{Pd m:l->Hp->V->Prop}{C:AL}{f:Str}{Q:l->Hp->V->Prop}(s:∀v H x,Pd v H x->m v H x)(h:AtI m C f Q):AtI Pd C f Q:=λv H x q=>h v H x (s v H x q)
theorem Il:AtI (HJ P w K W) W.Field "everything" λv H y=>∃a,y=.ref a/\OB K H a (oL (eT D.int) v.ev):=AtI.of HJ.q Gy
theorem ZD:AtI (HJ P w K W) W.Field "having" λv H y=>∃a,y=.ref a/\OB K H a (oL D.int v.hv):=AtI.of HJ.q ZC
theorem jc{x:Str}(l:∀a b c h k m kd,(fdF a b c h k m kd).lookup x=none):∀(v:Fp) H y,HJ P w K W v H y->∃a o fs,y=.ref a/\H a=some (.ins W.Field o fs)/\fs.lookup x=none:=λv H y h=>X2 l v H y (HJ.q v H y h)
end
open L2 L7
open L4 (Fw AU BZ Bv Je BW AR eT eP eF eU oL oDK oDP oDR HW GT D7 Ex Kl CI F9 Ie Oa Kx MD Bn whF B2 C8 FI F8 inG EqN Bu GE FA GF ED Hv Jg oFK)
section
variable{P:Al}{w:A1}{K:AB}{mg:Str->Option AD}{base:BI}{W:Wd}
def Ht(l:Fp)(m:Int)(o:Int):Option (Fw Int Unit):=
 ((E1 l m).bind λA=>(atI l.hv o).bind λB=>some (BE A B)).bind λC=>some (.rt C)
def EC(l:Fp)(m:Int)(o:Int):Option Int:=Bv (Ht l m o)
theorem Pp(T:Txt K mg W)(l:Fp)(m:Int)(o:Int):Czq P w K mg base 13 T.xL.f T.xL.fd ["self", "number", "call"] (spV [λH y=>(HJ P w K W l) H y,aV K (D.int m),aV K (D.int o)] (rV K D.int) (EC l m o)):=by
 unfold EC Ht
 exact fnV (N:=["self", "number", "call"]) (B:=λJ=>[]) T.xL.F Eg rfl λJ J J J J J A G I=>(Aq (CH (LF (Cy (Mm T.ce.cl T.aay (λ(C:Fp) (E:Int×Unit)=>Po T C E.1) T.mt.b (IK (P:=HJ P w K W) (pv 0)) (jc λJ J J J J J J=>rfl) (Cc (vv 1) Bs) A upV)) (Hm (F7 T.ce.cl T.wf ZD (pv 0)) (vv 2))) upV))
def Ig(B:Fp)(C:Int):Option (Fw (List ZPi) Unit):=
 AU (some (.nx [])) λH=>AU ((He C).bind λI=>BZ I H λ(E:(List ZPi)) l=>AU (((EZ B l).bind λJ=>Bn J (λm=>((EC B l m).bind λL=>some (BE L C)).bind λN=>some (decide (N=(0:Int)))) (λm=>some m)).bind λO=>some (.nx O)) λG=>BW (λo=>o) (if (!G.isEmpty)=true then BW (λQ=>Q) ((atI G (0:Int)).bind λR=>(B2 E l R).bind λA=>some (.nx A))else some (.nx E))) λS=>some (.rt S)
def DZ(l:Fp)(m:Int):Option (List ZPi):=Bv (Ig l m)
theorem Lq(T:Txt K mg W)(A:Fp)(C:Int):Czd P w base T.BT 14 ["field", "left"] (spV [λH y=>(HJ P w K W A) H y,aV K (D.int C)] (rN K (oDK D.int)) (DZ A C)):=by
 unfold DZ Ig
 exact fnV (N:=["field", "left", "told", "number", "lost"]) (B:=λM=>[]) T.BT.F Eg rfl λM M M M M M l E I=>(Ah (D9 2 (IL dkK)) (λJ=>(Ah (C5 (s0:=J) 2 (λ(L:(List ZPi))=>sw K ((oDK D.int) L)) (Pb (Cy (Bj T.wP (λ(O:Int×Unit)=>Rg T O.1) l (Cc (vv 1) Bs) upN))) (pgn 3 I) CJ (λU X=>(Ah (UF (i:=4) (vd (N':=["call", "field", "left", ".3", "number", ".5"]) (Pb (Cy (Mm T.ce.cl T.aax (λ(m:Fp) (o:Int×Unit)=>RI T m o.1) T.xz.b (ou HJ.q (IK (P:=HJ P w K W) (pv 0))) (X2 λM M M M M M M=>rfl) (Cc (vv 3) Bs) l upN))) (λQ M M M M M M=>(HU (Lp Bu ED E (LF (Cy (Mm T.ce.cl T.aaz (λ(m:Fp) (G:Int×Int×Unit)=>Pp T m G.1 G.2.1) T.xL.b (IK (P:=HJ P w K W) (pv 1)) (jc λM M M M M M M=>rfl) (Cc (vv 4) (Cc (vv 0) Bs)) l upV)) (vv 2)) A4))) (λQ M M M M M M=>(vv 0)))) (λY=>(Aq (Do (L5 2 (λ(R:(List ZPi))=>sw K ((oDK D.int) R)) (fc (Dk (pv 4))) (Aq (Do (FR dkK (hu1 E) (pv 2) (vv 3) (Hm (Dk (pv 4)) A4)) (λZ=>Wk.refl))) (Cq Wk.refl)) (λS=>∅))))))) (λvt=>(Aq (LA (pv 2)))))))
def P4(m:Fp):Option (Fw (List (Int×ZPi)) Unit):=
 AU (some (.nx [])) λH=>AU (((F9 (1:Int) (m.ev.length:Int)).bind λI=>some (I - (1:Int))).bind λJ=>some (.nx J)) λE=>AU (some (.nx (1:Int))) λo=>AU ((DZ m E).bind λL=>some (.nx L)) λN=>AU (whF (λ(l:(List (Int×ZPi))×Int×Int×(List ZPi))=>some (!l.2.2.2.isEmpty)) (λ(l:(List (Int×ZPi))×Int×Int×(List ZPi))=>AU (BZ (l.2.2.2.map (·.1)) (l.1,l.2.1) λ(G:(List (Int×ZPi))×Int) A=>AU (((AT l.2.2.2 A).bind λO=>some (l.2.2.1,O)).bind λQ=>(B2 G.1 A Q).bind λR=>some (.nx R)) λS=>BW (λT=>(S,T)) ((F9 (1:Int) A).bind λU=>some (.nx (Es G.2 U)))) λB=>AU (some (.nx (l.2.2.1+(1:Int)))) λX=>BW (λY=>(B.1,B.2,X,Y)) ((DZ m B.2).bind λZ=>some (.nx Z))) wN (H,E,o,N)) λC=>some (.rt C.1)
def Kr(l:Fp):Option (List (Int×ZPi)):=Bv (P4 l)
theorem ag(T:Txt K mg W)(o:Fp):Czd P w base T.aae 15 ["field"] (spV [λH y=>(HJ P w K W o) H y] (rN K (oDK (eP D.int D.int))) (Kr o)):=by
 unfold Kr P4
 exact fnV (N:=["field", "told", "left", "stage", "falling", "number"]) (B:=λM=>[]) T.aae.F Eg rfl λM M M M M M G I R=>(Ah (D9 1 (IL dkK)) (λS=>(Ah (DW 2 (Ib (L8 A4 (Ov T.ss (F7 T.ce.cl T.ld Il (pv 0)))) A4)) (λU=>(Ah (DW 3 A4) (λA=>(Ah (D9 4 (Cy (Bj T.BT (λ(J:Fp×Int×Unit)=>Lq T J.1 J.2.1) G (Cn (IK (P:=HJ P w K W) (pv 0)) arP (Cc (vv 2) Bs)) upN))) (λX=>(Ah (PZ (s0:=(S,U,A,X)) (B:=(λ(m:(List (Int×ZPi))×Int×Int×(List ZPi))=>[.q λM H y=>(HJ P w K W o) H y,sw K ((oDK (eP D.int D.int)) m.1),sv K (D.int m.2.1),sv K (D.int m.2.2.1),sw K ((oDK D.int) m.2.2.2),.u])) wN Wk.refl (λC=>(aW (Ej (pv 4)))) (λC=>(Ah (om 4 (fG (s0:=(C.1,C.2.1)) 1 (λ(E:(List (Int×ZPi))×Int)=>sw K ((oDK (eP D.int D.int)) E.1)) 2 (λ(E:(List (Int×ZPi))×Int)=>sv K (D.int E.2)) (j8 (pv 4)) (pgn 5 R) CJ (λtI tJ=>(Ah (FR dkK (hu1 I) (pv 1) (vv 5) (HV (vv 3) (aR (hu1 I) (Dk (pv 4)) (vv 5)))) (λY=>(Aq (Gi (g:=λL=>(Y,L)) (NT 2 mV (L8 A4 (vv 5))) (λL=>∅)))))))) (λO=>(Ah (NT 3 mX A4) (λZ=>(Aq (Gi (g:=λQ=>(O.1,O.2,Z,Q)) (D9 4 (Cy (Bj T.BT (λ(l:Fp×Int×Unit)=>Lq T l.1 l.2.1) G (Cn (IK (P:=HJ P w K W) (pv 0)) arP (Cc (vv 2) Bs)) upN))) (λQ=>Wk.refl))))))))) (λs21=>(Aq (LA (pv 1)))))))))))))
def Hq(m:Fp)(o:(List (Int×ZPi))):Option (Fw Int Unit):=
 ((((some (m.ev.length:Int)).bind Ex).bind λA=>Bn A (λl=>some (!(AT o l).isSome)) (λl=>F9 (1:Int) l)).bind λB=>some (UY B)).bind λC=>some (.rt C)
def Ez(l:Fp)(m:(List (Int×ZPi))):Option Int:=Bv (Hq l m)
theorem Pl(T:Txt K mg W)(l:Fp)(m:(List (Int×ZPi))):Czd P w base T.aaf 1 ["field", "gone"] (spV [λH y=>(HJ P w K W l) H y,aO K ((oDK (eP D.int D.int)) m)] (rV K D.int) (Ez l m)):=by
 unfold Ez Hq
 exact fnV (N:=["field", "gone"]) (B:=λG=>[]) T.aaf.F Eg rfl λG G G G G G C o E=>(Aq (CH (kB T.aaE (EV (vc (N':=["number", ".1", "gone"]) (Db T.dl (Ov T.ss (F7 T.ce.cl T.ld Il (pv 0)))) (λA G G G G G G=>(HU (JW dkK (hu1 o) (vv 0) (C6 (pv 2))))) (λA G G G G G G=>(L8 A4 (vv 0)))))) upV))
def Nd(B:(Nat×List ZPi))(C:Int)(E:Str):Option (Fw (List ZLi) Unit):=
 AU ((Jc B C E).bind λG=>some (.nx G)) λl=>(((((((Kr l).bind λH=>some (H,())).bind λI=>some (l,I)).bind λo=>Ez o.1 o.2.1).bind λJ=>some (J,())).bind λL=>He L.1).bind λm=>Bn m (λA=>some true) (λA=>atI l.ev A)).bind λN=>some (.rt N)
def Hg(l:(Nat×List ZPi))(m:Int)(o:Str):Option (List ZLi):=Bv (Nd l m o)
theorem Ri(T:Txt K mg W)(m:(Nat×List ZPi))(o:Int)(A:Str):Czd P w base T.Cl 16 ["web", "guards", "kind"] (spV [aO K ((Hu W) m),aV K (D.int o),aV K (D.str A)] (rN K (oL (eT D.int))) (Hg m o A)):=by
 unfold Hg Nd
 exact fnV (N:=["web", "guards", "kind", "field"]) (B:=λM=>[]) T.Cl.F Eg rfl λM M M M M M l I J=>(Ah (fA 3 (aU T l (C6 (pv 0)) (vv 1) (vv 2))) (λL=>(Aq (CH (vc (N':=["number", ".1", ".2", ".3", "field"]) (Pb (Bj T.wP (λE=>Rg T E.1) l (Cc (Bj T.aaf (λC=>Pl T C.1 C.2.1) l (Cn (IK (P:=HJ P w K W) (pv 3)) arP (Cn (EV (Cy (Bj T.aae (λ(G:Fp×Unit)=>ag T G.1) l (Cn (IK (P:=HJ P w K W) (pv 3)) arP Bs) upN))) arO Bs)) upV) Bs) upN)) (λH M M M M M M=>Du) (λH M M M M M M=>(Hm (F7 T.ce.cl T.ld Il (pv 4)) (vv 0)))) upN))))
def HH(l:ZLi):Option (Fw Bool Unit):=
 AU (if (!true)=true then some (.rt false)else some (.nx ())) λG=>((Bn l (λm=>some true) (λm=>if true=true then some (!false)else some false)).bind λo=>some (o.all id)).bind λA=>some (.rt A)
def EX(l:ZLi):Option Bool:=Bv (HH l)
theorem OY(T:Txt K mg W)(l:ZLi):Czd P w base T.aak 1 ["found"] (spV [aV K ((eT D.int) l)] (rV K D.bl) (EX l)):=by
 unfold EX HH
 exact fnV (N:=["found"]) (B:=λG=>[]) T.aak.F Eg rfl λG G G G G G o A C=>(Ah (Gj (KU (JV (XI (pa:=some l) (r:=true) tyT Y7 rH T.aao T.ut (vv 0)))) (Aq (CH KS upV)) (Cq Wk.refl)) (λG=>(Aq (CH (V0 T.aap (EV (vc (N':=["place", ".1"]) (Hl (vv 0)) (λm G G G G G G=>Du) (λm G G G G G G=>(XR (XI (pa:=some m) (r:=true) tyI iN rT T.aao T.aaq (vv 0)) (Vy (XG (XI (pa:=some m) (r:=false) tyI cU rW T.aao T.aaB (vv 0))))))))) upV))))
def Ii(X:(List ZPi))(Y:Int)(Z:(List ZLi))(C4:Str):Option (Fw (List (ZLi×Int)×List BK) Unit):=
 AU (some (.nx [])) λv1=>AU (BZ Z v1 λ(s2:(List BK)) o=>BW (λuZ=>uZ) (((some Y).bind Ex).bind λy9=>BZ y9 s2 λ(S:(List BK)) A=>BW (λvp=>vp) (if (!decide (A∈o))=true then BW (λwD=>wD) ((D3 X o A C4).bind λuy=>(B2 S (o,A) uy).bind λyk=>some (.nx yk))else some (.nx S)))) λB=>AU (some (.nx [])) λδ=>AU (some (.nx (0:Int))) λwH=>AU (some (.nx (-(1:Int)))) λvM=>AU (whF (λ(l:Int×Int×(List (ZLi×Int)))=>some (!decide (l.1=(l.2.2.length:Int)))) (λ(l:Int×Int×(List (ZLi×Int)))=>AU (some (.nx (l.2.2.length:Int))) λε=>AU (some (.nx (l.2.1+(1:Int)))) λm=>AU (((some []).bind D7).bind λvx=>some (.nx vx)) λη=>AU (BZ (B.map (·.1)) η λ(T:(List (ZLi×Int))) C=>AU (((AT B C).bind λE=>Bn E (λU=>some true) (λU=>some (decide (((AT l.2.2 U).getD m) < m)))).bind λY'=>some (.nx Y')) λG=>BW (λyd=>yd) ((if (!(AT l.2.2 C.1).isSome)=true then some (G.all id)else some false).bind λH=>if H=true then BW (λI=>I) ((HW T C).bind λJ=>some (.nx J))else some (.nx T))) λL=>BW (λyX=>(ε,m,yX)) (BZ L.reverse l.2.2 λ(N:(List (ZLi×Int))) O=>BW (λQ=>Q) ((B2 N O.1 m).bind λR=>some (.nx R)))) wN (vM,wH,δ)) λyU=>some (.rt (yU.2.2,B))
def FU(l:(List ZPi))(m:Int)(o:(List ZLi))(A:Str):Option (List (ZLi×Int)×List BK):=Bv (Ii l m o A)
theorem RG(T:Txt K mg W)(A:(List ZPi))(C:Int)(E:(List ZLi))(G:Str):Czd P w base T.aan 4 ["ties", "places", "some", "kind"] (spV [aO K ((oL (eP D.int D.int)) A),aV K (D.int C),aO K ((oL (eT D.int)) E),aV K (D.str G)] (rFB K) (FU A C E G)):=by
 unfold FU Ii
 exact fnV (N:=["ties", "places", "some", "kind", "behind", "standing", "call", "fallen_v", "turn", "last", "fresh", "spot", "struck"]) (B:=λM=>[]) T.aan.F Eg rfl λM M M M M M R l m=>(Ah (fB 4) (λS=>(Ah (C5 (s0:=S) 4 (λ(U:(List BK))=>.g (pB K U)) (Sk (pv 2)) (pgn 5 m) CJ (λX x3=>(Aq (Do (C5 (s0:=X) 4 (λ(Y:(List BK))=>.g (pB K Y)) (Db T.dl (vv 1)) (pgn 6 m) CJ (λs4 x5=>(Aq (Do (L5 4 (λ(Z:(List BK))=>.g (pB K Z)) (Mo Bu l (vv 6) (vv 5)) (Aq (Do (aA l (pv 4) (HV (vv 5) (vv 6)) (Cy (Bj T.aam (λ(o:(List ZPi)×ZLi×Int×Str×Unit)=>RH T o.1 o.2.1 o.2.2.1 o.2.2.2.1) R (Cn (C6 (pv 0)) arO (Cc (vv 5) (Cc (vv 6) (Cc (vv 3) Bs)))) upN))) (λwD=>Wk.refl))) (Cq Wk.refl)) (λvp=>∅))))) (λuZ=>∅))))) (λwC=>(Ah (j7 4 (D9 7 (IL dkR))) (λδ=>(Ah (DW 8 A4) (λwH=>(Ah (DW 9 (So A4)) (λvM=>(Ah (PZ (s0:=(vM,wH,δ)) (B:=(λ(H:Int×Int×(List (ZLi×Int)))=>[sz K ((oL (eP D.int D.int)) A),sv K (D.int C),sz K ((oL (eT D.int)) E),sv K (D.str G),.q (zB K wC),.u,.u,sw K ((oDR D.int) H.2.2),sv K (D.int H.2.1),sv K (D.int H.1),.u,.u,.u])) wN Wk.refl (λO=>(jG Bu ED l (vv 9) (UM T.ss (Ej (pv 7))))) (λO=>(Ah (DW 9 (UM T.ss (Ej (pv 7)))) (λε=>(Ah (DW 8 (FG (vv 8) A4)) (λxj=>(Ah (D9 10 (FY DQ)) (λη=>(Ah (C5 (s0:=η) 10 (λ(I:(List (ZLi×Int)))=>sw K ((oL (eP (eT D.int) D.int)) I)) (XF (pv 4)) (pgn 11 m) CJ (λθ xh=>(Ah (UF (i:=12) (vd (N':=["one", ".1", ".2", ".3", ".4", ".5", ".6", ".7", "fallen_v", "turn", ".10", ".11", ".12", ".13"]) (aF (UH l (pv 4) (vv 11))) (λuQ M M M M M M=>Du) (λuQ M M M M M M=>(jE (fS dkR (λM=>.inr ⟨_,rfl⟩) (hu1 l) (Ej (pv 8)) (vv 0) (vv 9)) (vv 9))))) (λv58=>(Aq (Do (L5 10 (λ(J:(List (ZLi×Int)))=>sw K ((oL (eP (eT D.int) D.int)) J)) (YY (Sh (JW dkR (hu1 l) (L9 (vv 11)) (Ej (pv 7))) (Ot (JV (V0 T.aap (Dk (pv 12))))))) (Aq (Do (NU (pv 10) (vv 11)) (λv73=>Wk.refl))) (Cq Wk.refl)) (λyd=>∅))))))) (λs80=>(Aq (Gi (g:=λQ=>(ε,xj,Q)) (Si (JT (i:=10) rfl) (C5 (s0:=O.2.2) 7 (λ(L:(List (ZLi×Int)))=>sw K ((oDR D.int) L)) (aE T.aau (fO (pv 10))) (pgn 11 m) CJ (λs84 x85=>(Aq (Do (FR dkR (hu1 l) (pv 7) (L9 (vv 11)) (vv 8)) (λv87=>∅)))))) (λQ=>∅))))))))))))) (λyU=>(Aq (Z5 (pv 7) (pv 4)))))))))))))))
def bL(o:ZLi):Option (Fw Bool Unit):=
 AU ((Bt o (0:Int)).bind λx7=>some (.nx x7)) λT=>AU (some (.nx (((2:Int)+(T % 5))+(if (decide (((T / 84) % 8)=(1:Int)))=true then 1 else 0)))) λl=>AU ((Fd o (3:Int) l).bind λuA=>some (.nx uA)) λm=>AU (((FT o m).bind λtU=>YU l tU).bind λMT=>some (.nx MT)) λB=>AU ((((Bt o (1:Int)).bind λvx=>((((some ((3:Int) :: ((5:Int) :: []))).bind D7).bind λC=>atI C (if (decide (l < (6:Int)))=true then 1 else 0)).bind λU=>some (if U < l then U else l)).bind λy8=>MD vx y8).bind λyY=>some ((1:Int)+yY)).bind λwj=>some (.nx wj)) λE=>AU ((((some (("one" : Str) :: (("all" : Str) :: []))).bind D7).bind λG=>((Bt o (2:Int)).bind λH=>some (H % 2)).bind λI=>atI G I).bind λJ=>some (.nx J)) λL=>AU ((Ff l E).bind λwA=>some (.nx wA)) λX=>AU ((FU m l X L).bind λN=>some (.nx N)) λO=>AU ((Bn X (λQ=>some (!(AT O.1 Q).isSome)) (λQ=>some Q)).bind λR=>some (.nx R)) λA=>AU ((Hg B E L).bind λς=>some (.nx ς)) λS=>AU ((if (!true)=true then some true else if (!decide (S=A))=true then some true else((Bn S (λY=>some true) (λY=>EX Y)).bind λυ=>some (υ.all id)).bind λχ=>some (!χ)).bind λψ=>if ψ=true then some (.rt false)else some (.nx ())) λM=>AU (BZ (O.2.map (·.1)) () λ(_:Unit) Z=>BW (λM=>()) ((if (inG Z.1 A)=true then(((AT O.2 Z).bind λω=>Bn ω (λvB=>some true) (λvB=>some (inG vB A))).bind λϐ=>some (ϐ.any id)).bind λϑ=>some (!ϑ)else some false).bind λϒ=>if ϒ=true then some (.rt false)else some (.nx ()))) λM=>AU (((some []).bind D7).bind λϓ=>(HW S ϓ).bind λϔ=>some (.nx ϔ)) λϕ=>(((Hg B E L).bind λϗ=>some (decide (ϗ=A))).bind λϘ=>if Ϙ=true then some (decide (B.2=m))else some false).bind λϙ=>some (.rt ϙ)
def Xl(l:ZLi):Option Bool:=Bv (bL l)
theorem pC(T:Txt K mg W)(Q:ZLi):Czd P w base T.tz 17 ["script"] (spV [aV K (eF Q)] (rV K D.bl) (Xl Q)):=by
 unfold Xl bL
 exact fnV (N:=["script", "head", "places", "ties", "web", "guards", "kind", "some", "fallen_v", "behind", "due", "found", "spot"]) (B:=λM=>[]) T.tz.F Eg rfl λM M M M M M l o I=>(Ah (DW 1 (Cy (Bj T.tt (λ(R:ZLi×Int×Unit)=>Eu T R.1 R.2.1) l (Cc (vv 0) (Cc A4 Bs)) upV))) (λv1=>(Ah (DW 2 (FG (FG A4 (Ml rfl (vv 1))) (XJ T.aaq (oy Bu ED o (Ml rfl (Pc rfl (vv 1))) A4)))) (λv8=>(Ah (HS 3 (Cy (Bj T.aah (λ(J:ZLi×Int×Int×Unit)=>UU T J.1 J.2.1 J.2.2.1) l (Cc (vv 0) (Cc A4 (Cc (vv 2) Bs))) upN))) (λS=>(Ah (HS 4 (kA T l (vv 2) (EV (Cy (Bj T.aai (λ(A:ZLi×(List ZPi)×Unit)=>RF T A.1 A.2.1) l (Cc (vv 0) (Cn (Dk (pv 3)) arO Bs)) upN))))) (λui=>(Ah (DW 5 (FG A4 (Vz (Cy (Bj T.tt (λ(C:ZLi×Int×Unit)=>Eu T C.1 C.2.1) l (Cc (vv 0) (Cc A4 Bs)) upV)) (Sq T.aas (vv 2) (Hm (EV (FY (Ei A4 (Ei A4 DQ)))) (XJ T.aaq (jE (vv 2) A4))))))) (λvM=>(Ah (DW 6 (Hm (EV (FY (Ei Sm (Ei Sm DQ)))) (Ml rfl (Cy (Bj T.tt (λ(E:ZLi×Int×Unit)=>Eu T E.1 E.2.1) l (Cc (vv 0) (Cc A4 Bs)) upV))))) (λwz=>(Ah (HS 7 (Cy (Bj T.aaj (λ(G:Int×Int×Unit)=>UV T G.1 G.2.1) l (Cc (vv 2) (Cc (vv 5) Bs)) upN))) (λο=>(Ah (aB (n:=8) (m:=9) (Cy (Bj T.aan (λ(H:(List ZPi)×Int×(List ZLi)×Str×Unit)=>RG T H.1 H.2.1 H.2.2.1 H.2.2.2.1) l (Cn (Dk (pv 3)) arO (Cc (vv 2) (Cn (Dk (pv 7)) arO (Cc (vv 6) Bs)))) upFB)) (P9 rfl (FS (pgn 8 I) (FS (pgn 9 I) M0)))) (λyZ=>(Ah (HS 10 (vc (N':=["standing", ".1", ".2", ".3", ".4", ".5", ".6", ".7", ".8", "fallen_v", ".10", ".11", ".12", ".13"]) (F6 (pv 7)) (λU M M M M M M=>(HU (JW dkR (hu1 o) (vv 0) (Dk (pv 9))))) (λU M M M M M M=>(vv 0)))) (λyo=>(Ah (D9 11 (Cy (Bj T.Cl (λ(L:(Nat×List ZPi)×Int×Str×Unit)=>Ri T L.1 L.2.1 L.2.2.1) l (Cn (Dk (pv 4)) arO (Cc (vv 5) (Cc (vv 6) Bs))) upN))) (λX=>(Ah (Gj (jI (YY (Z3 (KU (JV (XI (pa:=some X) (r:=true) tyL cT rR T.aao T.aar (Ej (pv 11))))) (Z3 (ff (FA Bu) (cx Tc) o (Ej (pv 11)) (Dk (pv 10))) (Z1 (KU (JV (V0 T.aap (EV (ot (JT (i:=11) rfl) (vc (N':=["one", ".1", ".2", ".3", ".4", ".5", ".6", ".7", ".8", ".9", ".10", ".11", ".12", ".13"]) (F6 (pv 11)) (λY M M M M M M=>Du) (λY M M M M M M=>(Cy (Bj T.aak (λ(Z:ZLi×Unit)=>OY T Z.1) l (Cc (vv 0) Bs) upV)))))))))))))) (Aq (CH KS upV)) (Cq Wk.refl)) (λM=>(Ah (fF (XF (pv 9)) (pgn 12 I) CJ (λwI=>(Aq (Gi (g:=λM=>()) (Gj (jI (YY (Sh (aX (FA Bu) o (L9 (vv 12)) (Dk (pv 10))) (Ot (KU (JV (kI T.aaA (EV (Cy (vc (N':=["one", ".1", ".2", ".3", ".4", ".5", ".6", ".7", ".8", ".9", ".10", "due", ".12", ".13"]) (aF (UH o (pv 9) (vv 12))) (λvB M M M M M M=>Du) (λvB M M M M M M=>(kG (FA Bu) o (vv 0) (Dk (pv 11)))))))))))))) (Aq (CH KS upV)) (Cq Wk.refl)) (λM=>∅))))) (λM=>(Ah (NU (pv 11) (Ia DQ)) (λϕ=>(Aq (CH (XR (XN (FA Bu) (cx Tc) o (EV (Cy (Bj T.Cl (λ(O:(Nat×List ZPi)×Int×Str×Unit)=>Ri T O.1 O.2.1 O.2.2.1) l (Cn (Dk (pv 4)) arO (Cc (vv 5) (Cc (vv 6) Bs))) upN))) (Dk (pv 10))) (Vy (XN (GF Bu Bu) (iX Tc Tc) o (EV (aK T.aar (JU (ob:=Hu W) (g:=λw=>w.2) (ec:=eT (eP D.int D.int)) T.gg.cl T.v0 (Dk (pv 4)) (λw=>⟨_,rfl,qN _ _ _⟩)))) (Dk (pv 3))))) upV))))))))))))))))))))))))))))
end
open L2 L4
theorem bx(h:x.1 < x.2):nrm x=x:=by
 unfold nrm;rw[qY ∅,qX (by omega)]
theorem bz(x:Int×Int):nrm (x.2,x.1)=nrm x:=by
 unfold nrm;symm
 congr 1
 ·split <;> split <;> lia
 ·split <;> split <;> lia
theorem aw(h:l.Perm l'):IM l=IM l':=LG ((Cz l).trans (h.trans (Cz l').symm)) (Ka l) (Ka l')
theorem gB(h:(l.map nrm).Perm (qs.map nrm)):FH l=FH qs:=by
 unfold FH MA;have:=h.map Na;rw[Aw,Aw]at this;rw[show(λx=>Na (nrm x))=Na∘nrm from rfl,aw this]
theorem FJ.of(h:(ps.map nrm).Perm (l.map nrm))(f:FJ p l):FJ p ps:=by
 refine⟨λx m=>?_,h.nodup_iff.mpr f.2⟩;obtain⟨y,o,e⟩:=Ax.mp (h.mem_iff.mp (List.mem_map_of_mem m));have:=f.1 y o;unfold Fit at this ⊢;rw[<-e];exact this
def nr(ts:List ZPi)(x:Nat):ZLi:=CK (DY ts x)
theorem WR:z∈nr ts x↔((x:Int),z)∈ts∨(z,(x:Int))∈ts:=by
 unfold nr;rw[(D2 _).mem_iff];unfold DY
 grind
theorem Qi(l:ZLi)(k:Nat):Bt l (k:Int)=some (l.getD k 0):=by
 unfold Bt Hs
 by_cases c:k < l.length
 ·rw[wX (by ext),qX rfl,Hy (by ext) (by rw[Ay];exact AI c)]
  simp only[AE,dL,Xm]
  ext
 ·rw[wY (by ext),qY Av]
  simp only[BH,Xm]
  ext
def prs(o:Nat):List ZPi:=(E8 o).getD []
theorem Rz:∀o:Nat,o < 8->E8 o=some (prs o)/\(∀x∈prs o,0<=x.1/\x.1 < x.2/\x.2 < o)/\(prs o).Nodup/\(prs o).length<=21/\(2<=o->prs o≠[])/\∀y:Nat,y < 7->((prs o).filter λx=>decide ((y:Int)∈[x.1,x.2])).length<=6:=by decide +kernel
theorem ZG:∀o:Nat,o < 8->∀s:Nat,s < 6->∃fs,DO o s=some fs/\fs.length<=21:=by
 have h:∀o:Nat,o < 8->∀s:Nat,s < 6->(match DO o s with | some fs=>decide (fs.length<=21) | none=>false)=true:=by decide +kernel
 intro o l s m;have:=h o l s m
 cases q:DO o s with
 | none=>ext
 | some fs=>ext
theorem Kq[DecidableEq l](kvs:List (l×m))(k:l)(v:m):(Cm kvs k v).length<=kvs.length+1:=by
 unfold Cm;split
 ·rw[AF];ext
 ext
theorem kY(m:ZLi)(uH:m.length<=63)(f:Nat)(hf:f<=1000){o:Nat}(N:2<=o)(O:o < 8):∃P,Fd m f o=some ((prs o).filter P):=by
 obtain⟨U,-,-,hl,Q,-⟩:=Rz o O;obtain⟨fs,R,A⟩:=ZG o O (m.getD 0 0 / 7 % 6).toNat ∅;rw[BG ∅]at R;unfold Fd Kn;rw[U,show Bt m 0=some (m.getD 0 0)from Qi m 0];simp only[AE,BH];rw[R];simp only[AE]
 obtain⟨s1,X,Y⟩:=GD (l:=fs) (s0:=([]:List (ZPi×Bool))) (q:=λZ tQ=>BW (λyP=>yP) ((B2 Z tQ true).bind λU'=>some (.nx U'))) (λpre s=>s.length<=pre.length) (AN _) (by
  intro pre x s S B hs;have:=B.length_le;rw[AS,Ap]at this;refine⟨Cm s x true,?_,?_⟩
  ·rw[show B2 s x true=some (Cm s x true)from qX ∅]
   rfl
  ·rw[AS,Ap]
   exact A7 (Kq _ _ _) (by ext))
 rw[X];simp only[BH];rw[gU (by ext) ∅ (by split <;> ext) (by split <;> lia)]
 have rm:0 < ((prs o).length:Int):=by have:=YQ.mpr (Q N);ext
 obtain⟨C,e4,-⟩:=GD (l:=CI (f:Int) ((if (63:Int) < (m.length:Int)then(63:Int)else(m.length:Int)) - (f:Int)).toNat) (q:=λE MS=>AU (((atI m MS).bind λΗ=>MD Η ((prs o).length:Int)).bind (λG=>atI (prs o) G) |>.bind λwo=>some (.nx wo)) λH=>BW (λI=>I) ((if (!(AT E H).isSome)=true then some true else(AT E H).bind λJ=>some (!J)).bind λxc=>(B2 E H xc).bind λL=>some (.nx L))) (λpre s=>s.length<=21+pre.length) (A7 Y A) (by
  intro pre x s S B hs;have T:=B.length_le;rw[AS,Ap,Ck]at T;obtain⟨yD,yE⟩:=CQ.mp S;obtain⟨y,ey,-⟩:=Ti (l:=m) (i:=x) ∅ (by split at yE <;> lia);rw[ey];simp only[AE];rw[TK rm];simp only[AE];obtain⟨t,et,-⟩:=YB y (Q N);rw[et];simp only[AE,BH]
  have hb:∃b,(if (!(AT s t).isSome)=true then some true else(AT s t).bind λJ=>some (!J))=some b:=by
   cases AT s t with
   | none=>decide
   | some b=>exact⟨!b,rfl⟩
  obtain⟨b,hb⟩:=hb;rw[hb];simp only[AE];refine⟨Cm s t b,?_,?_⟩
  ·rw[show B2 s t b=some (Cm s t b)from qX (by split at T <;> lia)]
   rfl
  ·rw[AS,Ap]
   exact A7 (Kq _ _ _) ∅)
 refine⟨λx=>match AT C x with | some b=>b | none=>false,?_⟩;have w:=e4;simp only[Option.bind_assoc,AE]at w ⊢;rw[w];simp only[BH]
 rw[E2 (P:=λx=>match AT C x with | some b=>b | none=>false) ∅ (by
  intro x _
  cases AT C x with
  | none=>rfl
  | some b=>rfl)]
 rfl
structure Gu(o:Nat)(ts:List ZPi):Prop where
 rg:∀x∈ts,0<=x.1/\x.1 < x.2/\x.2 < o
 nd:ts.Nodup
 ln:ts.length<=21
 dg:∀y:Nat,y < 7->(ts.filter λx=>decide ((y:Int)∈[x.1,x.2])).length<=6
theorem XT(l:o < 8)(P:Int×Int->Bool):Gu o ((prs o).filter P):=by
 obtain⟨-,m,w,A,-,B⟩:=Rz o l;refine⟨λx C=>m x (Az.mp C).1,w.filter _,A7 (DD _ _) A,λy E=>?_⟩;refine A7 ?_ (B y E);exact(rc _ Hi).length_le
theorem cc(l:ZLi)(hl:ts.length<=1000):∃hs,FT l ts=some hs/\(hs=ts∨hs=ts.reverse.map λx=>(x.2,x.1)):=by
 unfold FT Ih;rw[show Bt l 0=some (l.getD 0 0)from Qi l 0];simp only[AE]
 by_cases c:l.getD 0 0 / 42 % 2=0
 ·rw[wX c,qX rfl]
  exact⟨ts,rfl,.inl rfl⟩
 ·rw[wY c,qY Av]
  rw[EG (by rw[YO];lia) λx G=>rfl];exact⟨_,rfl,.inr rfl⟩
theorem Gu.nrm(h:Gu o ts):ts.map nrm=ts:=by
 conv=>rhs;rw[<-PR ts]
 exact By λx l=>bx (h.rg x l).2.1
theorem Gu.fit(h:Gu o ts):FJ o ts:=by
 refine⟨λx l=>?_,by rw[h.nrm];exact h.nd⟩;have:=h.rg x l;unfold Fit;rw[bx this.2.1];grind
theorem Gu.mem(h:Gu o ts):t∈FH ts↔t∈ts:=by
 rw[(NY ts).mem_iff,h.nrm]
theorem Gu.web(h:Gu o ts)(w:1<=o)(A:o<=60)(e:hs=ts∨hs=ts.reverse.map λx=>(x.2,x.1)):YU (o:Int) hs=some (o,FH ts):=by
 have l:(hs.map M.nrm).Perm (ts.map M.nrm):=by
  rcases e with rfl | rfl
  ·rfl
  ·rw[Aw,show(M.nrm∘λx:Int×Int=>(x.2,x.1))=M.nrm from funext λx=>bz x,On]
   ext
 have m:hs.length=ts.length:=by have:=l.length_eq;rwa [AF,AF]at this
 unfold YU;rw[qX ⟨by lia,by lia,FJ.of l h.fit,by rw[m];have:=h.ln;lia⟩,gB l,Ay]
theorem cB{o:Nat}{us:List ZPi}{g:Int}(l:0<=g)(m:g < o):atI (Hw o us) g=some (nr us g.toNat):=by
 refine Hy l ?_;unfold Hw;rw[Ab,EM (by ext)];rfl
theorem iA{o:Nat}{us:List ZPi}{g:Int}(l:0<=g)(m:g < o):QD (o,us) g=some (nr us g.toNat):=by
 unfold QD WL Ek GA;rw[wX l,qX rfl,wX m];rw[cB l m];rfl
noncomputable def lnr(ts:List ZPi)(y:Int):ZLi:=(ts.filter λx=>decide (y∈[x.1,x.2])).map λx=>x.1+x.2 - y
theorem Xs(hl:ts.length<=1000)(y:Int):Fg ts y=some (CK (lnr ts y)):=by
 unfold Fg Ko;simp only[AE,iT (show([]:ZLi).length<=1000000 by decide),BH]
 obtain⟨s,e,rfl⟩:=GD (l:=ts) (s0:=([]:ZLi)) (q:=λo m=>BW (λw=>w) (if decide (y∈[m.1,m.2])=true then BW (λA=>A) ((HW o (m.1+m.2 - y)).bind λB=>some (.nx B))else some (.nx o))) (λpre s=>s=lnr pre y) rfl (by
  rintro pre x s I C rfl;have E:=C.length_le;rw[AS,Ap]at E
  have G:(lnr pre y).length<=pre.length:=by unfold lnr;rw[AF];exact DD _ _
  have H:lnr (pre++[x]) y=if decide (y∈[x.1,x.2])=true then lnr pre y++[x.1+x.2 - y]else lnr pre y:=by
   unfold lnr;rw[OQ];split
   ·rw[Be];rfl
   ·rfl
  rw[H]
  cases c:decide (y∈[x.1,x.2])with
  | true=>
   rw[qX rfl,qX rfl,PJ ∅];exact⟨_,rfl,rfl⟩
  | false=>exact⟨_,rfl,rfl⟩)
 rw[e];rfl
theorem Xr:z∈lnr ts y↔(y,z)∈ts∨(z,y)∈ts:=by
 unfold lnr;rw[Ax]
 constructor
 ·grind
 ·rintro(h | h)
  ·exact⟨_,Az.mpr ⟨h,wX ∅⟩,by lia⟩
  ·exact⟨_,Az.mpr ⟨h,wX ∅⟩,by ext⟩
theorem EA:x∈CK l↔x∈l:=(D2 l).mem_iff
theorem Gu.near(h:Gu o ts)(l:0<=g)(z:Int):z∈nr (FH ts) g.toNat↔z∈CK (lnr ts g):=by
 rw[WR,EA,Xr,h.mem,h.mem,BG l]
theorem bo:∀n:Nat,n < 128->∀x:Nat,x < 7->DE (n:Int) (1 * 2 ^ x)=((n ||| 2 ^ x:Nat):Int)/\(n ||| 2 ^ x) < 128/\∀y:Nat,y < 7->(n ||| 2 ^ x).testBit y=(n.testBit y||decide (x=y)):=by decide +kernel
theorem Yl:∀x:Nat,x < 8->F9 1 (x:Int)=some (1 * 2 ^ x):=by decide +kernel
theorem nG(h:∀x∈l,0<=x/\x < 7):Ok (Fc l) λr=>∃n:Nat,r=n/\n < 128/\∀y:Nat,y < 7->(n.testBit y=true↔(y:Int)∈l):=by
 unfold Fc Nf;simp only[AE,BH];refine OkF.out (OkF.seq (OkF.for (λpre (s:Int)=>∃n:Nat,s=n/\n < 128/\∀y:Nat,y < 7->(n.testBit y=true↔(y:Int)∈pre)) ⟨0,rfl,by decide,λy M=>by simp⟩ ?_) ?_)
 ·rintro pre x s w I ⟨n,rfl,A,m⟩
  obtain⟨J,L⟩:=h x w
  obtain⟨k,rfl⟩:∃k:Nat,x=k:=⟨x.toNat,by lia⟩
  rw[Yl k ∅];obtain⟨B,C,E⟩:=bo n A k ∅;refine .nx ⟨n ||| 2 ^ k,B,C,λy o=>?_⟩;rw[E y o,KP,m y o,Ak,Au,decide_eq_true_eq];refine⟨λq=>q.elim .inl λq=>.inr (by rw[q]),λq=>q.elim .inl λq=>.inr ∅⟩
 ·rintro s ⟨n,rfl,G,H⟩
  exact .rt ⟨n,rfl,G,H⟩
def Tg(us:List ZPi)(g:Int):ZLi:=CK ([g]++nr us g.toNat)
def tkl(o:Nat)(us:List ZPi):List ZLi:=(CI 0 o).map (Tg us)
theorem jJ{o:Nat}{us:List ZPi}{g:Int}(l:0<=g)(m:g < o):atI (tkl o us) g=some (Tg us g):=by
 refine Hy l ?_;unfold tkl CI;rw[Ab,Ab,EM ∅];show some (Tg us (0+(g.toNat:Int)))=_;rw[show(0:Int)+(g.toNat:Int)=g by lia]
theorem aq{o:Nat}{us:List ZPi}{g:Int}(l:0<=g)(m:g < o):Tk (tkl o us) g=Tg us g:=by
 unfold Tk;rw[jJ l m];rfl
structure J4(o:Nat)(us:List ZPi):Prop where
 sm:o < 8
 len:∀g:Int,0<=g->g < o->(nr us g.toNat).length<=6
 rg:∀g:Int,0<=g->g < o->∀x∈nr us g.toNat,0<=x/\x < o/\x≠g
 nd:∀g:Int,0<=g->g < o->(nr us g.toNat).Nodup
section
variable{o:Nat}{us:List ZPi}
theorem Qn:x∈Tg us g↔x=g∨x∈nr us g.toNat:=by
 unfold Tg;rw[EA];simp
theorem J4.tg(h:J4 o us){g:Int}(l:0<=g)(m:g < o):(Tg us g).length<=7/\(∀x∈Tg us g,0<=x/\x < o)/\(Tg us g).Pairwise (· < ·):=by
 refine⟨?_,λx w=>?_,?_⟩
 ·unfold Tg
  rw[(D2 _).length_eq,AS,Ap];have:=h.len g l m
  lia
 ·rcases Qn.mp w with rfl | w
  ·trivial
  ·exact⟨(h.rg g l m x w).1,(h.rg g l m x w).2.1⟩
 ·have A:(Tg us g).Nodup:=by
   unfold Tg;rw[(D2 _).nodup_iff];show(g :: nr us g.toNat).Nodup;rw[BJ];exact⟨λz=>(h.rg g l m g z).2.2 rfl,h.nd g l m⟩
  have:=(Pu ([g]++nr us g.toNat))
  exact(Re this A).imp λ⟨a,b⟩=>by lia
theorem gD(h:J4 o us):Gp (o,us)=some (tkl o us):=by
 unfold Gp MB;simp only[AE];rw[Mw (by ext) (by have:=h.sm;lia),Ay];simp only[AE]
 rw[EG (by rw[Ck];have:=h.sm;lia) λx m=>by
  obtain⟨l,w⟩:=CQ.mp m;rw[iA l (by ext),mj];simp only[AE];rw[LK (by have:=h.len x l ∅;rw[Ap];lia)]
  rfl]
 rfl
theorem UC(f:Int->Int):∀l:ZLi,l.zip (l.map f)=l.map λg=>(g,f g)
 | []=>rfl
 | x :: l=>by rw[Ai,IG,UC f l];rfl
theorem eV{a b:ZLi}{x y z:Int}(w:b.Nodup)(A:(x,z)∈a.zip b)(B:(y,z)∈a.zip b):x=y:=by
 obtain⟨i,C,l⟩:=CD A;obtain⟨j,E,m⟩:=CD B;rw[KN]at C E;rw[Jq]at l m;have G:=(iu l);have H:=(iu m);have:i=j:=(Jr w).mp (G.2.trans H.2.symm)
 ext
end
open L2 L4
open Srt (ltL)
theorem U2:∀a:ZLi,ltL a a=false
 | []=>rfl
 | x :: a=>by unfold ltL;rw[qX rfl];exact U2 a
section
variable{o:Nat}{us:List ZPi}
def ZZ(us:List ZPi)(l:ZLi)(c:Int)(r:ZLi):Prop:=r.length=l.length/\r.Nodup/\(∀y∈l.zip r,y.2∈Tg us y.1)/\c∈r
theorem ZZ.rg(h:J4 o us){l r:ZLi}{c:Int}(A:∀g∈l,0<=g/\g < o)(w:ZZ us l c r):∀x∈r,0<=x/\x < o:=λx B=>by
 obtain⟨i,C,rfl⟩:=CD B
 have E:i < l.length:=by rw[<-w.1];exact C
 have m:(l[i],r[i])∈l.zip r:=by
  have:(l.zip r)[i]'(by rw[KN];grind)=(l[i],r[i]):=Jq;rw[<-this];exact CB _
 have:=A l[i] (CB _);exact(h.tg this.1 this.2).2.1 _ (w.2.2.1 _ m)
end
theorem mZ:∀n:Nat,n < 128->∀x:Nat,x < 7->hb (n:Int) (x:Int)=n.testBit x:=by decide +kernel
abbrev bit(n:Nat)(x:Int):Prop:=n.testBit x.toNat=true
def InS(us:List ZPi)(l:ZLi)(P:Int->Prop)(r:ZLi):Prop:=r.length=l.length/\r.Nodup/\(∀y∈l.zip r,y.2∈Tg us y.1)/\∀x∈r,P x
section
variable{o:Nat}{us:List ZPi}{gs rest:ZLi}{P Q:Int->Prop}{g:Int}{n:Nat}
theorem InS.rg(h:J4 o us)(A:∀g∈gs,0<=g/\g < o)(l:InS us gs P r):∀x∈r,0<=x/\x < o:=λx B=>by
 obtain⟨i,C,rfl⟩:=CD B;have E:=l.1
 have m:(gs[i]'∅,r[i])∈gs.zip r:=by
  have:(gs.zip r)[i]'(by rw[KN];grind)=(gs[i]'∅,r[i]):=Jq;rw[<-this];exact CB _
 have w:=A _ (CB (show i < gs.length by lia));exact(h.tg w.1 w.2).2.1 _ (l.2.2.1 _ m)
theorem InS.imp(l:InS us gs P r)(i:∀x∈r,P x->Q x):InS us gs Q r:=⟨l.1,l.2.1,l.2.2.1,λx m=>i x m (l.2.2.2 x m)⟩
theorem lA(h:J4 o us)(I:n < 128)(A:∀g∈rest,0<=g/\g < o)(J:rest.Nodup):Sdr (Tk (tkl o us)) (n:Int) rest↔∃r,InS us rest (bit n) r:=by
 have T:=h.sm
 have hw:∀g∈rest,∀x,x∈w0 (Tk (tkl o us)) (n:Int) g↔x∈Tg us g/\bit n x:=λg m x=>by
  unfold w0;rw[Az,aq (A g m).1 (A g m).2]
  refine and_congr_right λa=>?_
  have:=(h.tg (A g m).1 (A g m).2).2.1 x a
  obtain⟨k,rfl⟩:∃k:Nat,x=k:=⟨x.toNat,by lia⟩
  unfold bit;rw[mZ n I k ∅,Ay]
 constructor
 ·rintro⟨f,L,N⟩
  refine⟨rest.map f,AF _,?_,λy G=>?_,λx U=>?_⟩
  ·unfold IH
   rw[BN]
   exact J.imp_of_mem λ{a b} E w ne e=>ne (N a E b w e)
  ·rw[UC]at G
   obtain⟨g,m,rfl⟩:=Ax.mp G;exact((hw g m _).mp (L g m)).1
  grind
 ·rintro⟨l,X,O,R,S⟩
  have B:∀a:Int,∃z:Int,a∈rest->(a,z)∈rest.zip l:=λa=>by
   by_cases q:a∈rest
   ·obtain⟨i,Y,e⟩:=CD q
    refine⟨l[i]'∅,λM=>?_⟩
    have:(rest.zip l)[i]'(by rw[KN];ext)=(a,l[i]'∅):=by rw[Jq,e]
    rw[<-this];exact CB _
   ext
  have C:=λa=>JR (B a)
  refine⟨λa=>GR (B a),λg m=>(hw g m _).mpr ⟨R _ (C g m),S _ (KM (C g m)).2⟩,λa E b w e=>?_⟩;have e:GR (B a)=GR (B b):=e;have H:=C a E;rw[e]at H;exact eV O H (C b w)
theorem mf(h:J4 o us)(C:n < 128)(m:∀g∈rest,0<=g/\g < o)(A:rest.Nodup):Ok (QE (tkl o us) rest (n:Int)) λb=>b=true↔∃r,InS us rest (bit n) r:=by
 have J:=h.sm
 have B:((tkl o us).length:Int)=o:=by unfold tkl;rw[AF,Ck]
 have E:(∀t∈tkl o us,t.length<=1000/\∀x∈t,0<=x)/\∀g∈rest,0<=g/\g < ((tkl o us).length:Int):=by
  refine⟨λt G=>?_,λg l=>by ext⟩;obtain⟨g,l,rfl⟩:=Ax.mp G;obtain⟨H,L⟩:=CQ.mp l;have:=h.tg H (by ext);exact⟨by omega,λx w=>(this.2.1 x w).1⟩
 have fs:=ZE (T:=Tk (tkl o us)) (bits:=(n:Int)) (U:=CI 0 o) (n:=9) (λg l x w=>by
  rw[aq l.1 l.2]at w;have:=(h.tg l.1 l.2).2.1 x w
  exact CQ.mpr ⟨this.1,by ext⟩) (by rw[Ck];lia) (by rw[Ck];lia) (λg l=>⟨m g l,by rw[aq (m g l).1 (m g l).2];exact Qn.mpr (.inl rfl)⟩) A
 have I:QE (tkl o us) rest (n:Int)=QS (Tk (tkl o us)) (n:Int) 9 rest:=qX E;rw[I]
 exact fs.imp λb hb=>hb.trans (lA h C m A)
end
end M
namespace L4
theorem Sg{ρ l:Type}{c:l->Option Bool}{q:l->Option (Fw ρ l)}(I:l->Prop)(m:l->Nat)(h:∀s,I s->c s=some false∨(c s=some true/\∃s',q s=some (.nx s')/\I s'/\m s' < m s)) :
  ∀(n:Nat) (s:l),I s->m s < n->∃s',whF c q n s=some (.nx s')/\I s'/\c s'=some false
 | 0,s,_,o=>zX o (Q6 _)
 | n+1,s,A,o=>by
  unfold whF
  rcases h s A with w | ⟨w,s',B,C,E⟩
  ·ext
  ·rw[w]
   rw[B];exact Sg I m h n s' C ∅
end L4
namespace M
open L2 L4
theorem PK(a b:Nat):BE (a:Int) (b:Int)=((a &&& b:Nat):Int):=by
 rfl
theorem TF(a b:Nat):DE (a:Int) (b:Int)=((a ||| b:Nat):Int):=by
 unfold DE BE Zy;rw[wY ∅,wY ∅];rw[show(-(-(a:Int) - 1) - 1).toNat=a by lia,show(-(-(b:Int) - 1) - 1).toNat=b by lia]
 lia
theorem bn:∀a b:Nat,(a ||| b)=(a ^^^ b)+(a &&& b):=by
 intro a
 induction a using iy with
 | ind a A=>
  intro b
  by_cases h:a=0
  ·ext
  ·have e:=A (a / 2) ∅ (b / 2)
   have B:=Nat.or_div_two (a:=a) (b:=b);have C:=Nat.xor_div_two (a:=a) (b:=b);have E:=Q7 (a:=a) (b:=b);have l:=Nat.or_mod_two_pow (a:=a) (b:=b) (n:=1);have m:(a ^^^ b) % 2=(a % 2 ^^^ b % 2):=Nat.xor_mod_two_pow (n:=1);have o:=Mb (a:=a) (b:=b) (n:=1)
   rcases IX a with w | w <;> rcases IX b with hb | hb <;> rw[w,hb]at l m o <;> simp only[Nat.reduceOr,Nat.reduceXor,Nat.reduceAnd]at l m o <;> lia
theorem eW(a b:Nat):Es (a:Int) (b:Int)=((a ^^^ b:Nat):Int):=by
 unfold Es;rw[TF,PK,bn]
 ext
theorem iG:∀b:Nat,0 < b->∃i:Nat,b.testBit i=true/\(∀j,j < i->b.testBit j=false)/\b=(b &&& (b - 1))+2 ^ i/\∀j,(b &&& (b - 1)).testBit j=(b.testBit j&&!decide (i=j)):=by
 intro b
 induction b using iy with
 | ind b o=>
  intro hb
  rcases IX b with h | h
  ·obtain⟨i,B,w,C,A⟩:=o (b / 2) ∅ ∅
   have d:=Q7 (a:=b) (b:=b - 1);rw[show(b - 1) / 2=b / 2 - 1 by grind]at d;have l:(b &&& (b - 1)) % 2=(b % 2 &&& (b - 1) % 2):=Mb (n:=1);rw[h]at l;simp at l;refine⟨i+1,by grind,λj m=>?_,?_,λj=>?_⟩
   ·cases j with
    | zero=>rw[Nat.testBit_zero];lia
    | succ j=>rw[HF];exact w j ∅
   ·rw[KI];lia
   ·cases j with
    | zero=>
     grind
    | succ j=>
     rw[HF,HF,d,A j]
     simp
  ·have d:=Q7 (a:=b) (b:=b - 1)
   rw[show(b - 1) / 2=b / 2 by grind,Nat.and_self]at d;have l:(b &&& (b - 1)) % 2=(b % 2 &&& (b - 1) % 2):=Mb (n:=1);rw[h,show(b - 1) % 2=0 by grind]at l;simp at l;refine⟨0,by ext,λj m=>zX m (Q6 _),by rw[Nat.pow_zero];lia,λj=>?_⟩
   cases j with
   | zero=>
    ext
   | succ j=>
    rw[HF,HF,d];simp
theorem Yz{b i:Nat}(h:b=(b &&& (b - 1))+2 ^ i)(hb:0 < b):BE (b:Int) (-(b:Int))=((2 ^ i:Nat):Int):=by
 unfold BE Zy;rw[wX (Int.natCast_nonneg b),wY ∅];rw[show(- -(b:Int) - 1).toNat=b - 1 by simp,Ay]
 lia
theorem dI(i:Nat):Dy ((2 ^ i:Nat):Int)=i+1:=by
 unfold Dy;have h:=Ed (iw i);rw[qY (by rw[beq_iff_eq];lia),Int.natAbs_natCast,Nat.log2_two_pow]
def Bm(b:Nat)(l:ZLi):Prop:=l.Pairwise (· < ·)/\∀x:Int,x∈l↔0<=x/\b.testBit x.toNat=true
theorem R5{b N:Nat}(hb:b < 2 ^ N)(hN:N<=1000):Ok (He (b:Int)) (Bm b):=by
 unfold He Nc;simp only[AE,iU,BH]
 obtain⟨⟨t,l⟩,e,P,B⟩:=Sg (c:=λs:ZLi×Int=>some (s.2 != 0)) (q:=λs:ZLi×Int=>AU ((HW s.1 ((Dy (BE s.2 (-s.2)):Int) - 1)).bind λl=>some (.nx l)) λv=>BW (λw=>(v,w)) (some (.nx (BE s.2 (s.2 - 1)))))
  (λs=>∃c:Nat,s.2=c/\s.1.Pairwise (· < ·)/\(∀x∈s.1,0<=x/\x < N/\b.testBit x.toNat=true/\∀j:Nat,c.testBit j=true->x < j)/\(∀j:Nat,b.testBit j=true->(j:Int)∈s.1∨c.testBit j=true)/\(∀j:Nat,c.testBit j=true->b.testBit j=true))
  (λs=>N - s.1.length) (by
   rintro s ⟨c,B,C,o,J,G⟩
   by_cases L:c=0
   ·left
    ext
   ·right
    obtain⟨i,E,q2,Q,R⟩:=iG c ∅
    have hi:i < N:=by
     have:=G i E
     refine dw λH=>?_
     have S:=Vo (Aa hb (HR (by decide) H));rw[S]at this;cases this
    have O:s.1.length < N:=by
     have T:(s.1++[(i:Int)]).Nodup:=by
      refine Iy.mpr ⟨C.imp λh=>by lia,by simp,λx m y I=>?_⟩;rw[Au.mp I];have:=(o x m).2.2.2 i E
      lia
     have:=Gr (k:=CI 0 N) T λx m=>by
      rw[CQ]
      rcases Ak.mp m with m | m
      ·have:=o x m;grind
      ·rw[Au.mp m];grind
     rw[Ck,AS,Ap]at this;exact this
    refine⟨by rw[B];exact congrArg some (bne_iff_ne.mpr ∅),(s.1++[(i:Int)],((c &&& (c - 1):Nat):Int)),?_,⟨_,rfl,?_,λx m=>?_,λj A=>?_,λj A=>?_⟩,?_⟩
    ·rw[B,Yz Q ∅,dI,PJ ∅,show(c:Int) - 1=((c - 1:Nat):Int) by lia,PK]
     simp only[AE,BH,iE]
     lia
    ·refine BC.mpr ⟨C,List.pairwise_singleton _ _,λx m y I=>?_⟩
     rw[Au.mp I];exact(o x m).2.2.2 i E
    ·rcases Ak.mp m with m | m
     ·obtain⟨U,X,Y,Z⟩:=o x m
      refine⟨U,X,Y,λj A=>Z j ?_⟩
      grind
     ·rw[Au.mp m]
      refine⟨by simp,by lia,by rw[Ay];exact G i E,λj A=>?_⟩;rw[R j,Di]at A
      have sf:i≠j:=by simpa using A.2
      have:¬j < i:=λz=>by grind
      lia
    ·grind
    ·grind
    ·rw[AS,Ap]
     grind) wN ([],(b:Int)) ⟨b,rfl,.nil,λM h=>(nomatch h),λj A=>.inr A,λM h=>h⟩ (by show N - 0 < wN;lia)
 refine⟨t,?_,?_⟩
 ·rw[e]
  rfl
 ·obtain⟨c,t5,C,o,J,G⟩:=P
  have L:c=0:=by
   have B:=B1 B
   have:(c:Int)=0:=by rw[<-t5];simpa using B
   ext
  subst L;refine⟨C,λx=>⟨λm=>⟨(o x m).1,(o x m).2.2.1⟩,λ⟨x0,m⟩=>?_⟩⟩
  rcases J x.toNat m with h | h
  ·rwa [BG x0]at h
  ·simp at h
open L2 L4
open Srt (ltL)
theorem Mx:∀{l k:ZLi},l.Pairwise (· < ·)->k.Pairwise (· < ·)->(∀x,x∈l↔x∈k)->l=k
 | [],[],_,_,_=>rfl
 | [],y :: k,_,_,h=>zX ((h y).mpr (AW ..)) DG
 | x :: l,[],_,_,h=>zX ((h x).mp (AW ..)) DG
 | x :: l,y :: k,A,B,h=>by
  have m:=Fx.mp A;have w:=Fx.mp B
  have e:x=y:=by
   rcases Aj.mp ((h x).mp (AW ..))with a | a
   ·exact a
   ·rcases Aj.mp ((h y).mpr (AW ..))with b | b
    ·exact b.symm
    ·have:=w.1 x a
     have:=m.1 y b
     lia
  subst e
  congr 1
  refine Mx m.2 w.2 λz=>⟨λo=>?_,λo=>?_⟩
  ·rcases Aj.mp ((h z).mp (AM _ o))with a | a
   ·have:=m.1 z o;lia
   ·exact a
  grind
noncomputable def WB:ZLi->List ZLi
 | []=>[[]]
 | x :: l=>(WB l).map (x :: ·)++WB l
theorem Kw(P:Int->Bool):∀l:ZLi,l.filter P∈WB l
 | []=>by simp[WB]
 | x :: l=>by
  unfold WB;rw[List.filter_cons];split
  ·exact CM _ (Ax.mpr ⟨_,Kw P l,rfl⟩)
  ·exact BV _ (Kw P l)
def sts(o g:Nat):List ZLi:=(Ff o g).getD []
def Stg(o g:Nat)(r:ZLi):Prop:=r.length=g/\(∀x∈r,0<=x/\x < (o:Int))/\r.Pairwise (· < ·)
theorem kx:∀o:Nat,o < 8->∀g:Nat,g < 8->g<=o->1<=g->decide (Ey (o,[]) g=some (sts o g)/\Ff o g=some (sts o g)/\sts o g≠[]/\(sts o g).length<=35)=true:=by decide +kernel
theorem Jv(o:Nat)(l:o < 8)(g:Nat)(m:g < 8)(w:g<=o)(A:1<=g):Ey (o,[]) g=some (sts o g)/\Ff o g=some (sts o g)/\sts o g≠[]/\(sts o g).length<=35:=of_decide_eq_true (kx o l g m w A)
theorem ku:∀o:Nat,o < 8->∀g:Nat,g < 8->g<=o->1<=g->decide (∀r∈sts o g,r.length=g/\(∀x∈r,0<=x/\x < (o:Int))/\r.Pairwise (· < ·))=true:=by decide +kernel
theorem pT(o:Nat)(l:o < 8)(g:Nat)(m:g < 8)(w:g<=o)(A:1<=g):∀r∈sts o g,r.length=g/\(∀x∈r,0<=x/\x < (o:Int))/\r.Pairwise (· < ·):=of_decide_eq_true (ku o l g m w A)
theorem kr:∀o:Nat,o < 8->∀g:Nat,g < 8->g<=o->1<=g->decide ((sts o g).Pairwise (λa b=>ltL a b=true)/\∀l∈WB (CI 0 o),l.length=g->l∈sts o g)=true:=by decide +kernel
theorem jM(o:Nat)(m:o < 8)(g:Nat)(w:g < 8)(A:g<=o)(B:1<=g):(sts o g).Pairwise (λa b=>ltL a b=true)/\∀l∈WB (CI 0 o),l.length=g->l∈sts o g:=of_decide_eq_true (kr o m g w A B)
section
variable{o g:Nat}{us:List ZPi}{r:ZLi}
theorem Yg(l:o < 8)(m:g<=o)(w:1<=g):Ey (o,us) g=some (sts o g):=(rfl).trans (Jv o l g ∅ m w).1
theorem ES(m:o < 8)(w:g<=o)(A:1<=g):r∈sts o g↔Stg o g r:=by
 have a:=pT o m g ∅ w A;have b:=(jM o m g ∅ w A).2;refine⟨a r,λ⟨l,q,p⟩=>?_⟩
 have e:r=(CI 0 o).filter λx=>decide (x∈r):=Mx p ((S4 0 o).filter _) λx=>by
  rw[Az,CQ,decide_eq_true_eq];exact⟨λh=>⟨⟨(q x h).1,by have:=(q x h).2;ext⟩,h⟩,λh=>h.2⟩
 have:=b _ (Kw (λx=>decide (x∈r)) (CI 0 o)) (by rw[<-e];exact l)
 lia
theorem WC(m:o < 8)(w:g<=o)(A:1<=g):(sts o g).Nodup:=by
 have a:=(jM o m g ∅ w A).1
 exact a.imp λ{a b} l e=>by
  subst e;rw[U2]at l;cases l
end
theorem SC(h:l[i]?=some r):(C8 l).take (i+1)=(C8 l).take i++[((i:Int),r)]:=by
 rw[N5]
 congr 1
 unfold C8;ext
theorem qK{l:List ZLi}(w:l.Nodup){i:Nat}{r:ZLi}(h:l[i]?=some r):AT (nuF l) r=some (i:Int):=by
 have m:∀k:Nat,k<=l.length->∀(j:Nat) (s:ZLi),j < k->l[j]?=some s->AT (((C8 l).take k).foldl nuS []) s=some (j:Int):=by
  intro k
  induction k with
  | zero=>simp
  | succ k A=>
   intro G j s H o;have B:l[k]?=some (l[k]'∅):=AI ∅;rw[SC B,GX];show AT (Cm _ _ _) s=_;rw[CG]
   by_cases e:j=k
   ·ext
   ·rw[qY,A ∅ j s ∅ o]
    intro c;obtain⟨C,E⟩:=AJ.mp o;rw[<-E]at c;exact Ip.mp w j k C ∅ ∅ c
 have:=m l.length (AN _) i r (AJ.mp h).1 h;rwa [CU (by unfold C8;simp)]at this
def Hb(H:ZLi)(n:Nat)(P:Nat->Nat->Prop):Prop:=H.length=n/\∀p:Nat,p < n->∃h:Nat,H[p]?=some (h:Int)/\∀j,h.testBit j=true↔P p j
theorem cW{n k:Nat}:∀(r:ZLi) {H:ZLi} {P:Nat->Nat->Prop},(∀x∈r,0<=x/\x < (n:Int))->Hb H n P->Hb (r.foldl (hvP (k:Int)) H) n (λp j=>P p j∨((p:Int)∈r/\j=k))
 | [],H,P,_,h=>⟨h.1,λp l=>by
  obtain⟨b,m,o⟩:=h.2 p l
  exact⟨b,m,λj=>by rw[o];simp⟩⟩
 | x :: r,H,P,w,h=>by
  obtain⟨B,C⟩:=w x (AW ..)
  have m:Hb (hvP (k:Int) H x) n (λp j=>P p j∨((p:Int)=x/\j=k)):=by
   refine⟨by unfold hvP;rw[eC];exact h.1,λp l=>?_⟩;obtain⟨b,b1,b2⟩:=h.2 p l;unfold hvP;rw[DT]
   by_cases c:x.toNat=p
   ·rw[qX c,qX (by rw[h.1];ext)]
    refine⟨b ||| 2 ^ k,?_,λj=>?_⟩
    ·rw[Bz,c,b1,Zh,Ay,show(1:Int) * 2 ^ k=((2 ^ k:Nat):Int) by rw[re];norm_cast,TF]
    ·rw[jt,KP,b2,Ma]
     rw[decide_eq_true_eq]
     have:(p:Int)=x:=by lia
     exact or_congr_right ⟨λe=>⟨this,e.symm⟩,λe=>e.2.symm⟩
   ·rw[qY c]
    refine⟨b,b1,λj=>?_⟩;rw[b2]
    have:¬(p:Int)=x:=by lia
    exact⟨.inl,λz=>z.elim id λz=>zX z.1 this⟩
  have o:=cW (k:=k) r (λy A=>w y (AM _ A)) m
  grind
theorem qf{n:Nat}{l:List ZLi}(B:∀r∈l,∀x∈r,0<=x/\x < (n:Int)):Hb (hvF n l) n (λp j=>∃r,l[j]?=some r/\(p:Int)∈r):=by
 have w:∀k:Nat,k<=l.length->Hb (((C8 l).take k).foldl hvS (hv0 n)) n (λp j=>j < k/\∃r,l[j]?=some r/\(p:Int)∈r):=by
  intro k
  induction k with
  | zero=>
   intro _;refine⟨by unfold hv0;rw[i5,i6,AF,Ck],λp m=>⟨0,?_,λj=>by simp⟩⟩;unfold hv0;rw[i5,i6,Ab,AI (by rw[Ck];exact m)];rfl
  | succ k C=>
   intro I;have A:l[k]?=some (l[k]'∅):=AI ∅;rw[SC A,GX];have o:=cW (k:=k) l[k] (B _ (CB _)) (C ∅);refine⟨o.1,λp m=>?_⟩;obtain⟨b,b1,b2⟩:=o.2 p m;refine⟨b,b1,λj=>(b2 j).trans ?_⟩
   constructor
   ·rintro(⟨a,q⟩ | ⟨a,rfl⟩)
    ·exact⟨by lia,q⟩
    ·exact⟨by lia,_,A,a⟩
   ·rintro⟨a,r,E,G⟩
    by_cases e:j=k
    ·lia
    ·exact .inl ⟨by lia,r,E,G⟩
 have:=w l.length (AN _);rw[CU (by unfold C8;simp)]at this;refine⟨this.1,λp m=>?_⟩;obtain⟨b,b1,b2⟩:=this.2 p m;refine⟨b,b1,λj=>(b2 j).trans ?_⟩;exact⟨λh=>h.2,λ⟨r,o,H⟩=>⟨(AJ.mp o).1,r,o,H⟩⟩
theorem Pt(h:l.Nodup):(CK l).Pairwise (· < ·):=(Re (Pu l) ((D2 l).nodup_iff.mpr h)).imp λ⟨a,b⟩=>by lia
theorem aj{s:ZLi}(h:s.Pairwise (· < ·)):s.Nodup:=h.imp λh=>by lia
noncomputable def wst(r:ZLi)(a b:Int):ZLi:=r.map λx=>if x=a then b else x
theorem oX(hl:r.length<=1000)(a b:Int):G5 r a b=some (wst r a b):=by
 unfold G5 Km
 rw[EG (f:=λx=>if x=a then b else x) ∅ λx G=>by
  lia]
 rfl
theorem Sb(l:a∈r):x∈wst r a b↔x=b∨(x∈r/\x≠a):=by
 unfold wst
 grind
theorem j6(l:r.Nodup)(hb:b∉r):(wst r a b).Nodup:=by
 unfold wst IH;rw[BN]
 refine l.imp_of_mem λ{x y} m o ne=>?_
 lia
structure Fk(o g:Nat)(us:List ZPi)(kd:Str)(f:Fp):Prop where
 ev:f.ev=sts o g
 kd:f.kd=kd
 tk:f.tk=tkl o us
 nu:f.nu=nuF (sts o g)
 hv:f.hv=hvF o (sts o g)
 pl:f.pb.length=(sts o g).length
 pb:∀(i:Nat) (r:ZLi),(sts o g)[i]?=some r->∃n:Nat,f.pb[i]?=some (n:Int)/\n < 128/\∀x:Int,0<=x->x < 7->(n.testBit x.toNat=true↔x∈r)
section
variable{o g:Nat}{us:List ZPi}{kd:Str}{f:Fp}{r r':ZLi}{i:Nat}
theorem cr(h:J4 o us)(m:g<=o)(w:1<=g):Ok (Jc (o,us) g kd) (Fk o g us kd):=by
 have A:=h.sm
 have hb:∀r∈sts o g,∃n:Nat,Fc r=some (n:Int)/\n < 128/\∀x:Int,0<=x->x < 7->(n.testBit x.toNat=true↔x∈r):=λr l=>by
  obtain⟨-,q,-⟩:=(ES A m w).mp l
  obtain⟨v,e,n,rfl,b1,b2⟩:=nG λx B=>by have:=q x B;lia
  exact⟨n,e,b1,λx C E=>by rw[b2 x.toNat (by ext),BG C]⟩
 obtain⟨-,-,-,G⟩:=Jv o A g ∅ m w;unfold Jc;rw[Yg A m w,gD h];simp only[AE]
 rw[EG (f:=λr=>(Fc r).getD 0) ∅ λr l=>by
  obtain⟨n,e,-⟩:=hb r l;rw[e]
  rfl]
 simp only[AE];rw[qX ⟨by lia,by show o<=1000;lia,λr l x B=>((ES A m w).mp l).2.1 x B⟩];refine⟨_,rfl,rfl,rfl,rfl,rfl,rfl,AF _,λi r l=>?_⟩;obtain⟨n,e,b1,b2⟩:=hb r (A2 l);refine⟨n,?_,b1,b2⟩;ext
def Lk1(us:List ZPi)(r r':ZLi):Prop:=∃a∈r,∃b∈Tg us a,b∉r/\CK (wst r a b)=r'
def LkA(us:List ZPi)(r r':ZLi):Prop:=∃s,InS us r (·∈r') s
theorem W8(h:J4 o us){a b:Int}(B:Stg o g r)(w:a∈r)(hb:b∈Tg us a)(m:b∉r):Stg o g (CK (wst r a b)):=by
 obtain⟨l,q,p⟩:=B;have A:=q a w;have C:=(h.tg A.1 A.2).2.1 b hb;refine⟨by rw[(D2 _).length_eq];unfold wst;ext,λx E=>?_,Pt (j6 (aj p) m)⟩
 rcases(Sb w).mp (EA.mp E)with rfl | ⟨h,_⟩
 ·exact C
 ·exact q x h
theorem Qm(h:l[i]?=some x):atI l (i:Int)=some x:=Hy (by ext) (by assumption)
theorem dJ{b n:Nat}{P:Nat->Prop}(hb:∀j,b.testBit j=true↔P j)(j:Nat):(b ||| 2 ^ n).testBit j=true↔P j∨n=j:=by
 grind
theorem Mt{n:Nat}(h:n<=1000000):F9 1 (n:Int)=some ((2 ^ n:Nat):Int):=by
 unfold F9;rw[qX ⟨by ext,by lia,by decide⟩,Ay,re]
 norm_cast
theorem qH(h:J4 o us)(w:g<=o)(A:1<=g)(F:Fk o g us kd f)(J:(sts o g)[i]?=some r):Ok (Ca f i) λv=>∃l:Nat,v=l/\∀j,l.testBit j=true↔∃r',(sts o g)[j]?=some r'/\Lk1 us r r':=by
 have B:=h.sm;have C:=(ES B w A).mp (A2 J);obtain⟨-,-,-,T⟩:=Jv o B g ∅ w A;unfold Ca Ee;rw[F.ev,Qm J];simp only[AE,BH];refine OkF.out (OkF.seq (OkF.for (λpre (s:Int)=>∃l:Nat,s=l/\∀j,l.testBit j=true↔∃r',(sts o g)[j]?=some r'/\∃a∈pre,∃b∈Tg us a,b∉r/\CK (wst r a b)=r') ⟨0,rfl,λj=>by simp⟩ ?_) ?_)
 ·rintro pre a s L U ⟨l,rfl,E⟩
  have N:=C.2.1 a L;rw[F.tk,jJ N.1 N.2];refine OkF.map (OkF.for (λO (s:Int)=>∃l:Nat,s=l/\∀j,l.testBit j=true↔∃r',(sts o g)[j]?=some r'/\((∃a∈pre,∃b∈Tg us a,b∉r/\CK (wst r a b)=r')∨∃b∈O,b∉r/\CK (wst r a b)=r')) ⟨l,rfl,λj=>by rw[E];simp⟩ ?_) ?_
  ·rintro O b s hb X ⟨l,rfl,P⟩
   by_cases c:b∈r
   ·rw[wX c]
    refine .nx ⟨l,rfl,λj=>(P j).trans ⟨by rintro ⟨r',e,z⟩;exact ⟨r',e,z.imp id (by rintro ⟨b,hb,z⟩;exact ⟨b,CM _ hb,z⟩)⟩,λ⟨r',e,z⟩=>⟨r',e,z.imp id ?_⟩⟩⟩;rintro ⟨G,m,z⟩
    rcases Ak.mp m with q | q
    ·exact⟨G,q,z⟩
    ·rw[Au.mp q]at z
     exact zX c z.1
   ·rw[wY c]
    have hw:=W8 h C L hb c;obtain⟨k,Q,R⟩:=CD ((ES B w A).mpr hw)
    have H:(sts o g)[k]?=some (CK (wst r a b)):=by rw[AI Q,R]
    rw[oX (by rw[C.1];lia)];simp only[AE];rw[F.nu,qK (WC B w A) H];simp only[AE];rw[Mt ∅];simp only[AE];rw[TF];refine .nx ⟨_,rfl,λj=>(dJ P j).trans ⟨?_,?_⟩⟩
    ·rintro(⟨r',e,z⟩ | rfl)
     ·exact⟨r',e,z.imp id (by rintro ⟨b,hb,z⟩;exact ⟨b,CM _ hb,z⟩)⟩
     ·exact⟨_,H,.inr ⟨b,by simp,c,rfl⟩⟩
    ·rintro⟨r',e,z | ⟨G,m,S,I⟩⟩
     ·exact .inl ⟨r',e,.inl z⟩
     ·rcases Ak.mp m with q | q
      ·exact .inl ⟨r',e,.inr ⟨G,q,S,I⟩⟩
      ·right
       rw[Au.mp q]at I;rw[<-I,<-H]at e;exact(List.getElem?_inj Q (WC B w A)).mp e.symm
  simp
 ·rintro s ⟨l,rfl,E⟩
  exact .rt ⟨l,rfl,E⟩
theorem ZH{m:Type}{l:List m}{pre:List (Int×m)}{x:Int×m}(h:pre++[x] <+: C8 l):∃r,l[pre.length]?=some r/\x=((pre.length:Int),r):=by
 obtain⟨t,A⟩:=h
 have w:(C8 l)[pre.length]?=some x:=by rw[<-A,Bf];simp
 unfold C8 at w;rw[Ab,Lj]at w
 cases B:l[pre.length]? with
 | none=>ext
 | some r=>ext
theorem qp(h:J4 o us)(A:g<=o)(B:1<=g)(F:Fk o g us kd f)(I:(sts o g)[i]?=some r):Ok (Cb f i) λv=>∃l:Nat,v=l/\∀j,l.testBit j=true↔∃r',(sts o g)[j]?=some r'/\LkA us r r':=by
 have C:=h.sm;have E:=(ES C A B).mp (A2 I);obtain⟨-,-,-,Z⟩:=Jv o C g ∅ A B;unfold Cb Ef;rw[F.ev,Qm I];simp only[AE,BH];refine OkF.out (OkF.seq (OkF.for (λpre (s:Int)=>∃l:Nat,s=l/\∀j,l.testBit j=true↔j < pre.length/\∃r',(sts o g)[j]?=some r'/\LkA us r r') ⟨0,rfl,λj=>by simp⟩ ?_) ?_)
 ·rintro pre x s J Q ⟨l,rfl,m⟩
  obtain⟨n',L,rfl⟩:=ZH Q
  have R:pre.length < (sts o g).length:=by rw[<-F.pl];exact(AJ.mp L).1
  have w:=AI R;generalize (sts o g)[pre.length]=r' at w;have S:=(ES C A B).mp (A2 w);obtain⟨n,N,T,O⟩:=F.pb _ _ w;rw[L]at N;cases N;obtain⟨b,U,hb⟩:=mf h T E.2.1 (aj E.2.2);rw[F.tk];rw[U];simp only[AE]
  have G:b=true↔LkA us r r':=by
   rw[hb]
   refine exists_congr λs=>⟨λq=>q.imp λx J=>?_,λq=>?_⟩
   ·intro z
    have:=InS.rg h E.2.1 q x J;exact(O x this.1 ∅).mp z
   ·refine q.imp λx M z=>?_
    have:=S.2.1 x z;exact(O x this.1 ∅).mpr z
  have P:∀j,(j < (pre++[((pre.length:Int),(n:Int))]).length/\∃r',(sts o g)[j]?=some r'/\LkA us r r')↔(j < pre.length/\∃r',(sts o g)[j]?=some r'/\LkA us r r')∨(pre.length=j/\LkA us r r'):=λj=>by
   rw[AS,Ap]
   constructor
   ·rintro⟨a,s,X,Y⟩
    by_cases e:pre.length=j
    ·ext
    ·exact .inl ⟨by lia,s,X,Y⟩
   ·rintro(⟨a,q⟩ | ⟨rfl,q⟩)
    ·exact⟨by lia,q⟩
    ·exact⟨by ext,r',w,q⟩
  cases b with
  | true=>
   have H:=G.mp rfl;rw[qX rfl,Mt ∅];simp only[AE];rw[TF];exact .nx ⟨_,rfl,λj=>(dJ m j).trans (Iff.trans ⟨λz=>z.imp id λe=>⟨e,H⟩,λz=>z.imp id λe=>e.1⟩ (P j).symm)⟩
  | false=>
   have H:¬LkA us r r':=λz=>by ext
   exact .nx ⟨l,rfl,λj=>(m j).trans (Iff.trans ⟨.inl,λz=>z.elim id λe=>zX e.2 H⟩ (P j).symm)⟩
 ·rintro s ⟨l,rfl,m⟩
  refine .rt ⟨l,rfl,λj=>(m j).trans ⟨λz=>z.2,λ⟨r',e,z⟩=>⟨?_,r',e,z⟩⟩⟩;rw[show(C8 f.pb).length=f.pb.length by unfold C8;simp,F.pl];exact(AJ.mp e).1
def Lk(kd:Str)(us:List ZPi)(r r':ZLi):Prop:=if kd = "one" then Lk1 us r r' else LkA us r r'
theorem cE(h:J4 o us)(m:g<=o)(w:1<=g)(F:Fk o g us kd f)(A:(sts o g)[i]?=some r):Ok (E1 f i) λv=>∃l:Nat,v=l/\∀j,l.testBit j=true↔∃r',(sts o g)[j]?=some r'/\Lk kd us r r':=by
 have B:=h.sm;obtain⟨-,-,-,C⟩:=Jv o B g ∅ m w;have E:=(AJ.mp A).1;unfold E1 IR;rw[qX ⟨by ext,by lia⟩,F.kd]
 by_cases c:kd = "one"
 ·rw[wX c,qX rfl,show Lk kd us r=Lk1 us r from funext λG=>qX c]
  exact qH h m w F A
 ·rw[wY c,qY Av,show Lk kd us r=LkA us r from funext λG=>qY c]
  exact qp h m w F A
theorem dN(h:J4 o us)(A:g<=o)(B:1<=g)(F:Fk o g us kd f)(m:(sts o g)[i]?=some r){c:Int}(C:0<=c/\c < o):Ok (EC f i c) λv=>∃l:Nat,v=l/\∀j,l.testBit j=true↔∃r',(sts o g)[j]?=some r'/\Lk kd us r r'/\c∈r':=by
 obtain⟨v,e,l,rfl,H⟩:=cE h A B F m
 obtain⟨-,I⟩:=qf λr m x J=>((ES h.sm A B).mp m).2.1 x J
 obtain⟨b,b1,b2⟩:=I c.toNat (by ext);unfold EC Ht;rw[e,F.hv,Hy C.1 b1];simp only[AE];rw[PK];refine⟨_,rfl,_,rfl,λj=>?_⟩;rw[Nat.testBit_and,Di,H,b2];symm;rw[BG C.1];exact⟨λ⟨⟨r',w,E⟩,r'',L,G⟩=>by ext,λ⟨r',w,E,G⟩=>⟨⟨r',w,E⟩,r',w,G⟩⟩
theorem ii(h:J4 o us)(F:Fk o g us kd f)(l:(sts o g)[i]?=some r):EZ f i=some ((CI 0 o).filter λc=>!decide (c∈r)):=by
 have m:=h.sm;unfold EZ Ik;rw[F.ev,Qm l,F.tk,show(tkl o us).length=o by unfold tkl;rw[AF,Ck]];simp only[AE,BH];rw[Mw ∅ ∅,Ay];simp only[AE];rw[E2 (by rw[Ck];lia) λG G=>rfl];rfl
end
open L2 L4
structure Dl(f:Fp)(N:Nat)(cl:Nat->ZLi)(B:Nat->Int->Nat->Prop):Prop where
 ln:f.ev.length=N
 sm:N<=400
 cs:∀n,n < N->EZ f n=some (cl n)/\(cl n).length<=1000/\(cl n).Pairwise (· < ·)
 bh:∀n,n < N->∀c∈cl n,Ok (EC f n c) λv=>∃l:Nat,v=l/\∀j,l.testBit j=true↔B n c j
 rg:∀n c j,B n c j->j < N
abbrev TL:=List (Int×ZPi)
structure Fa(N:Nat)(cl:Nat->ZLi)(B:Nat->Int->Nat->Prop)(T:TL):Prop where
 nd:(T.map (·.1)).Nodup
 rg:∀n∈T.map (·.1),0<=n/\n < (N:Int)
 ok:∀(m:Nat) z,AT T (m:Int)=some z->1<=z.1/\z.2∈cl m/\(∀j,B m z.2 j->∃y,AT T (j:Int)=some y/\y.1 < z.1)/\(∀c∈cl m,c < z.2->∃j,B m c j/\∀y,AT T (j:Int)=some y->z.1<=y.1)/\(2<=z.1->∀c∈cl m,∃j,B m c j/\∀y,AT T (j:Int)=some y->z.1<=y.1+1)
 no:∀m:Nat,m < N->AT T (m:Int)=none->∀c∈cl m,∃j,B m c j/\AT T (j:Int)=none
 hi:∀(m:Nat) z,AT T (m:Int)=some z->z.1<=N
section
variable{f:Fp}{N:Nat}{cl:Nat->ZLi}{B:Nat->Int->Nat->Prop}{b:Nat}
def RW(B:Nat->Int->Nat->Prop)(b m:Nat)(c:Int):Prop:=∀j,B m c j->b.testBit j=false
def Fst(cl:Nat->ZLi)(B:Nat->Int->Nat->Prop)(b m:Nat)(c:Int):Prop:=c∈cl m/\RW B b m c/\∀l∈cl m,l < c->¬RW B b m l
theorem QF(h:¬RW B b m c):∃j,B m c j/\b.testBit j=true:=BR λz=>h λj l=>by
 ext
theorem dP:(a &&& b)=0↔∀j,a.testBit j=true->b.testBit j=false:=by
 constructor
 ·intro h j l
  have:rZ (a &&& b) j=rZ 0 j:=by rw[h]
  grind
 ·intro h
  refine Nat.eq_of_testBit_eq λj=>?_
  ext
def FN(cl:Nat->ZLi)(B:Nat->Int->Nat->Prop)(b:Nat)(K:List ZPi):Prop:=(K.map (·.1)).Nodup/\(∀n∈K.map (·.1),0<=n/\b.testBit n.toNat=true)/\∀(m:Nat) c,AT K (m:Int)=some c↔b.testBit m=true/\Fst cl B b m c
theorem Wm(hb:b < 2 ^ N)(h:b.testBit i=true):i < N:=dw λl=>by
 have m:=Vo (Aa hb (HR (by decide) l))
 ext
theorem M4{l:Type}{K:List (Int×l)}(m:(K.map (·.1)).Nodup)(o:∀n∈K.map (·.1),0<=n/\n < (N:Int)):K.length<=N:=by
 have:=Gr (k:=CI 0 N) m λx w=>by rw[CQ];have:=o x w;ext
 rwa [Ck,AF]at this
open Classical in
theorem SB(D:Dl f N cl B)(hb:b < 2 ^ N):Ok (DZ f (b:Int)) (FN cl B b):=by
 obtain⟨l,e,Z,L⟩:=R5 hb (by have:=D.sm;lia)
 have O:∀x∈l,0<=x/\x < (N:Int):=λx A=>by
  obtain⟨x0,A⟩:=(L x).mp A;have:=Wm hb A
  ext
 unfold DZ Ig;rw[e];simp only[AE,BH];refine OkF.out (OkF.seq (OkF.for (λpre (s:List ZPi)=>(s.map (·.1)).Nodup/\(∀n∈s.map (·.1),n∈pre)/\∀(m:Nat) c,AT s (m:Int)=some c↔(m:Int)∈pre/\Fst cl B b m c) ⟨by simp,λM h=>h,λm c=>⟨λh=>(nomatch h),λh=>(nomatch h.1)⟩⟩ ?_) ?_)
 ·rintro pre x s A T ⟨H,I,Q⟩
  obtain⟨x0,C⟩:=(L x).mp A
  obtain⟨m,rfl⟩:∃m:Nat,x=m:=⟨x.toNat,by lia⟩
  rw[Ay]at C;have U:=Wm hb C;obtain⟨c1,c2,c3⟩:=D.cs m U
  have hxp:(m:Int)∉pre:=by
   have:=Z.sublist T.sublist;rw[BC]at this;intro z;have:=this.2.2 _ z _ (T9 _)
   lia
  rw[c1];simp only[AE]
  rw[E2 (P:=λc=>decide (RW B b m c)) ∅ λc hc=>by
   obtain⟨v,e1,q,rfl,hq⟩:=D.bh m U c hc;rw[e1];simp only[AE];rw[PK]
   congr 1
   refine decide_eq_decide.mpr ?_;rw[show((q &&& b:Nat):Int)=0↔(q &&& b)=0 by lia,dP]
   exact forall_congr' λj=>imp_congr_left (hq j)]
  simp only[AE,BH]
  have J:∀c,c∈(cl m).filter (λc=>decide (RW B b m c))↔c∈cl m/\RW B b m c:=λc=>by ext
  have X:((cl m).filter λc=>decide (RW B b m c)).Pairwise (· < ·):=c3.filter _;generalize (cl m).filter (λc=>decide (RW B b m c))=o at J X
  cases o with
  | nil=>
   have nf:∀c,¬Fst cl B b m c:=λc ⟨E,G,_⟩=>nomatch (J c).mpr ⟨E,G⟩
   refine .nx ⟨H,λn w=>CM _ (I n w),λk c=>(Q k c).trans ⟨λ⟨a,q⟩=>⟨CM _ a,q⟩,λ⟨a,q⟩=>⟨?_,q⟩⟩⟩
   rcases Ak.mp a with a | a
   ·exact a
   ·have e:k=m:=by have:=Au.mp a;lia
    grind
  | cons c0 o=>
   have R:Fst cl B b m c0:=by
    obtain⟨E,G⟩:=(J c0).mp (AW ..);refine⟨E,G,λY S h4 h5=>?_⟩
    rcases Aj.mp ((J Y).mpr ⟨S,h5⟩)with h | h
    ·lia
    ·have:=(Fx.mp X).1 Y h;lia
   have f1:∀c,Fst cl B b m c↔c=c0:=λc=>⟨by
    rintro ⟨E,G,S⟩
    rcases Int.lt_trichotomy c c0 with h | h | h
    ·exact zX G (R.2.2 c E h)
    ·exact h
    ·exact zX R.2.1 (S c0 R.1 h),λh=>by lia⟩
   have za:=M4 H λn w=>O n ((List.sublist_append_left pre [(m:Int)]).trans T.sublist |>.subset (I n w))
   have hN:=D.sm;rw[show(!(c0 :: o).isEmpty)=true from rfl,qX rfl,show atI (c0 :: o) 0=some c0 from Hy ∅ rfl];simp only[AE];rw[show B2 s (m:Int) c0=some (Cm s (m:Int) c0)from qX ∅];refine .nx ⟨?_,λn w=>?_,λk c=>?_⟩
   ·rw[GC]
    grind
   ·rw[GC]at w
    grind
   ·rw[CG]
    by_cases e:(k:Int)=m
    ·have e':k=m:=by lia
     subst e';rw[qX rfl,f1];exact⟨λh=>⟨by simp,(B1 h).symm⟩,λh=>by rw[h.2]⟩
    ext
 ·rintro s ⟨H,I,Q⟩
  refine .rt ⟨H,λn w=>(L n).mp (I n w),λm c=>(Q m c).trans (and_congr_left λM=>?_)⟩;ext
structure Rnd(N:Nat)(cl:Nat->ZLi)(B:Nat->Int->Nat->Prop)(s:TL×Int×Int×List ZPi)(b:Nat):Prop where
 lf:s.2.1=b
 lt:b < 2 ^ N
 bt:∀j,b.testBit j=true↔j < N/\AT s.1 (j:Int)=none
 st:1<=s.2.2.1
 nd:(s.1.map (·.1)).Nodup
 rg:∀n∈s.1.map (·.1),0<=n/\n < (N:Int)
 ok:∀(m:Nat) z,AT s.1 (m:Int)=some z->z.1 < s.2.2.1/\1<=z.1/\z.2∈cl m/\(∀j,B m z.2 j->∃y,AT s.1 (j:Int)=some y/\y.1 < z.1)/\(∀c∈cl m,c < z.2->∃j,B m c j/\∀y,AT s.1 (j:Int)=some y->z.1<=y.1)/\(2<=z.1->∀c∈cl m,∃j,B m c j/\∀y,AT s.1 (j:Int)=some y->z.1<=y.1+1)
 mn:2<=s.2.2.1->∀m:Nat,m < N->AT s.1 (m:Int)=none->∀c∈cl m,∃j,B m c j/\∀y,AT s.1 (j:Int)=some y->s.2.2.1<=y.1+1
 fn:FN cl B b s.2.2.2
 sl:s.2.2.1<=s.1.length+1
theorem U4{l:ZLi}{P:Int->Prop}(h:∃c∈l,P c):∃c∈l,P c/\∀c'∈l,c' < c->¬P c':=by
 induction l with
 | nil=>ext
 | cons x l E=>
  by_cases G:∃c∈l,P c
  ·obtain⟨c,H,I,w⟩:=E G
   by_cases A:P x/\x < c
   ·exact⟨x,AW ..,A.1,λc' o C m=>by
     rcases Aj.mp o with h | h
     ·ext
     ·exact w c' h ∅ m⟩
   ·exact⟨c,AM _ H,I,λc' o C m=>by
     rcases Aj.mp o with h | h
     ·exact A ⟨by rw[<-h];exact m,by ext⟩
     ·exact w c' h C m⟩
  ext
set_option tactic.hygienic true in
theorem gT(D:Dl f N cl B)(h:Rnd N cl B s b)(sf:s.2.2.2≠[]) :
  ∃s' C,AU (BZ (s.2.2.2.map (·.1)) (s.1,s.2.1) λ(X:TL×Int) P=>AU (((AT s.2.2.2 P).bind λuA=>some (s.2.2.1,uA)).bind λwF=>(B2 X.1 P wF).bind λvz=>some (.nx vz)) λui=>BW (λtF=>(ui,tF)) ((F9 (1:Int) P).bind λtU=>some (.nx (Es X.2 tU)))) (λuj=>AU (some (.nx (s.2.2.1+(1:Int)))) λϞ=>BW (λϟ=>(uj.1,uj.2,Ϟ,ϟ)) ((DZ f uj.2).bind λϠ=>some (.nx Ϡ)))=some (.nx (ρ:=TL) s')/\Rnd N cl B s' C/\s.1.length < s'.1.length:=by
 obtain⟨T,left,I,K⟩:=s;obtain⟨lf,lt,Q,st,nd,rg,ok,mn,fn,sl⟩:=h;dsimp only at lf Q st nd rg ok mn fn sf sl ⊢;subst lf;have hN:=D.sm;obtain⟨k1,k2,k3⟩:=fn
 have kN:∀n∈K.map (·.1),0<=n/\n < (N:Int):=λn J=>by
  obtain⟨a,q⟩:=k2 n J;have:=Wm lt q
  lia
 have kT:∀n∈K.map (·.1),AT T n=none:=λn J=>by
  obtain⟨a,q⟩:=k2 n J;have:=((Q _).mp q).2;rwa [BG a]at this
 obtain⟨⟨E,R⟩,e,S,U,t3,C,rfl,b1,b2⟩:=GD (s0:=(T,(b:Int))) (q:=λ(X:TL×Int) P=>AU (((AT K P).bind λuA=>some (I,uA)).bind λwF=>(B2 X.1 P wF).bind λvz=>some (.nx vz)) λui=>BW (λtF=>(ui,tF)) ((F9 (1:Int) P).bind λtU=>some (.nx (Es X.2 tU))))
  (λpre s=>(s.1.map (·.1)).Nodup/\(∀n∈s.1.map (·.1),0<=n/\n < (N:Int))/\(∀n,AT s.1 n=if n∈pre then(AT K n).map λc=>(I,c)else AT T n)/\∃C:Nat,s.2=C/\C < 2 ^ N/\∀j:Nat,C.testBit j=true↔b.testBit j=true/\(j:Int)∉pre)
  ⟨nd,rg,λn=>by simp,b,rfl,lt,λj=>by simp⟩ (by
   rintro pre x ⟨E,R⟩ Y hp ⟨S,U,t3,C,rfl,b1,b2⟩;dsimp only at S U t3 ⊢;obtain⟨x0,xN⟩:=kN x Y;obtain⟨-,xb⟩:=k2 x Y
   have xp:x∉pre:=by
    have:=k1.sublist hp.sublist;unfold IH at this;rw[BC]at this
    exact λz=>this.2.2 _ z _ (T9 _) rfl
   obtain⟨c,l⟩:=DF.mp ((C7 K x).mpr Y);have hl:=M4 S U;rw[l];simp only[AE];rw[show B2 E x (I,c)=some (Cm E x (I,c))from qX ∅];rw[show x=((x.toNat:Nat):Int) by lia,Mt ∅];simp only[AE];rw[eW,<-show x=((x.toNat:Nat):Int) by lia];refine⟨_,rfl,?_,λn J=>?_,λn=>?_,_,rfl,Nat.xor_lt_two_pow b1 (Nat.pow_lt_pow_right ∅ ∅),λj=>?_⟩
   ·rw[GC]
    split
    ·exact S
    ·rename_i hk
     exact Iy.mpr ⟨S,by simp,λy A z o=>by rw[Au.mp o];lia⟩
   ·rw[GC]at J
    split at J
    ·exact U n J
    ·rcases Ak.mp J with h | h
     ·exact U n h
     ·rw[Au.mp h];exact⟨x0,xN⟩
   ·rw[CG]
    by_cases e:n=x
    ·subst e
     rw[qX rfl,qX ∅,l];rfl
    ·rw[qY e,t3]
     have:n∈pre++[x]↔n∈pre:=by rw[Ak,Au];exact⟨λz=>z.elim id λz=>zX z e,.inl⟩
     lia
   ·rw[Nat.testBit_xor,Ma,bne_iff_ne,ne_eq,Ak,Au]
    have hb':=b2 j
    by_cases e:x.toNat=j
    ·subst e
     rw[wX rfl];have:C.testBit x.toNat=true:=(b2 _).mpr ⟨xb,by rw[BG x0];exact xp⟩;rw[this];refine⟨λz=>zX rfl z,λz=>zX (.inr ∅) z.2⟩
    ·rw[wY e]
     have:¬(j:Int)=x:=by lia
     lia)
 rw[e];simp only[BH];obtain⟨K',eK,hK⟩:=SB D b1;rw[eK]
 have tv:∀n,AT E n=match AT K n with | some c=>some (I,c) | none=>AT T n:=λn=>by
  rw[t3]
  by_cases h:n∈K.map (·.1)
  ·rw[qX h]
   obtain⟨c,l⟩:=DF.mp ((C7 K n).mpr h);rw[l];rfl
  ·rw[qY h]
   cases l:AT K n with
   | none=>rfl
   | some c=>exact zX ((C7 K n).mp (by rw[l];rfl)) h
 have G:∀n z,AT T n=some z->AT E n=some z:=λn z o=>by
  grind
 have Z:∀n z,AT E n=some z->AT T n=some z∨(AT T n=none/\z.1=I):=λn z o=>by
  rw[tv]at o
  cases l:AT K n with
  | none=>rw[l]at o;exact .inl o
  | some c=>
   rw[l]at o;cases o;exact .inr ⟨kT n ((C7 K n).mp (by rw[l];rfl)),rfl⟩
 have bt':∀j,C.testBit j=true↔j < N/\AT E (j:Int)=none:=λj=>by
  rw[b2,Q,tv]
  constructor
  ·rintro⟨⟨H,w⟩,h3⟩
   refine⟨H,?_⟩
   cases l:AT K (j:Int)with
   | none=>exact w
   | some c=>exact zX ((C7 K _).mp (by rw[l];rfl)) h3
  ·rintro⟨H,w⟩
   cases l:AT K (j:Int)with
   | none=>rw[l]at w;exact⟨⟨H,w⟩,λz=>by have:=(C7 K _).mpr z;grind⟩
   | some c=>rw[l]at w;cases w
 have up:∀(j:Nat) (r:Int),r<=I->(∀y,AT T (j:Int)=some y->r<=y.1)->∀y,AT E (j:Int)=some y->r<=y.1:=λj r hr h y A=>by
  rcases Z _ _ A with H | ⟨_,w⟩
  ·exact h y H
  ·lia
 have hlen:T.length < E.length:=by
  cases K with
  | nil=>lia
  | cons x K=>
   have Y:=kT x.1 (AW ..);have J:=BJ.mpr ⟨λz=>Av (by have:=(C7 T _).mpr z;rw[Y]at this;exact this),nd⟩
   have:=Gr J λy A=>by
    rw[<-C7]
    rcases Aj.mp A with h | h
    ·subst h
     rw[tv];obtain⟨c,l⟩:=DF.mp ((C7 (x :: K) x.1).mpr (AW ..));rw[l];rfl
    ·obtain⟨z,o⟩:=DF.mp ((C7 T y).mpr h)
     rw[G _ _ o];rfl
   rw[Am,AF,AF]at this
   lia
 refine⟨(E,(C:Int),I+1,K'),C,rfl,⟨rfl,b1,bt',by show 1<=I+1;lia,S,U,λm z o=>?_,λM m hm o c l=>?_,hK,by show I+1<=(E.length:Int)+1;lia⟩,hlen⟩
 ·dsimp only at o ⊢
  rcases Z _ _ o with H | ⟨H,w⟩
  ·obtain⟨o1,o2,o3,o4,o5,o6⟩:=ok m z H
   refine⟨by lia,o2,o3,λj hj=>?_,λc l rk=>?_,λw c l=>?_⟩
   ·obtain⟨y,y1,y2⟩:=o4 j hj
    exact⟨y,G _ _ y1,y2⟩
   ·obtain⟨j,L,O⟩:=o5 c l rk
    exact⟨j,L,up j z.1 ∅ O⟩
   ·obtain⟨j,L,O⟩:=o6 w c l
    refine⟨j,L,λy A=>?_⟩;have:=up j (z.1 - 1) ∅ (λy A=>by have:=O y A;lia) y A
    lia
  ·obtain⟨r,c⟩:=z
   have l:AT K (m:Int)=some c:=by
    have:=tv (m:Int);rw[o]at this
    cases l:AT K (m:Int)with
    | none=>lia
    | some c'=>lia
   subst w;obtain⟨f0,f1,f2,f3⟩:=(k3 m c).mp l;refine⟨by symm;lia,st,f1,λj hj=>?_,λc' t5 rk=>?_,λw c' t5=>?_⟩
   ·have hjN:=D.rg _ _ _ hj
    cases hv:AT T (j:Int)with
    | none=>
     have:=(Q j).mpr ⟨hjN,hv⟩;rw[f2 j hj]at this;cases this
    | some y=>exact⟨y,G _ _ hv,(ok j y hv).1⟩
   ·obtain⟨j,L,O⟩:=QF (f3 c' t5 rk)
    refine⟨j,L,λy A=>?_⟩
    rcases Z _ _ A with q | ⟨_,q⟩
    ·rw[((Q j).mp O).2]at q;cases q
    ·symm;lia
   ·obtain⟨j,L,O⟩:=mn w m ((Q m).mp f0).1 H c' t5
    refine⟨j,L,λy A=>?_⟩
    rcases Z _ _ A with q | ⟨_,q⟩
    ·exact O y q
    ·symm;lia
 ·dsimp only at o ⊢
  obtain⟨H,w⟩:=(b2 m).mp ((bt' m).mpr ⟨hm,o⟩)
  have nl:¬RW B b m c:=λhl=>by
   obtain⟨c0,q1,q2,q3⟩:=U4 ⟨c,l,hl⟩;have:=(k3 m c0).mpr ⟨H,q1,q2,q3⟩;exact w ((C7 K _).mp (by rw[this];rfl))
  obtain⟨j,L,O⟩:=QF nl;refine⟨j,L,λy A=>?_⟩
  rcases Z _ _ A with q | ⟨_,q⟩
  ·rw[((Q j).mp O).2]at q;cases q
  ·lia
theorem cu(D:Dl f N cl B):Ok (Kr f) (Fa N cl B):=by
 have hN:=D.sm;unfold Kr P4;rw[D.ln,Mt ∅];simp only[AE,BH];have hp:=iw N;rw[show((2 ^ N:Nat):Int) - 1=((2 ^ N - 1:Nat):Int) by omega]
 have lt:2 ^ N - 1 < 2 ^ N:=by omega
 obtain⟨K,O,P⟩:=SB D lt;rw[O];simp only[AE,BH];have Q:Rnd N cl B ([],((2 ^ N - 1:Nat):Int),1,K) (2 ^ N - 1):=⟨rfl,lt,λj=>by rw[Nat.testBit_two_pow_sub_one,decide_eq_true_eq];exact⟨λh=>⟨h,rfl⟩,λh=>h.1⟩,rf 1,GV,λM h=>(nomatch h),λm z h=>(nomatch h),λh=>zX (show(2:Int)<=1 from h) (by decide),P,rf 1⟩
 obtain⟨l,e,⟨b,h⟩,A⟩:=Sg (c:=λ(R:TL×Int×Int×(List ZPi))=>some (!R.2.2.2.isEmpty)) (q:=λ(s:TL×Int×Int×(List ZPi))=>AU (BZ (s.2.2.2.map (·.1)) (s.1,s.2.1) λ(H:TL×Int) C=>AU (((AT s.2.2.2 C).bind λS=>some (s.2.2.1,S)).bind λT=>(B2 H.1 C T).bind λU=>some (.nx U)) λX=>BW (λY=>(X,Y)) ((F9 (1:Int) C).bind λZ=>some (.nx (Es H.2 Z)))) (λE=>AU (some (.nx (s.2.2.1+(1:Int)))) λϞ=>BW (λϟ=>(E.1,E.2,Ϟ,ϟ)) ((DZ f E.2).bind λϠ=>some (.nx Ϡ)))) (λs=>∃b,Rnd N cl B s b) (λs=>N - s.1.length) (by
   rintro s ⟨b,h⟩
   cases w:s.2.2.2 with
   | nil=>left;rfl
   | cons x K=>
    right
    obtain⟨l,b',I,G,e3⟩:=gT D h (by ext);rw[w]at I;refine⟨rfl,l,I,⟨b',G⟩,?_⟩;have:=M4 G.nd G.rg
    grind) wN _ ⟨_,Q⟩ (by show N - 0 < wN;lia)
 simp only[BH]at e;rw[e];refine⟨l.1,rfl,?_⟩
 have w:l.2.2.2=[]:=by
  have:=B1 A
  cases w:l.2.2.2 with
  | nil=>rfl
  | cons x K=>ext
 obtain⟨lf,lt,J,st,L,rg,ok,mn,fn,sl⟩:=h;refine⟨L,rg,λm z o=>(ok m z o).2,λm hm o c A=>?_,λm z o=>by have:=(ok m z o).1;have:=M4 L rg;lia⟩;have hb:=(J m).mpr ⟨hm,o⟩
 have nl:¬RW B b m c:=λhl=>by
  obtain⟨c0,q1,q2,q3⟩:=U4 ⟨c,A,hl⟩;have:=(fn.2.2 m c0).mpr ⟨hb,q1,q2,q3⟩;rw[w]at this;cases this
 obtain⟨j,j1,j2⟩:=QF nl;exact⟨j,j1,((J j).mp j2).2⟩
end
theorem Yf(l:ZLi)(x:Int):UY (l++[x])=UY l+x:=by
 rw[Sv,Sv,List.sum_append];simp
theorem gK(P:Int->Bool):∀n:Nat,∃b:Nat,UY (((CI 0 n).filter P).map λx=>((2 ^ x.toNat:Nat):Int))=b/\b < 2 ^ n/\∀j,b.testBit j=true↔j < n/\P (j:Int)=true:=by
 intro n
 induction n with
 | zero=>exact⟨0,rfl,by decide,λj=>by simp⟩
 | succ n A=>
  obtain⟨b,l,B,m⟩:=A
  have e:CI 0 (n+1)=CI 0 n++[(n:Int)]:=by
   unfold CI;rw[List.range_succ,Be];simp
  rw[e,OQ]
  by_cases o:P (n:Int)=true
  ·rw[qX o,Be,List.map_singleton,Yf,l,Ay]
   refine⟨b+2 ^ n,by rfl,by rw[KI];lia,λj=>?_⟩;have w:=Nat.two_pow_add_eq_or_of_lt B 1;rw[Nat.mul_one]at w;rw[Nat.add_comm,w,jt,Ma,KP,decide_eq_true_eq,m]
   constructor
   ·rintro(rfl | ⟨a,q⟩)
    ·ext
    ·exact⟨by lia,q⟩
   ·rintro⟨a,q⟩
    by_cases e:n=j
    ·exact .inl e
    ·exact .inr ⟨by lia,q⟩
  ·rw[qY o]
   refine⟨b,l,by rw[KI];lia,λj=>(m j).trans ⟨by rintro ⟨a,q⟩;exact ⟨by lia,q⟩,λ⟨a,q⟩=>⟨?_,q⟩⟩⟩
   grind
section
variable{f:Fp}{N:Nat}{cl:Nat->ZLi}{B:Nat->Int->Nat->Prop}{T:TL}
theorem ZW(D:Dl f N cl B):∃b:Nat,Ez f T=some (b:Int)/\b < 2 ^ N/\∀j,b.testBit j=true↔j < N/\AT T (j:Int)=none:=by
 have A:=D.sm;obtain⟨b,l,m,o⟩:=gK (λx=>!(AT T x).isSome) N;refine⟨b,?_,m,λj=>(o j).trans (and_congr_right λG=>by ext)⟩;unfold Ez Hq;rw[D.ln];simp only[AE];rw[Mw (by ext) ∅,Ay];simp only[AE]
 rw[K1 (by rw[Ck];lia) (λG G=>rfl) λx w G=>by
  obtain⟨C,E⟩:=CQ.mp w
  conv=>lhs;rw[show x=((x.toNat:Nat):Int) by lia]
  exact Mt ∅]
 simp only[AE];rw[l];rfl
end
def evN(o g:Nat)(n:Int):ZLi:=(sts o g).getD n.toNat []
def clS(o g:Nat)(n:Nat):ZLi:=(CI 0 o).filter λc=>!decide (c∈evN o g n)
def BS(o g:Nat)(us:List ZPi)(kd:Str)(n:Nat)(c:Int)(j:Nat):Prop:=∃r l,(sts o g)[n]?=some r/\(sts o g)[j]?=some l/\Lk kd us r l/\c∈l
section
variable{o g:Nat}{us:List ZPi}{kd:Str}{f:Fp}{T:TL}
theorem Nq{n:Nat}{r:ZLi}(h:(sts o g)[n]?=some r):evN o g n=r:=by
 unfold evN;ext
theorem qi(h:J4 o us)(B:g<=o)(C:1<=g)(F:Fk o g us kd f):Dl f (sts o g).length (clS o g) (BS o g us kd):=by
 have H:=h.sm;obtain⟨-,-,-,E⟩:=Jv o H g ∅ B C;refine⟨by rw[F.ev],by lia,λn w=>?_,λn w c G=>?_,λn c j ⟨r,A,_,e,_⟩=>(AJ.mp e).1⟩
 ·have m:=AI w
  refine⟨?_,?_,(S4 0 o).filter _⟩
  ·rw[ii h F m]
   unfold clS;rw[Nq m]
  ·have:=DD (λc=>!decide (c∈evN o g n)) (CI 0 o)
   rw[Ck]at this;unfold clS
   lia
 ·have m:=AI w
  unfold clS at G;obtain⟨I,-⟩:=Az.mp G;obtain⟨J,L⟩:=CQ.mp I
  refine(dN h B C F m ⟨J,by ext⟩).imp λv ⟨l,e,E⟩=>⟨l,e,λj=>(E j).trans ⟨λ⟨A,q⟩=>⟨_,A,m,q⟩,λ⟨r,A,N,q⟩=>?_⟩⟩
  ext
theorem mw(h:J4 o us)(w:g<=o)(A:1<=g):∃T:TL,Fa (sts o g).length (clS o g) (BS o g us kd) T /\
  Hg (o,us) g kd=some (((CI 0 (sts o g).length).filter λn=>!(AT T n).isSome).map (evN o g)):=by
 have G:=h.sm;obtain⟨-,-,-,Q⟩:=Jv o G g ∅ w A;obtain⟨f,H,F⟩:=cr (kd:=kd) h w A;have D:=qi h w A F;obtain⟨T,eT,I⟩:=cu D
 have at':∀n∈CI 0 (sts o g).length,atI f.ev n=some (evN o g n):=λn B=>by
  obtain⟨C,R⟩:=CQ.mp B;have E:=AI (l:=sts o g) (i:=n.toNat) (by ext);rw[F.ev,Hy C E]
  congr 1
  have:=Nq E;rw[BG C]at this;exact this.symm
 refine⟨T,I,?_⟩
 ·obtain⟨b,J,b1,b2⟩:=ZW (T:=T) D
  obtain⟨l,L,N,O⟩:=R5 b1 ∅
  have P:l=(CI 0 (sts o g).length).filter λn=>!(AT T n).isSome:=Mx N ((S4 0 _).filter _) λx=>by
   rw[O,Az,CQ,b2]
   constructor
   ·rintro⟨m,a,q⟩
    rw[BG m]at q;ext
   ·rintro⟨⟨m,a⟩,q⟩
    refine⟨m,by lia,?_⟩;rw[BG m];ext
  unfold Hg Nd;rw[H];simp only[AE,BH];rw[eT];simp only[AE];rw[J];simp only[AE];rw[L];simp only[AE];rw[P,EG (by have:=DD (λn=>!(AT T n).isSome) (CI 0 (sts o g).length);rw[Ck]at this;lia) λn B=>at' n (Az.mp B).1];rfl
end
open L2 L4
open Srt (ltL)
theorem QG:z∈DY us x↔((x:Int),z)∈us∨(z,(x:Int))∈us:=by
 rw[<-WR];exact EA.symm
theorem R4:∀{us:List ZPi},us.Nodup->(∀t∈us,t.1 < t.2)->(DY us x).Nodup
 | [],_,_=>GV
 | t :: us,h,l=>by
  have m:=R4 (x:=x) (BJ.mp h).2 λs A=>l s (AM _ A)
  have B:=(BJ.mp h).1;have lt:=l t AW
  have e:DY (t :: us) x=((if t.1=(x:Int)then[t.2]else[])++(if t.2=(x:Int)then[t.1]else[]))++DY us x:=by
   unfold DY;rw[Iz]
  rw[e]
  have lt':∀a b:Int,(a,b)∈us->a < b:=λa b C=>l _ (AM _ C)
  by_cases o:t.1=(x:Int)
  ·rw[qX o,qY (by grind),BO]
   show(t.2 :: DY us x).Nodup;rw[BJ];refine⟨λz=>?_,m⟩
   rcases QG.mp z with z | z
   ·grind
   ·have:=lt' _ _ z;lia
  ·rw[qY o,List.nil_append]
   by_cases w:t.2=(x:Int)
   ·rw[qX w]
    show(t.1 :: DY us x).Nodup;rw[BJ];refine⟨λz=>?_,m⟩
    rcases QG.mp z with z | z
    ·have:=lt' _ _ z;lia
    ·rw[<-w]at z;exact B z
   ext
section
variable{o:Nat}{ts:List ZPi}
theorem Gu.ties(h:Gu o ts)(B:o < 8):J4 o (FH ts):=by
 have rg:∀g:Int,0<=g->g < o->∀x∈nr (FH ts) g.toNat,0<=x/\x < o/\x≠g:=λg m w x l=>by
  rw[WR,h.mem,h.mem,BG m]at l
  rcases l with l | l
  ·have:0<=g/\g < x/\x < o:=h.rg _ l;lia
  ·have:0<=x/\x < g/\g < o:=h.rg _ l;lia
 have A:∀g:Int,0<=g->g < o->(nr (FH ts) g.toNat).Nodup:=λg G G=>by
  refine(D2 _).nodup_iff.mpr (R4 ?_ λt C=>?_)
  ·rw[(NY ts).nodup_iff,h.nrm];exact h.nd
  ·exact(h.rg t (h.mem.mp C)).2.1
 refine⟨B,λg m w=>?_,rg,A⟩;have E:=BJ.mpr ⟨λz=>(rg g m w g z).2.2 rfl,A g m w⟩
 have:=Gr (k:=CI 0 o) E λx l=>by
  rw[CQ]
  rcases Aj.mp l with rfl | l
  ·lia
  ·have:=rg g m w x l;lia
 rw[Ck,Am]at this
 lia
theorem mH(h:Gu o ts)(y:Int):(lnr ts y).Nodup:=by
 unfold lnr IH;rw[BN]
 refine(h.nd.filter _).imp_of_mem λ{a b} w l ne e=>ne ?_
 obtain⟨A,m⟩:=Az.mp w;obtain⟨b1,b2⟩:=Az.mp l;have m:=of_decide_eq_true m;have b2:=of_decide_eq_true b2;have B:=h.rg a A;have C:=h.rg b b1;simp only[Aj,DG,or_false]at m b2
 refine RZ ?_ ?_ <;> lia
theorem kz(h:Gu o ts)(g:Int):([g]++CK (lnr ts g)).Nodup:=by
 show(g :: CK (lnr ts g)).Nodup;rw[BJ,(D2 _).nodup_iff,EA,Xr];refine⟨λz=>?_,mH h g⟩
 rcases z with z | z <;> (have:=h.rg _ z;ext)
theorem gN(h:Gu o ts)(l:0<=g):x∈[g]++CK (lnr ts g)↔x∈Tg (FH ts) g:=by
 rw[Qn,h.near l];simp
structure Rw(us:List ZPi)(gs:ZLi)(s:List ZLi):Prop where
 mem:∀r,r∈s↔r.length=gs.length/\r.Nodup/\∀y∈gs.zip r,y.2∈Tg us y.1
 nd:s.Nodup
 ln:s.length<=7 ^ gs.length
theorem WD(h:r.length=n+1):∃t p,r=t++[p]/\t.length=n:=by
 have l:r≠[]:=λz=>by ext
 exact⟨r.dropLast,r.getLast l,(List.dropLast_concat_getLast l).symm,by ext⟩
theorem Jf:(t++[p]).Nodup↔t.Nodup/\p∉t:=by
 grind
noncomputable def lnx(v:ZLi)(r:ZLi):List ZLi:=(v.filter λp=>!decide (p∈r)).map λp=>r++[p]
theorem O7:t∈lnx v r↔∃p,t=r++[p]/\p∈v/\p∉r:=by
 unfold lnx
 grind
theorem Xq:(lnx v r).length<=v.length:=by
 unfold lnx;rw[AF];exact DD _ _
theorem QI(l:v.length<=7):∀L:List ZLi,(L.flatMap (lnx v)).length<=7 * L.length
 | []=>by simp
 | t :: L=>by
  rw[Iz,AS,Am];have:=QI l L;have:=Xq (v:=v) (r:=t)
  lia
theorem Rw.step(h:Rw us w s)(A:∀x,x∈v↔x∈Tg us g)(B:v.Nodup)(hl:v.length<=7):Rw us (w++[g]) (s.flatMap (lnx v)):=by
 refine⟨λr=>?_,?_,?_⟩
 ·rw[List.mem_flatMap]
  constructor
  ·rintro⟨t,m,C⟩
   obtain⟨p,rfl,H,E⟩:=O7.mp C;obtain⟨a,b,c⟩:=(h.mem t).mp m;refine⟨by rw[AS,AS,a];rfl,Jf.mpr ⟨b,E⟩,λy l=>?_⟩;rw[Qw a.symm]at l
   rcases Ak.mp l with l | l
   ·exact c y l
   ext
  ·rintro⟨a,b,c⟩
   rw[AS,Ap]at a;obtain⟨t,p,rfl,m⟩:=WD a;obtain⟨b1,b2⟩:=Jf.mp b;rw[Qw m.symm]at c;refine⟨t,(h.mem t).mpr ⟨m,b1,λy l=>c y (CM _ l)⟩,O7.mpr ⟨p,rfl,(A p).mpr (c (g,p) (BV _ ∅)),b2⟩⟩
 ·unfold IH
  rw[List.pairwise_flatMap];refine⟨λt I=>?_,h.nd.imp λ{a b} ne x G y l e=>?_⟩
  ·unfold lnx
   rw[BN]
   refine(B.filter _).imp λ{a b} ne e=>ne ?_
   simpa using e
  ·obtain⟨p,rfl,_⟩:=O7.mp G
   obtain⟨q,rfl,_⟩:=O7.mp l;ext
 ·have:=QI hl s
  have:=h.ln;rw[AS,Ap,KI]
  lia
end
def Ans(kd:Str)(us:List ZPi)(r:ZLi)(c:Int)(s:ZLi):Prop:=if kd = "one" then ∃a∈r,c∈nr us a.toNat/\s=wst r a c else ZZ us r c s
theorem gM{s r:ZLi}(hs:s.Nodup)(h:∀x∈s,x∈r)(hl:s.length=r.length):∀x∈r,x∈s:=λx m=>BR λl=>by
 have:=Gr (k:=r) (BJ.mpr ⟨l,hs⟩) λy o=>by
  grind
 rw[Am]at this
 lia
section
variable{o g:Nat}{us ts:List ZPi}{kd:Str}{r r':ZLi}{c:Int}
theorem im(h:J4 o us)(w:Stg o g r)(E:c∉r):(∃s,Ans kd us r c s/\CK s=r')↔Stg o g r'/\Lk kd us r r'/\c∈r':=by
 unfold Ans Lk
 by_cases k:kd = "one"
 ·simp only[qX k]
  constructor
  ·rintro⟨s,⟨a,m,J,rfl⟩,rfl⟩
   have hb:=Qn.mpr (.inr J);exact⟨W8 h w m hb E,⟨a,m,c,hb,E,rfl⟩,EA.mpr ((Sb m).mpr (.inl rfl))⟩
  ·rintro⟨-,⟨a,m,b,hb,L,rfl⟩,A⟩
   have e:c=b:=by
    rcases(Sb m).mp (EA.mp A)with e | e
    ·exact e
    ·ext
   subst e
   rcases Qn.mp hb with e | e
   ·ext
   ·exact⟨_,⟨a,m,e,rfl⟩,rfl⟩
 ·simp only[qY k]
  constructor
  ·rintro⟨s,l,rfl⟩
   have rg:=ZZ.rg h w.2.1 l;refine⟨⟨by rw[(D2 _).length_eq,l.1,w.1],λx B=>rg x (EA.mp B),Pt l.2.1⟩,⟨s,l.1,l.2.1,l.2.2.1,λx B=>EA.mpr B⟩,EA.mpr l.2.2.2⟩
  ·rintro⟨G,⟨s,H,C,N,I⟩,A⟩
   have all:=gM C I (by rw[H,w.1,G.1]);exact⟨s,⟨H,C,N,all c A⟩,Mx (Pt C) G.2.2 λx=>EA.trans ⟨I x,all x⟩⟩
theorem eX(l:r.Nodup)(m:k < r.length)(x:Int):r.take k++[x]++r.drop (k+1)=wst r r[k] x:=by
 have e:r.set k x=r.take k++x :: r.drop (k+1):=by rw[List.set_eq_take_append_cons_drop,qX m]
 rw[Bf,En,<-e]
 refine D5 λi=>?_
 unfold wst;rw[Ab,DT]
 by_cases c:k=i
 ·subst c
  grind
 ·rw[qY c]
  cases w:r[i]? with
  | none=>rfl
  | some y=>
   obtain⟨B,A⟩:=AJ.mp w;show some y=some (if y=r[k]then x else y);rw[qY];intro z;rw[<-A]at z;exact c ((Jr l).mp z).symm
theorem Xb(h:∀r∈f,r≠[]):FI f=some (IM f):=qX (Ju.mpr λr l=>by
 ext)
theorem mG(h:Gu o ts)(G:∀g∈l,0<=g/\g < (o:Int))(L:l.Nodup)(U:l≠[])(hl:l.length<=6)(x:Int):Ok (DI ts l x "one") λB=>(∀s,s∈B↔∃a∈l,x∈nr (FH ts) a.toNat/\s=wst l a x)/\B.length<=117649:=by
 have N:=h.ln;unfold DI GB;rw[qX (wX rfl)];simp only[AE];rw[Mw (by ext) ∅,Ay];simp only[AE]
 rw[E2 (P:=λk:Int=>decide (x∈CK (lnr ts (l.getD k.toNat 0)))) (by rw[Ck];lia) λk w=>by
  obtain⟨C,H⟩:=CQ.mp w
  have m:k.toNat < l.length:=by ext
  rw[Hy C (AI m)];simp only[AE];rw[Xs ∅,Bz,AI m]
  rfl]
 simp only[AE,BH];have O:=DD (λk:Int=>decide (x∈CK (lnr ts (l.getD k.toNat 0)))) (CI 0 l.length);rw[Ck]at O
 rw[EG (f:=λk:Int=>wst l (l.getD k.toNat 0) x) ∅ λk w=>by
  obtain⟨C,H⟩:=CQ.mp (Az.mp w).1
  have m:k.toNat < l.length:=by lia
  rw[mj];simp only[AE];rw[show k=((k.toNat:Nat):Int) by lia,nD l ∅,show((k.toNat:Nat):Int)+1=((k.toNat+1:Nat):Int) by rfl,dC l (by trivial),LK (by rw[CV,Ap];grind)];simp only[AE];rw[LK (by rw[AS,CV,FM,Ap];grind),eX L m,Ay,Bz,AI m]
  rfl]
 simp only[AE]
 have E:∀s,s∈((CI 0 l.length).filter λk:Int=>decide (x∈CK (lnr ts (l.getD k.toNat 0)))).map (λk:Int=>wst l (l.getD k.toNat 0) x)↔∃a∈l,x∈nr (FH ts) a.toNat/\s=wst l a x:=λs=>by
  rw[Ax]
  constructor
  ·rintro⟨k,w,rfl⟩
   obtain⟨Q,I⟩:=Az.mp w;obtain⟨C,H⟩:=CQ.mp Q
   have m:k.toNat < l.length:=by lia
   have A:l.getD k.toNat 0=l[k.toNat]:=by rw[Bz,AI m];rfl
   rw[A]at I ⊢;exact⟨_,CB m,(h.near (G _ (CB m)).1 x).mpr (of_decide_eq_true I),rfl⟩
  ·rintro⟨a,R,S,rfl⟩
   obtain⟨k,w,rfl⟩:=CD R
   have A:l.getD ((k:Int)).toNat 0=l[k]:=by rw[Ay,Bz,AI w];rfl
   refine⟨(k:Int),Az.mpr ⟨CQ.mpr ⟨by lia,by ext⟩,?_⟩,by rw[A]⟩;rw[A];exact wX ((h.near (G _ (CB w)).1 x).mp S)
 have J:(((CI 0 l.length).filter λk:Int=>decide (x∈CK (lnr ts (l.getD k.toNat 0)))).map (λk:Int=>wst l (l.getD k.toNat 0) x)).length<=117649:=by rw[AF];lia
 generalize ((CI 0 l.length).filter λk:Int=>decide (x∈CK (lnr ts (l.getD k.toNat 0)))).map (λk:Int=>wst l (l.getD k.toNat 0) x)=f at E J
 rw[Xb λr T z=>by
  obtain⟨a,_,_,e⟩:=(E r).mp T;rw[z]at e;unfold wst at e
  ext]
 exact⟨_,rfl,λs=>(Cz f).mem_iff.trans (E s),by rw[(Cz f).length_eq];exact J⟩
theorem mK(h:Gu o ts)(N:o < 8)(O:∀g∈l,0<=g/\g < (o:Int))(Z:l≠[])(hl:l.length<=6)(x:Int)(P:¬kd = "one"):Ok (DI ts l x kd) λB=>(∀s,s∈B↔ZZ (FH ts) l x s)/\B.length<=117649:=by
 unfold DI GB;rw[wY P,qY Av];simp only[BH,iU,mj,AE];refine OkF.out (OkF.seq (OkF.for (λpre s=>Rw (FH ts) pre s) ⟨λr=>?_,by simp,AN _⟩ ?_) ?_)
 ·ext
 ·intro pre g s Q R m
  have S:=R.length_le;rw[AS,Ap]at S;have w:=O g Q;rw[Xs (by have:=h.ln;lia)];simp only[AE]
  have Ϣ:=λx=>gN h (x:=x) w.1
  have ϣ:=kz h g
  have A:([g]++CK (lnr ts g)).length<=7:=by
   have:=Gr (k:=CI 0 o) ϣ λx T=>by
    have:=((h.ties N).tg w.1 w.2).2.1 x ((Ϣ x).mp T);rw[CQ];lia
   rw[Ck]at this
   lia
  rw[LK (by rw[<-AS];lia)];generalize [g]++CK (lnr ts g)=v at A Ϣ ϣ;simp only[AE,BH];have I:(7:Nat) ^ pre.length<=16807:=A7 (HR ∅ (show pre.length<=5 by lia)) ∅;have J:=m.ln;refine OkF.seq (OkF.for (λC E=>E=C.flatMap (lnx v)) rfl ?_) ?_
  ·rintro C r E G U rfl
   have Ϥ:=U.length_le;rw[AS,Ap]at Ϥ;have X:=((m.mem r).mp G).1;rw[K1 ∅ (λM M=>rfl) λp M M=>LK (by rw[Ap];lia)];simp only[AE];have k1:=QI A C;have Y:=Xq (v:=v) (r:=r);unfold lnx at Y;rw[LK ∅];refine .nx ?_;rw[List.flatMap_append,Iz,List.flatMap_nil,BO];rfl
  ·rintro E rfl
   exact .nx (m.step Ϣ ϣ A)
 ·intro s m
  have I:(7:Nat) ^ l.length<=117649:=A7 (HR ∅ hl) ∅;have J:=m.ln;rw[E2 ∅ λM M=>rfl];simp only[AE]
  have H:∀r,r∈s.filter (λr=>decide (x∈r))↔ZZ (FH ts) l x r:=λr=>by
   rw[Az,m.mem,decide_eq_true_eq];exact⟨by rintro ⟨⟨a,b,c⟩,d⟩;exact ⟨a,b,c,d⟩,by rintro ⟨a,b,c,d⟩;exact ⟨⟨a,b,c⟩,d⟩⟩
  have L:(s.filter λr=>decide (x∈r)).length<=117649:=A7 (DD _ _) (A7 J I);generalize s.filter (λr=>decide (x∈r))=f at H L
  rw[Xb λr G z=>by
   have:=((H r).mp G).1
   grind]
  exact .rt ⟨λr=>(Cz f).mem_iff.trans (H r),by rw[(Cz f).length_eq];exact L⟩
theorem lans(h:Gu o ts)(C:o < 8)(hs:Stg o g m)(E:1<=g)(w:g<=6)(x:Int)(kd:Str):Ok (DI ts m x kd) λB=>(∀s,s∈B↔Ans kd (FH ts) m x s)/\B.length<=117649:=by
 have A:m≠[]:=λz=>by have:=hs.1;rw[z]at this;simp at this;lia
 by_cases k:kd = "one"
 ·subst k
  refine(mG h hs.2.1 (aj hs.2.2) A (by rw[hs.1];exact w) x).imp λB l=>⟨λs=>(l.1 s).trans ?_,l.2⟩
  rfl
 ·refine(mK h C hs.2.1 A (by rw[hs.1];exact w) x k).imp λB l=>⟨λs=>(l.1 s).trans ?_,l.2⟩
  unfold Ans;rw[qY k]
end
open L2 L4
theorem mC{ρ l:Type}{s0:l}{n:Nat}{c:l->Option Bool}{q:l->Option (Fw ρ l)}{R:ρ->Prop}(I:l->Prop)(m:l->Nat)(o:I s0)(w:m s0 < n)(h:∀s,I s->∃b,c s=some b/\(b=true->OkF (q s) (λs'=>I s'/\m s' < m s) λG=>False)):OkF (whF c q n s0) (λs=>I s/\c s=some false) R:=by
 obtain⟨s',e,A,B⟩:=Sg I m (λs C=>by
  obtain⟨b,hb,E⟩:=h s C;cases b
  ·exact .inl hb
  ·rcases E rfl with⟨s',e,h⟩ | ⟨_,_,z⟩
   ·exact .inr ⟨hb,s',e,h⟩
   ext) n s0 o w
 exact .inl ⟨s',e,A,B⟩
theorem Sw{A:Type}:∀{l a b:List A},l.Nodup->a.Sublist l->b.Sublist l->(∀x,x∈a↔x∈b)->a=b
 | [],a,b,_,m,hb,_=>by ext
 | x :: l,a,b,B,m,hb,h=>by
  obtain⟨o,w⟩:=BJ.mp B
  cases m with
  | cons _ m=>
   cases hb with
   | cons _ hb=>exact Sw w m hb h
   | cons_cons _ hb=>exact zX (m.subset ((h x).mpr AW)) o
  | cons_cons _ m=>
   cases hb with
   | cons _ hb=>exact zX (hb.subset ((h x).mp AW)) o
   | cons_cons _ hb=>
    congr 1
    refine Sw w m hb λy=>?_
    grind
theorem m9(l:List ZLi):(ddR l).Nodup:=by
 have m:∀(r l:List ZLi),(ddR l).Nodup->(ddR (l++r)).Nodup:=by
  intro r
  induction r with
  | nil=>simp
  | cons x r o=>
   intro l h;rw[show l++x :: r=(l++[x])++r by simp];refine o _ ?_;rw[K0];split
   ·exact h
   ·exact Jf.mpr ⟨h,by assumption⟩
 exact m l [] .nil
open L2 L4
open Srt (ltL)
section
variable{o g:Nat}{ts:List ZPi}{kd:Str}{T:TL}
theorem ko(l:o < 8)(m:g<=o)(w:1<=g)(h:Stg o g r):∃n:Nat,(sts o g)[n]?=some r/\n < (sts o g).length:=by
 obtain⟨n,A,e⟩:=CD ((ES l m w).mpr h);exact⟨n,by ext,A⟩
theorem Wl(h:(sts o g)[n]?=some r):c∈clS o g n↔(0<=c/\c < (o:Int))/\c∉r:=by
 unfold clS;rw[Az,CQ,Nq h];simp
theorem QK(G:o < 8)(H:g<=o)(I:1<=g):r∈((CI 0 (sts o g).length).filter λn=>!(AT T n).isSome).map (evN o g)↔∃n:Nat,(sts o g)[n]?=some r/\AT T (n:Int)=none:=by
 rw[Ax]
 constructor
 ·rintro⟨x,B,rfl⟩
  obtain⟨C,J⟩:=Az.mp B;obtain⟨m,L⟩:=CQ.mp C;have w:=AI (l:=sts o g) (i:=x.toNat) (by ext);have:=Nq w;rw[BG m]at this;refine⟨x.toNat,by rw[this];exact w,?_⟩;rw[BG m];ext
 ·rintro⟨n,A,E⟩
  exact⟨(n:Int),Az.mpr ⟨CQ.mpr ⟨by lia,by have:=(AJ.mp A).1;ext⟩,by rw[E];rfl⟩,Nq A⟩
theorem TR(h:Gu o ts)(m:o < 8)(A:g<=o)(w:1<=g)(G:g<=6)(hs:Stg o g r)(H:c∉r):Ok (D3 ts r c kd) λl=>(∀r',r'∈l↔Stg o g r'/\Lk kd (FH ts) r r'/\c∈r')/\l.length<=1000:=by
 obtain⟨B,I,N,J⟩:=lans h m hs w G c kd;have ϥ:=h.ties m
 have C:∀r',r'∈B.map CK↔Stg o g r'/\Lk kd (FH ts) r r'/\c∈r':=λr'=>by
  rw[<-im ϥ hs H,Ax];ext
 obtain⟨-,-,-,L⟩:=Jv o m g (by grind) A w;have O:(ddR (B.map CK)).length<=35:=A7 (Gr (m9 _) λx E=>(ES m A w).mpr ((C x).mp (X6.mp E)).1) L;unfold D3 Ij;rw[I];simp only[AE];rw[EG (f:=CK) ∅ λM M=>rfl];simp only[AE]
 rw[show L7.setRO (B.map CK)=some (Yn (B.map CK))from qX ⟨Ju.mpr λx E=>by
  grind,by lia⟩]
 refine⟨_,rfl,λr'=>?_,?_⟩
 ·unfold Yn
  rw[(Cz _).mem_iff,X6];exact C r'
 ·unfold Yn
  rw[(Cz _).length_eq]
  lia
def bh(ts:List ZPi)(kd:Str)(r:ZLi)(c:Int):List ZLi:=(D3 ts r c kd).getD []
def Clo(o:Nat)(ts:List ZPi)(kd:Str)(L:List ZLi)(r:ZLi):Prop:=∀c,0<=c->c < (o:Int)->c∉r->∃x∈bh ts kd r c,x∈L
theorem X9(h:Gu o ts)(B:o < 8)(C:g<=o)(E:1<=g)(X:g<=6){L:List ZLi}{n:Nat}(w:(sts o g)[n]?=some r):Clo o ts kd L r↔∀c∈clS o g n,∃j P,BS o g (FH ts) kd n c j/\(sts o g)[j]?=some P/\P∈L:=by
 have Y:=A2 w;have Z:=(ES B C E).mp Y
 have A:∀c∈clS o g n,∀x,x∈bh ts kd r c↔∃j,BS o g (FH ts) kd n c j/\(sts o g)[j]?=some x:=λc m x=>by
  have yt:=((Wl w).mp m).2;obtain⟨l,e,h2,-⟩:=TR (kd:=kd) h B C E X Z yt;unfold bh;rw[e];refine(h2 x).trans ⟨λ⟨a,q⟩=>?_,λ⟨j,⟨r1,r2,Q,R,q⟩,S⟩=>?_⟩
  ·obtain⟨j,U,-⟩:=ko B C E a
   exact⟨j,⟨r,x,w,U,q⟩,U⟩
  ·rw[w]at Q
   rw[S]at R;cases Q;cases R;exact⟨(ES B C E).mp (A2 S),q⟩
 constructor
 ·intro z c m
  obtain⟨⟨G,H⟩,I⟩:=(Wl w).mp m;obtain⟨x,x1,J⟩:=z c G H I;obtain⟨j,N,O⟩:=(A c m x).mp x1;exact⟨j,x,N,O,J⟩
 ·intro z c G H I
  have m:=(Wl w).mpr ⟨⟨G,H⟩,I⟩;obtain⟨j,x,N,O,J⟩:=z c m;exact⟨x,(A c m x).mpr ⟨j,N,O⟩,J⟩
abbrev Lst(o g:Nat)(T:TL):List ZLi:=((CI 0 (sts o g).length).filter λn=>!(AT T n).isSome).map (evN o g)
theorem QJ:(Lst o g T).Sublist (sts o g):=by
 have e:(CI 0 (sts o g).length).map (evN o g)=sts o g:=D5 λi=>by
  rw[Ab];unfold CI;rw[Ab]
  by_cases c:i < (sts o g).length
  ·rw[EM c,AI c]
   simp only[Option.map_some]
   congr 1
   have:=Nq (AI c);rw[<-this]
   congr 1
   lia
  ext
 conv=>rhs;rw[<-e]
 exact Hi.map _
theorem cG(h:Gu o ts)(l:o < 8)(m:g<=o)(w:1<=g)(G:g<=6)(F:Fa (sts o g).length (clS o g) (BS o g (FH ts) kd) T):∀r∈Lst o g T,Clo o ts kd (Lst o g T) r:=λr H=>by
 obtain⟨n,B,I⟩:=(QK l m w).mp H;rw[X9 h l m w G B];intro c J;obtain⟨j,C,A⟩:=F.no n (AJ.mp B).1 I c J;obtain⟨N,L,O,E,q⟩:=id C;exact⟨j,L,C,E,(QK l m w).mpr ⟨j,E,A⟩⟩
theorem dF(h:Gu o ts)(B:o < 8)(C:g<=o)(E:1<=g)(H:g<=6)(F:Fa (sts o g).length (clS o g) (BS o g (FH ts) kd) T){M:List ZLi}(I:∀r∈M,r∈sts o g)(J:∀r∈M,Clo o ts kd M r):∀r∈M,r∈Lst o g T:=by
 have m:∀(k:Nat) (n:Nat) (r:ZLi) (z:Int×Int),(sts o g)[n]?=some r->AT T (n:Int)=some z->z.1 < k->r∉M:=by
  intro k
  induction k with
  | zero=>intro n r z _ w L;have:=(F.ok n z w).1;lia
  | succ k N=>
   intro n r z A w L l;obtain⟨-,O,P,-⟩:=F.ok n z w;obtain⟨j,Q,R,S,U⟩:=(X9 h B C E H A).mp (J r l) _ O;obtain⟨y,X,Z⟩:=P j R;exact N j Q y S X ∅ U
 intro r l;obtain⟨n,A,e⟩:=CD (I r l)
 have G:(sts o g)[n]?=some r:=by rw[AI A,e]
 refine(QK B C E).mpr ⟨n,G,?_⟩
 cases Y:AT T (n:Int)with
 | none=>rfl
 | some z=>exact zX l (m (z.1.toNat+1) n r z G Y ∅)
end
open L2 L4
open L7 (BK)
section
variable{κ α:Type}[DecidableEq κ]
theorem LI{k:κ}:∀{l:List (κ×α)},k∈l.map (·.1)↔(AT l k).isSome=true
 | []=>by simp[AT]
 | p :: l=>by
  have m:=LI (k:=k) (l:=l);unfold AT at m ⊢
  grind
theorem P5(l:List (κ×α))(k:κ)(v:α):(Cm l k v).map (·.1)=if k∈l.map (·.1)then l.map (·.1)else l.map (·.1)++[k]:=by
 unfold Cm
 have m:((l.any λo=>decide (o.1=k))=true)↔k∈l.map (·.1):=by simp[HA]
 by_cases c:k∈l.map (·.1)
 ·rw[qX (m.mpr c),qX c,Aw]
  refine By λx G=>?_
  show(if x.1=k then(x.1,v)else x).1=x.1
  split <;> rfl
 grind
theorem lO{l:List (κ×α)}{k:κ}{v:α}(h:(l.map (·.1)).Nodup):((Cm l k v).map (·.1)).Nodup:=by
 rw[P5];split
 ·exact h
 ·exact Jf.mpr ⟨h,by assumption⟩
theorem lQ{l:List (κ×α)}{k:κ}{v:α}(h:AT l k=none):(Cm l k v).length=l.length+1:=by
 have:=congrArg Dg (P5 l k v);rw[qY (by rw[LI,h];simp)]at this;ext
theorem bM{l:List (κ×α)}{k:κ}{v:α}:l.length<=(Cm l k v).length:=by
 have:=congrArg Dg (P5 l k v)
 split at this <;> simp at this <;> ext
end
section
variable{o g:Nat}{ts:List ZPi}{kd:Str}
structure Bh(o g:Nat)(ts:List ZPi)(kd:Str)(l:List BK):Prop where
 ky:∀k,k∈l.map (·.1)↔k.1∈sts o g/\(0<=k.2/\k.2 < (o:Int))/\k.2∉k.1
 vl:∀k∈l.map (·.1),AT l k=some (bh ts kd k.1 k.2)
 ln:l.length<=1000
theorem gE(h:Gu o ts)(B:o < 8)(C:g<=o)(E:1<=g)(h6:g<=6){R:(List (ZLi×Int)×List BK)->Prop} :
  OkF (BZ (sts o g) [] λ(s2:List BK) G=>BW (λuZ=>uZ) (((some (o:Int)).bind Ex).bind λy9=>BZ y9 s2 λ(T:List BK) H=>BW (λvp=>vp) (if (!decide (H∈G))=true then BW (λwD=>wD) ((D3 ts G H kd).bind λuy=>(B2 T (G,H) uy).bind λyk=>some (.nx yk))else some (.nx T)))) (Bh o g ts kd) R:=by
 obtain⟨-,-,-,hl⟩:=Jv o B g (by grind) C E
 refine OkF.imp (OkF.for (λpre (l:List BK)=>(∀k,(AT l k).isSome=true↔k.1∈pre/\(0<=k.2/\k.2 < (o:Int))/\k.2∉k.1)/\(∀k v,AT l k=some v->v=bh ts kd k.1 k.2)/\l.length<=8 * pre.length) ⟨λk=>by simp[AT],λk v e=>by simp[AT]at e,by simp⟩ ?_) ?_ λM z=>z
 ·rintro pre r l hr hp ⟨I,J,U⟩
  have rm:pre.length+1<=(sts o g).length:=by have:=hp.length_le;simpa using this
  refine OkF.map (OkF.of (P:=(· = CI 0 o)) ⟨_,by rw[AE,Mw ∅ ∅,Ay],rfl⟩ ?_) λM z=>z
  rintro _ rfl
  refine OkF.imp (OkF.for (λw (m:List BK)=>(∀k,(AT m k).isSome=true↔(k.1∈pre∨k.1=r/\k.2∈w)/\(0<=k.2/\k.2 < (o:Int))/\k.2∉k.1)/\(∀k v,AT m k=some v->v=bh ts kd k.1 k.2)/\m.length<=8 * pre.length+w.length) ⟨λk=>by rw[I];simp,J,by simpa using U⟩ ?_) ?_ λM z=>z
  ·rintro w c m hc L ⟨X,O,Y⟩
   have tS:w.length+1<=o:=by have:=L.length_le;rw[Ck]at this;simpa using this
   obtain⟨c0,c1⟩:=CQ.mp hc
   refine OkF.map (N:=λA:List BK=>(∀k,(AT A k).isSome=true↔(k.1∈pre∨k.1=r/\k.2∈w++[c])/\(0<=k.2/\k.2 < (o:Int))/\k.2∉k.1)/\(∀k v,AT A k=some v->v=bh ts kd k.1 k.2)/\A.length<=8 * pre.length+(w++[c]).length) (OkF.ite (λQ=>?_) λQ=>?_) λM z=>z
   ·have S:c∉r:=by simpa using Q
    obtain⟨b,Z,-,-⟩:=TR (kd:=kd) h B C E h6 ((ES B C E).mp hr) S
    have ebh:b=bh ts kd r c:=by unfold bh;rw[Z];rfl
    refine OkF.map (N:=λA:List BK=>A=Cm m (r,c) b) ?_ ?_
    ·rw[Z]
     simp only[AE];unfold B2;rw[qX ∅];exact .nx rfl
    ·rintro _ rfl
     refine⟨λk=>?_,λk v e=>?_,?_⟩
     ·rw[CG]
      by_cases e:k=(r,c)
      ·subst e
       rw[qX rfl];exact⟨λM=>⟨.inr ⟨rfl,by simp⟩,⟨by ext,by ext⟩,S⟩,λM=>rfl⟩
      grind
     ·rw[CG]at e
      grind
     ·have:=Kq m (r,c) b
      rw[AS,Ap]
      lia
   ·have S:c∈r:=by simpa using Q
    refine .nx ⟨λk=>?_,O,by rw[AS];lia⟩
    grind
  ·rintro m ⟨X,O,Y⟩
   refine⟨λk=>?_,O,by rw[Ck]at Y;rw[AS,Ap];lia⟩;rw[X,Ak,Au]
   constructor
   ·rintro⟨q | ⟨q,-⟩,z⟩
    ·exact⟨.inl q,z⟩
    ·exact⟨.inr q,z⟩
   ·rintro⟨q | q,z⟩
    ·ext
    ·exact⟨.inr ⟨q,CQ.mpr ⟨z.1.1,by ext⟩⟩,z⟩
 ·rintro l ⟨I,J,U⟩
  refine⟨λk=>LI.trans (I k),λk hk=>?_,by lia⟩;have:=LI.mp hk
  cases e:AT l k with
  | none=>ext
  | some v=>rw[J k v e]
end
abbrev FV:=List (ZLi×Int)
section
variable{o g:Nat}{ts:List ZPi}{kd:Str}
theorem dM(h:Gu o ts)(l:o < 8)(m:g<=o)(w:1<=g)(A:g<=6)(B:r∈sts o g)(C:c∉r):(bh ts kd r c).length<=1000/\∀x∈bh ts kd r c,x∈sts o g:=by
 obtain⟨b,E,b1,b2⟩:=TR (kd:=kd) h l m w A ((ES l m w).mp B) C;unfold bh;rw[E];exact⟨b2,λx G=>(ES l m w).mpr ((b1 x).mp G).1⟩
structure Rd(o g:Nat)(ts:List ZPi)(kd:Str)(s:Int×Int×FV):Prop where
 rg:∀r t,AT s.2.2 r=some t->r∈sts o g/\t<=s.2.1
 nd:(s.2.2.map (·.1)).Nodup
 cl:∀M:List ZLi,(∀r∈M,r∈sts o g)->(∀r∈M,Clo o ts kd M r)->∀r∈M,AT s.2.2 r=none
 dn:s.1=(s.2.2.length:Int)->∀r∈sts o g,AT s.2.2 r=none->∀c,0<=c->c < (o:Int)->c∉r->∃x∈bh ts kd r c,AT s.2.2 x=none
 le:s.1<=s.2.2.length
theorem Rd.len(h:Rd o g ts kd s):s.2.2.length<=(sts o g).length:=by
 have:=Gr h.nd (k:=sts o g) λr l=>by
  have:=LI.mp l
  cases e:AT s.2.2 r with
  | none=>rw[e]at this;cases this
  | some t=>exact(h.rg r t e).1
 simpa using this
theorem iP(h:Gu o ts)(P:o < 8)(Q:g<=o)(S:1<=g)(T:g<=6){l:List BK}(hb:Bh o g ts kd l){s:Int×Int×FV}(hs:Rd o g ts kd s){R:(FV×List BK)->Prop} :
  OkF (BZ (l.map (·.1)) [] λ(w:(List (ZLi×Int))) A=>AU (((AT l A).bind λB=>Bn B (λJ=>some true) (λJ=>some (decide (((AT s.2.2 J).getD (s.2.1+(1:Int))) < (s.2.1+(1:Int)))))).bind λC=>some (.nx C)) λU=>BW (λE=>E) ((if (!(AT s.2.2 A.1).isSome)=true then some (U.all id)else some false).bind λG=>if G=true then BW (λH=>H) ((HW w A).bind λI=>some (.nx I))else some (.nx w)))
   (λfr:List (ZLi×Int)=>(∀k,k∈fr↔k∈l.map (·.1)/\AT s.2.2 k.1=none/\∀x∈bh ts kd k.1 k.2,(AT s.2.2 x).isSome=true)) R:=by
 have X:(l.map (·.1)).length<=1000:=by rw[AF];exact hb.ln
 refine OkF.imp (OkF.for (λpre (fr:List (ZLi×Int))=>(∀k,k∈fr↔k∈pre/\AT s.2.2 k.1=none/\∀x∈bh ts kd k.1 k.2,(AT s.2.2 x).isSome=true)/\fr.length<=pre.length) ⟨λk=>by simp,by simp⟩ ?_) (λfr z=>z.1) λM z=>z
 rintro pre k fr L Y ⟨Z,i2⟩
 have rm:pre.length+1<=(l.map (·.1)).length:=by have:=Y.length_le;rw[AS]at this;exact this
 obtain⟨k1,-,k3⟩:=(hb.ky k).mp L;obtain⟨b1,b2⟩:=dM (kd:=kd) h P Q S T k1 k3
 have lt:∀x,decide (((AT s.2.2 x).getD (s.2.1+(1:Int))) < (s.2.1+(1:Int)))=(AT s.2.2 x).isSome:=λx=>by
  cases e:AT s.2.2 x with
  | none=>simp
  | some t=>
   have:=(hs.rg x t e).2;simp
   lia
 rw[hb.vl k L];simp only[AE];rw[EG (f:=λx=>(AT s.2.2 x).isSome) ∅ λx M=>by rw[lt]];simp only[AE,BH]
 have O:((bh ts kd k.1 k.2).map λx=>(AT s.2.2 x).isSome).all id=true↔∀x∈bh ts kd k.1 k.2,(AT s.2.2 x).isSome=true:=by simp
 have fin:∀m:List (ZLi×Int),(∀q,q∈m↔q∈fr∨(q=k/\AT s.2.2 k.1=none/\∀x∈bh ts kd k.1 k.2,(AT s.2.2 x).isSome=true))->∀q,q∈m↔q∈pre++[k]/\AT s.2.2 q.1=none/\∀x∈bh ts kd q.1 q.2,(AT s.2.2 x).isSome=true:=λm hf q=>by
  rw[hf,Z,Ak,Au]
  constructor
  ·rintro(⟨a,z⟩ | ⟨rfl,z⟩)
   ·exact⟨.inl a,z⟩
   ·exact⟨.inr rfl,z⟩
  ·rintro⟨a | rfl,z⟩
   ·exact .inl ⟨a,z⟩
   ·exact .inr ⟨rfl,z⟩
 refine OkF.map (N:=λm:List (ZLi×Int)=>(∀q,q∈m↔q∈pre++[k]/\AT s.2.2 q.1=none/\∀x∈bh ts kd q.1 q.2,(AT s.2.2 x).isSome=true)/\m.length<=(pre++[k]).length) ?_ λM z=>z
 by_cases c:AT s.2.2 k.1=none/\∀x∈bh ts kd k.1 k.2,(AT s.2.2 x).isSome=true
 ·rw[c.1]
  simp only[W3,IJ,if_true,O.mpr c.2,AE];rw[PJ ∅];refine .nx ⟨fin _ λq=>?_,by simp;ext⟩;rw[Ak,Au];exact⟨λz=>z.imp id λe=>⟨e,c⟩,λz=>z.imp id λe=>e.1⟩
 ·have:(if (!(AT s.2.2 k.1).isSome)=true then some (((bh ts kd k.1 k.2).map λx=>(AT s.2.2 x).isSome).all id)else some false)=some false:=by
   by_cases e:AT s.2.2 k.1=none
   ·rw[e]
    simp only[W3,IJ,if_true]
    congr 1
    exact Bool.eq_false_iff.mpr λz=>c ⟨e,O.mp z⟩
   ·cases e2:AT s.2.2 k.1 with
    | none=>exact zX e2 e
    | some t=>rfl
  rw[this];simp only[AE,A5,if_false];exact .nx ⟨fin _ λq=>⟨.inl,λz=>z.elim id λz=>zX z.2 c⟩,by simp;lia⟩
theorem lN(P:o < 8)(Q:g<=o)(S:1<=g){s:Int×Int×FV}(hs:Rd o g ts kd s){fr:List (ZLi×Int)}(O:∀k∈fr,k.1∈sts o g/\AT s.2.2 k.1=none){R:(FV×List BK)->Prop} :
  OkF (BZ fr.reverse s.2.2 λ(A:(List (ZLi×Int))) x82=>BW (λB=>B) ((B2 A x82.1 (s.2.1+(1:Int))).bind λC=>some (.nx C)))
   (λf:FV=>(∀r,AT f r=if r∈fr.map (·.1)then some (s.2.1+1)else AT s.2.2 r)/\(f.map (·.1)).Nodup/\s.2.2.length<=f.length/\(fr≠[]->s.2.2.length < f.length)) R:=by
 obtain⟨-,-,-,hl⟩:=Jv o P g ∅ Q S;have za:=hs.len
 refine OkF.imp (OkF.for (λpre (f:FV)=>(∀r,AT f r=if r∈pre.map (·.1)then some (s.2.1+1)else AT s.2.2 r)/\(f.map (·.1)).Nodup/\s.2.2.length<=f.length/\(pre≠[]->s.2.2.length < f.length)) ⟨λr=>by simp,hs.nd,AN _,λz=>zX rfl z⟩ ?_) (λf ⟨m,w,E,G⟩=>⟨λr=>?_,w,E,λz=>G (by simpa using z)⟩) λM z=>z
 ·rintro pre k f T U ⟨m,w,E,G⟩
  have H:k∈fr:=G9.mp T;obtain⟨k1,X⟩:=O k H
  have I:∀r∈pre.map (·.1),r∈sts o g:=λr J=>by
   obtain⟨q,Y,rfl⟩:=Ax.mp J;exact(O q (G9.mp (U.subset (CM _ Y)))).1
  have fl:f.length<=35:=by
   have:=Gr w (k:=sts o g) λr J=>by
    have:=LI.mp J;rw[m]at this
    by_cases e:r∈pre.map (·.1)
    ·exact I r e
    ·rw[qY e]at this
     cases l:AT s.2.2 r with
     | none=>rw[l]at this;cases this
     | some t=>exact(hs.rg r t l).1
   rw[AF]at this
   lia
  refine OkF.map (N:=λZ:FV=>Z=Cm f k.1 (s.2.1+1)) ?_ ?_
  ·unfold B2
   rw[qX ∅];exact .nx rfl
  ·rintro _ rfl
   refine⟨λr=>?_,lO w,A7 E bM,λM=>?_⟩
   ·have L:r∈(pre++[k]).map (·.1)↔r∈pre.map (·.1)∨r=k.1:=by rw[Be,Ak];simp
    rw[CG,m]
    by_cases e:r=k.1
    ·rw[qX e,qX (L.mpr (.inr e))]
    ·rw[qY e]
     by_cases l:r∈pre.map (·.1)
     ·rw[qX l,qX (L.mpr (.inl l))]
     ·rw[qY l,qY λz=>(L.mp z).elim l e]
   ·by_cases e:pre=[]
    ·subst e
     have:AT f k.1=none:=by rw[m];simpa using X
     rw[lQ this]
     lia
    ·exact Aa (G e) bM
 ·rw[m]
  simp only[On,G9]
set_option tactic.hygienic true in
theorem iH(h:Gu o ts)(A:o < 8)(B:g<=o)(C:1<=g)(L:g<=6):Ok (FU ts o (sts o g) kd) λv=>Bh o g ts kd v.2 /\
  (∀M:List ZLi,(∀r∈M,r∈sts o g)->(∀r∈M,Clo o ts kd M r)->∀r∈M,AT v.1 r=none) /\
  ∀r∈sts o g,AT v.1 r=none->∀c,0<=c->c < (o:Int)->c∉r->∃x∈bh ts kd r c,AT v.1 x=none:=by
 obtain⟨-,-,-,P⟩:=Jv o A g ∅ B C;unfold FU Ii;simp only[BH];refine OkF.out (OkF.seq (gE h A B C L) λbd hb=>?_)
 refine OkF.seq (mC (Rd o g ts kd) (λs=>2 * ((sts o g).length - s.2.2.length)+if s.1=(s.2.2.length:Int)then 0 else 1) ⟨λr t e=>by simp[AT]at e,.nil,λ_ _ _ _ _=>by simp[AT],λz=>by simp at z,by simp⟩ (by
  have:(sts o g).length<=35:=P;show _+_ < wN;unfold wN
  split <;> lia) ?_) ?_
 ·intro s l
  refine⟨_,rfl,λG=>?_⟩
  have G:s.1≠(s.2.2.length:Int):=by simpa using G
  simp only[AE,iU,BH]
  refine OkF.seq (iP h A B C L hb l) λfr Ϧ=>?_
  have N:∀k∈fr,k.1∈sts o g/\AT s.2.2 k.1=none:=λk m=>by
   obtain⟨a,b,-⟩:=(Ϧ k).mp m;exact⟨((hb.ky k).mp a).1,b⟩
  refine OkF.map (lN A B C l N) ?_;rintro f ⟨H,Q,f3,R⟩
  have rd:Rd o g ts kd ((s.2.2.length:Int),s.2.1+1,f):=by
   refine⟨λr t e=>?_,Q,λM O w r E=>?_,λz r E I c S T U=>?_,by show(s.2.2.length:Int)<=f.length;ext⟩
   ·rw[show((s.2.2.length:Int),s.2.1+1,f).2.2=f from rfl,H]at e
    split at e
    ·rename_i J
     cases e;obtain⟨k,m,rfl⟩:=Ax.mp J;exact⟨(N k m).1,by show s.2.1+1<=s.2.1+1;ext⟩
    ·obtain⟨a,b⟩:=l.rg r t e
     exact⟨a,by show t<=s.2.1+1;lia⟩
   ·show AT f r=none
    rw[H,qY,l.cl M O w r E];intro J;obtain⟨k,m,rfl⟩:=Ax.mp J;obtain⟨a,-,b⟩:=(Ϧ k).mp m;obtain⟨-,⟨X,Y⟩,Z⟩:=(hb.ky k).mp a;obtain⟨x,x1,x2⟩:=w k.1 E k.2 X Y Z;have:=b x x1;rw[l.cl M O w x x2]at this;cases this
   ·have z:(s.2.2.length:Int)=f.length:=z
    have fe:fr=[]:=BR λq=>by have:=R q;grind
    subst fe
    have same:∀r,AT f r=AT s.2.2 r:=λr=>by rw[H];simp
    have I:AT s.2.2 r=none:=by rw[<-same];exact I
    have kk:=(hb.ky (r,c)).mpr ⟨E,⟨S,T⟩,U⟩
    refine BR λq=>?_
    have:=(Ϧ (r,c)).mpr ⟨kk,I,λx hx=>by
     cases e:AT s.2.2 x with
     | none=>exact zX ⟨x,hx,by show AT f x=none;rw[same,e]⟩ q
     | some t=>rfl⟩
    cases this
  refine⟨rd,?_⟩;have l1:=rd.len;have l2:=l.len;have l3:f.length<=(sts o g).length:=l1
  show 2 * ((sts o g).length - f.length)+(if (s.2.2.length:Int)=(f.length:Int)then 0 else 1) < 2 * ((sts o g).length - s.2.2.length)+if s.1=(s.2.2.length:Int)then 0 else 1
  rw[qY G]
  split <;> grind
 ·rintro s ⟨l,w⟩
  have e:s.1=(s.2.2.length:Int):=by simpa using w
  exact .rt ⟨hb,l.cl,l.dn e⟩
end
theorem gc:∀o:Nat,o < 8->decide (((prs o).map Na).Pairwise λa b=>Srt.ltL b a=false)=true:=by decide +kernel
theorem Yd{o:Nat}(l:o < 8)(P:Int×Int->Bool):FH ((prs o).filter P)=(prs o).filter P:=by
 have m:=XT l P
 have w:(((prs o).filter P).map Na).Pairwise λa b=>Srt.ltL b a=false:=(of_decide_eq_true (gc o l)).sublist (Hi.map Na)
 have e:MA ((prs o).filter P)=((prs o).filter P).map Na:=by
  unfold MA;rw[show((prs o).filter P).map (λx=>Na (nrm x))=(((prs o).filter P).map nrm).map Na by rw[Aw];rfl,m.nrm];exact LG (Cz _) (Ka _) w
 unfold FH;rw[e,Aw];exact(By λx G=>gC x).trans (PR _)
theorem kW(r:ZLi)(h:r.length<=1000):EX r=some true:=by
 unfold EX HH;simp only[C1,A5,if_false,BH,if_true,IJ];rw[EG (f:=λG=>true) ∅ λG G=>rfl];simp only[AE];rw[show(r.map λG=>true).all id=true by simp];rfl
theorem ja{x:ZLi}{l:List ZLi}(h:x∈l):inG x l=true:=by simpa[inG]using h
theorem qU{x:ZLi}{l:List ZLi}(h:x∉l):inG x l=false:=by simpa[inG]using h
theorem qR(m:ZLi)(uH:m.length<=63):Xl m=some true:=by
 refine Ok.is (v:=true) ?_;unfold Xl bL;rw[show Bt m 0=some (m.getD 0 0)from Qi m 0,show Bt m 1=some (m.getD 1 0)from Qi m 1,show Bt m 2=some (m.getD 2 0)from Qi m 2];simp only[AE,BH]
 have ho:∃o:Nat,2<=o/\o < 8/\(2+m.getD 0 0 % 5+if decide (m.getD 0 0 / 84 % 8=1)=true then 1 else 0)=(o:Int):=
  ⟨(2+m.getD 0 0 % 5+if decide (m.getD 0 0 / 84 % 8=1)=true then 1 else 0).toNat,by split <;> omega,by split <;> omega,by split <;> lia⟩
 obtain⟨o,o2,w,eo⟩:=ho;rw[eo];obtain⟨P,e1⟩:=kY m uH 3 ∅ o2 w;rw[show Fd m 3 o=_ from e1];have A:=XT w P;have R:=Yd w P;generalize (prs o).filter P=ts at A R;simp only[AE,BH];obtain⟨hs,e2,S⟩:=cc m (ts:=ts) (by have:=A.ln;lia);rw[e2];simp only[AE];rw[A.web ∅ ∅ S];simp only[AE,BH,few2]
 have hg:∃g:Nat,1<=g/\g<=5/\g<=o/\(((atI [(3:Int),5] (if decide ((o:Int) < 6)=true then 1 else 0)).bind λU=>some (if U < (o:Int)then U else(o:Int))).bind λy8=>MD (m.getD 1 0) y8)=some ((g:Int) - 1):=by
  by_cases c:(o:Int) < 6
  ·rw[wX c,qX rfl,show atI [(3:Int),5] 1=some 5 from Hy ∅ rfl]
   simp only[AE]
   have X:(0:Int) < (if (5:Int) < (o:Int)then(5:Int)else(o:Int))/\(if (5:Int) < (o:Int)then(5:Int)else(o:Int))<=5/\(if (5:Int) < (o:Int)then(5:Int)else(o:Int))<=o:=by split <;> lia
   rw[TK X.1];have h1:=i7 (m.getD 1 0) (show(if (5:Int) < (o:Int)then(5:Int)else(o:Int))≠0 by omega);have S:=Zx (m.getD 1 0) X.1;exact⟨(m.getD 1 0 % (if (5:Int) < (o:Int)then(5:Int)else(o:Int))).toNat+1,by lia,by omega,by lia,by congr 1;lia⟩
  ·rw[wY c,qY Av,show atI [(3:Int),5] 0=some 3 from Hy ∅ rfl]
   simp only[AE];rw[qX (show(3:Int) < (o:Int) by lia),TK ∅];exact⟨(m.getD 1 0 % 3).toNat+1,by lia,by lia,by lia,by congr 1;lia⟩
 obtain⟨g,B,g5,go,eg⟩:=hg;rw[eg];simp only[AE,BH];rw[show(1:Int)+((g:Int) - 1)=(g:Int) by lia]
 obtain⟨kd,ek⟩:∃kd:Str,atI [("one" : Str), "all"] (m.getD 2 0 % 2)=some kd:=by
  obtain⟨x,E,-⟩:=YB (l:=[("one" : Str), "all"]) (m.getD 2 0) ∅;exact⟨x,E⟩
 rw[ek];simp only[AE,BH];have ϥ:=A.ties w;obtain⟨-,es,sf,hl⟩:=Jv o w g ∅ go B;obtain⟨T,Y,eL⟩:=mw (kd:=kd) ϥ go B
 have G:g<=6:=by lia
 have uv:=WC w go B;obtain⟨⟨C,bd⟩,ef,hb,Z,f2⟩:=iH (kd:=kd) A w go B G;dsimp only at hb Z f2;rw[es];simp only[AE,BH];rw[ef];simp only[AE,BH];rw[E2 (P:=λx=>!(AT C x).isSome) ∅ λM M=>rfl];simp only[AE,BH];rw[eL];simp only[AE,BH]
 have J:∀x,x∈(sts o g).filter (λx=>!(AT C x).isSome)↔x∈sts o g/\AT C x=none:=λx=>by
  rw[Az]
  cases AT C x <;> simp
 have H:((sts o g).filter λx=>!(AT C x).isSome).Sublist (sts o g):=Hi
 have O:∀r∈(sts o g).filter (λx=>!(AT C x).isSome),Clo o ts kd ((sts o g).filter λx=>!(AT C x).isSome) r:=λr I c c0 c1 c2=>by
  obtain⟨r1,r2⟩:=(J r).mp I;obtain⟨x,L,Q⟩:=f2 r r1 r2 c c0 c1 c2;exact⟨x,L,(J x).mpr ⟨(dM A w go B G r1 c2).2 x L,Q⟩⟩
 have eq:Lst o g T=(sts o g).filter λx=>!(AT C x).isSome:=Sw uv QJ H λx=>⟨λE=>(J x).mpr ⟨QJ.subset E,Z _ (λr I=>QJ.subset I) (cG A w go B G Y) x E⟩,dF A w go B G Y (λr I=>H.subset I) O x⟩
 rw[show((CI 0 (sts o g).length).filter λn=>!(AT T n).isSome).map (evN o g)=_ from eq];generalize (sts o g).filter (λx=>!(AT C x).isSome)=due at J H O eq;have vZ:=H.length_le;simp only[C1,A5,if_false,decide_true,BH]
 rw[EG (f:=λM=>true) ∅ λx E=>kW x (by
  have:=((ES w go B).mp (H.subset E)).1
  lia)]
 simp only[AE];rw[show(due.map λM=>true).all id=true by simp];simp only[C1,A5,if_false,BH];refine OkF.out (OkF.seq (OkF.for (λM M=>True) trivial ?_) λM M=>?_)
 ·intro pre k _ hk _ _
  obtain⟨k1,⟨k2,k3⟩,k4⟩:=(hb.ky k).mp hk;have hbh:=dM (kd:=kd) A w go B G k1 k4
  refine OkF.map (N:=λM=>True) ?_ λM M=>trivial
  rw[hb.vl k hk];simp only[AE];rw[EG (f:=λx=>inG x due) ∅ λM M=>rfl];simp only[AE]
  by_cases c:k.1∈due
  ·rw[ja c,qX rfl]
   obtain⟨x,L,Q⟩:=O k.1 c k.2 k2 k3 k4;rw[show((bh ts kd k.1 k.2).map λx=>inG x due).any id=true from HA.mpr ⟨true,Ax.mpr ⟨x,L,ja Q⟩,rfl⟩];exact .nx trivial
  ·rw[qU c]
   exact .nx trivial
 ·rw[iU]
  simp only[AE];rw[PJ ∅];simp only[AE,BH,decide_true,if_true];rw[wX R];exact .rt rfl
open L2 PySem.W
theorem nI{l:OpenLaw}{w:A1}{K:Frag}{h:BI}{B:Str->Option AD}{fa:AL}(X:K.In h)(G:h.Ns A9 B)(C:B "law" = some (.ref fa))
  {f1 f2 f3 f4 f5 f6 f7 f8 f9 E H I J L N O P Q R S U Y Z f24 f25 f26 f27 f28 f29 f30 f31 f32 f33 f34 f35 f36 A o m:AL} {su rq:Tok}
  (o_Web:ClsAt K "Web" o)
  (o_Field:ClsAt K "Field" m)
  (d1:Dh K "checked_ties" Kg f1)
  (d2:Dh K "near_sets_of" Ke f2)
  (d4:Dh K "refuse_no_place" IN f4)
  (d5:Dh K "near" bA f5)
  (d6:Dh K "takes_of" Pw f6)
  (d7:Dh K "bits_of" Rs f7)
  (d8:Dh K "members" Rp f8)
  (d9:Dh K "settle" Kd f9)
  (d10:Dh K "fits" bC E)
  (d11:Dh K "with_step" OD H)
  (d12:Dh K "sets_of" Ro I)
  (d13:Dh K "ways_to_choose" JF J)
  (d14:Dh K "how_many" Px L)
  (d15:Dh K "standings" OE N)
  (d22:Dh K "falling_now" Ls Y)
  (d23:Dh K "fallen" Uc Z)
  (d24:Dh K "lasting_bits" Kf f24)
  (d25:Dh K "lasting" Rq f25)
  (d26:Dh K "_law_cell_at" Kh f26)
  (d27:Dh K "_law_pairs" Mu f27)
  (d28:Dh K "_law_first_ties" IP f28)
  (d29:Dh K "_law_ties" OF f29)
  (d30:Dh K "_law_handed" Lu f30)
  (d31:Dh K "_law_near" OH f31)
  (d32:Dh K "_law_sets" OG f32)
  (d33:Dh K "_law_set_told" Jw f33)
  (d34:Dh K "_law_answers" Ki f34)
  (d35:Dh K "_law_behind" Lw f35)
  (d36:Dh K "_law_fallen" Lv f36)
  (d37:Dh K "law" bB A)
  (d3:L0 K o "__init__" "Web.__init__" Py f3)
  (d16:L0 K m "linked_by_one" "Field.linked_by_one" GY O)
  (d17:L0 K m "linked_by_all" "Field.linked_by_all" GZ P)
  (d18:L0 K m "__init__" "Field.__init__" Mv Q)
  (d19:L0 K m "calls" "Field.calls" Lx R)
  (d20:L0 K m "linked" "Field.linked" Ev S)
  (d21:L0 K m "behind" "Field.behind" Kj U)
  (mo:findIn K (.ref o) "places" = some none)
  (v0:findIn K (.ref o) "ties" = some none)
  (wn:findIn K (.ref o) "near_sets" = some none)
  (ld:findIn K (.ref m) "everything" = some none)
  (wv:findIn K (.ref m) "kind" = some none)
  (t0:findIn K (.ref m) "takes" = some none)
  (v9:findIn K (.ref m) "numbers" = some none)
  (wf:findIn K (.ref m) "having" = some none)
  (ww:findIn K (.ref m) "place_bits" = some none)
  (ul:findIn K (.ref m) "known" = some none)
  (z_all:MV K A9 "all" = some none)
  (z_any:MV K A9 "any" = some none)
  (z_bool:MV K A9 "bool" = some none)
  (z_enumerate:MV K A9 "enumerate" = some none)
  (z_int:MV K A9 "int" = some none)
  (z_isinstance:MV K A9 "isinstance" = some none)
  (z_len:MV K A9 "len" = some none)
  (z_list:MV K A9 "list" = some none)
  (z_max:MV K A9 "max" = some none)
  (z_min:MV K A9 "min" = some none)
  (z_range:MV K A9 "range" = some none)
  (z_reversed:MV K A9 "reversed" = some none)
  (z_set:MV K A9 "set" = some none)
  (z_sorted:MV K A9 "sorted" = some none)
  (z_sum:MV K A9 "sum" = some none)
  (z_tuple:MV K A9 "tuple" = some none)
  (Id:MV K A9 "MOST_PLACES" = some (some (.int 60 su)))
  (IO:MV K A9 "MOST_STANDINGS" = some (some (.int 400 rq)))
  : ∃(W:Wd) (T:Txt K B W),fa=T.tz.f/\∀(s:AK) (v:AD),Vc s T.tz.fd ⟨[v],[]⟩ [("script",v)]:=by
 obtain⟨zl,_,_,_,_,_,_,_,_,_,l,c,k⟩:=d37;have F:=ci (st:=bB) l c k
 let W:Wd:=⟨o,m⟩
 let T:Txt K B W:={
  KK:=mkD X G d1 bd2
  LE:=mkD X G d2 bd2
  wE:=mkM d3 bd3
  LT:=mkD X G d4 bd2
  ST:=mkD X G d5 bd2
  Tm:=mkD X G d6 bd1
  Ty:=mkD X G d7 bd1
  wP:=mkD X G d8 bd1
  em:=mkD X G d9 bd5
  wl:=mkD X G d10 bd3
  XL:=mkD X G d11 bd3
  aaa:=mkD X G d12 bd2
  aab:=mkD X G d13 bd2
  aac:=mkD X G d14 bd2
  aad:=mkD X G d15 bd2
  wS:=mkM d16 bd2
  wT:=mkM d17 bd2
  u8:=mkM d18 bd4
  xz:=mkM d19 bd2
  mt:=mkM d20 bd2
  xL:=mkM d21 bd3
  BT:=mkD X G d22 bd2
  aae:=mkD X G d23 bd1
  aaf:=mkD X G d24 bd2
  Cl:=mkD X G d25 bd3
  tt:=mkD X G d26 bd2
  Dd:=mkD X G d27 bd1
  aag:=mkD X G d28 bd2
  aah:=mkD X G d29 bd3
  aai:=mkD X G d30 bd2
  EE:=mkD X G d31 bd2
  aaj:=mkD X G d32 bd2
  aak:=mkD X G d33 bd1
  aal:=mkD X G d34 bd4
  aam:=mkD X G d35 bd4
  aan:=mkD X G d36 bd4
  tz:=⟨A,_,F,F.binds ((bd1 λM M M M M M M M M=>rfl) _ _),nV X G zl⟩
  gg:=mkO X G o_Web d3
  mo:=mo
  v0:=v0
  wn:=wn
  ce:=mkO X G o_Field d18
  ld:=ld
  wv:=wv
  t0:=t0
  v9:=v9
  wf:=wf
  ww:=ww
  ul:=ul
  aav:=mkE d16
  aaw:=mkE d17
  aax:=mkE d19
  aay:=mkE d20
  aaz:=mkE d21
  aap:=DA X G z_all
  aaA:=DA X G z_any
  aaB:=DA X G z_bool
  aat:=DA X G z_enumerate
  aaq:=DA X G z_int
  aao:=DA X G z_isinstance
  ss:=DA X G z_len
  aar:=DA X G z_list
  aaC:=DA X G z_max
  aas:=DA X G z_min
  dl:=DA X G z_range
  aau:=DA X G z_reversed
  aaD:=DA X G z_set
  sK:=DA X G z_sorted
  aaE:=DA X G z_sum
  ut:=DA X G z_tuple
  Id:=⟨su,nV X G Id⟩
  IO:=⟨rq,nV X G IO⟩ }
 refine⟨W,T,?_,λs v=>.of_eq rfl⟩;have e:=C.symm.trans (nV X G zl);cases e;rfl
theorem walk{l:OpenLaw}{q:Al}{m:List Str}{I:(Str->Option AD)->BI->Prop}{C:A1->BI->Prop}{d:DefRec}{K:Params->Frag}(J:l.most=some 63)(L:d.params.defaults=[])
  (N:∀(w:A1) (h:BI),C w h->(K w.params).In h)
  (F:∀(w:A1) (o:Str->Option AD) (A:AL) (h:BI),(K w.params).In h->h.Ns A9 o->o d.name=some (.ref A) ->
   ∃(W:Wd) (T:Txt (K w.params) o W),A=T.tz.f/\∀(s:AK) (v:AD),Vc s T.tz.fd ⟨[v],[]⟩ [("script",v)]) :
  WalkO q m I C l.row.toRowW d [] (λf vs=>YL f vs):=
 L2.e8 (n:=63) (k:=17) (x:="script") (CX:=λw=>CXG l.prog w) (sp:=λw=>au (K w.params)) J ∅ L ⟨rfl,by decide,by decide⟩ N
  (λw o A h O G P=>by
   obtain⟨W,T,e,hb⟩:=F w o A h O G P;subst e
   exact⟨T.tz.fd,hb,λE M M=>L7.law_trueN (λB=>pC T B) qR⟩)
  (λM M a B Q R S=>⟨a,B,rfl,frz_of R S,Q,λM=>rfl⟩) (λw H s e X z=>nC z)
end M
open PySem.W
set_option maxRecDepth 100000 in
set_option maxHeartbeats 0 in
theorem PySem.Challenge.cw_guardround_k18_who_lasts_holds : PySem.Challenge.rw_guardround_k18_who_lasts.Holds := by
 w_on;o_law;k_head;(case hw=>w_witness2)
 k_fill
 refine M.walk (l:=HZ) rfl rfl (λw h Y=>by first | exact kIn_of Y | exact km_in_of Y) ?F
 case F=>
  intro w mg fa h KX G vQ;refine' M.nI (l:=HZ) (w:=w) KX G vQ ?o_Web ?o_Field ?d1 ?d2 ?d4 ?d5 ?d6 ?d7 ?d8 ?d9 ?d10 ?d11 ?d12 ?d13 ?d14 ?d15 ?d22 ?d23 ?d24 ?d25 ?d26 ?d27 ?d28 ?d29 ?d30 ?d31 ?d32 ?d33 ?d34 ?d35 ?d36 ?d37 ?d3 ?d16 ?d17 ?d18 ?d19 ?d20 ?d21 ?mo ?v0 ?wn ?ld ?wv ?t0 ?v9 ?wf ?ww ?ul ?z_all ?z_any ?z_bool ?z_enumerate ?z_int ?z_isinstance ?z_len ?z_list ?z_max ?z_min ?z_range ?z_reversed ?z_set ?z_sorted ?z_sum ?z_tuple ?Id ?IO
  (case o_Web | o_Field=>exact⟨by k_is,by k_is,by k_is,by k_is,by k_is,by k_is,by k_is⟩)
  (case d1 | d2 | d4 | d5 | d6 | d7 | d8 | d9 | d10 | d11 | d12 | d13 | d14 | d15 | d22 | d23 | d24 | d25 | d26 | d27 | d28 | d29 | d30 | d31 | d32 | d33 | d34 | d35 | d36 | d37=>exact⟨by k_is,_,_,_,_,_,_,_,_,_,by k_is,by k_is,by k_is⟩)
  (case d3 | d16 | d17 | d18 | d19 | d20 | d21=>exact⟨by k_is,by k_is,_,_,_,_,_,_,_,_,_,by k_is,by k_is,by k_is⟩)
  (case mo | v0 | wn | ld | wv | t0 | v9 | wf | ww | ul | z_all | z_any | z_bool | z_enumerate | z_int | z_isinstance | z_len | z_list | z_max | z_min | z_range | z_reversed | z_set | z_sorted | z_sum | z_tuple | Id | IO=>k_is)
